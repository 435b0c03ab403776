import PyProof.Rows.All
import KE.KDictList
import KE.KIntText
import Open.SpecLaws
import KE.KStateDown
import KE.OsHead
import Wide.FinOn
import KE.BitLaws
import PyWqaqcl
import PySem.Challenge.RW_betwords_s05_has
section
set_option Elab.async false
section
set_option autoImplicit false
open PySem PySem.Spec PyProof.Rows
abbrev YV:=@wpAny_bind
abbrev YW:=@List.length_map
abbrev YX:=@if_neg
abbrev YY:=@if_pos
abbrev YZ:=@Heap.get?_push_of_some
abbrev Y0:=@List.mem_cons
abbrev Y1:=@List.getElem?_map
abbrev Y2:=@wpAny_pure
abbrev Y3:=@Bool.and_eq_true
abbrev Y4:=@decide_eq_true_eq
abbrev Y5:=@Nat.le_refl
abbrev Y6:=@List.getElem?_eq_getElem
abbrev Y7:=@List.length_cons
abbrev Y8:=@Heap.lt_size
abbrev Y9:=@List.getElem?_eq_some_iff
abbrev Y_:=@List.mem_singleton
abbrev Za:=@Heap.get?_push_size
abbrev Zb:=@List.map_cons
abbrev Zc:=@List.mem_cons_of_mem
abbrev Zd:=@List.map_append
abbrev Ze:=@of_decide_eq_true
abbrev Zf:=@List.size_toArray
abbrev Zg:=@List.length_append
abbrev Zh:=@List.length_take
abbrev Zi:=@Bool.false_ne_true
abbrev Zj:=@Heap.SameBut.update
abbrev Zk:=@List.map_map
abbrev Zl:=@sizeLine_eq
abbrev Zm:=@List.mem_of_getElem?
abbrev Zn:=@List.all_eq_true
abbrev Zo:=@Nat.zero_le
abbrev Zq:=@beq_eq_false_iff_ne
abbrev Zr:=@List.mem_map
abbrev Zs:=@List.length_replicate
abbrev Zu:=@Option.map_eq_some_iff
abbrev Zv:=@Nat.ne_of_lt
abbrev Zw:=@Option.some.inj
abbrev Zx:=@Bool.eq_iff_iff
abbrev Zy:=@decide_eq_true
abbrev Zz:=@Nat.lt_of_lt_of_le
abbrev ZC:=@decide_eq_false_iff_not
abbrev ZD:=@List.getD_eq_getElem?_getD
abbrev ZE:=@of_decide_eq_false
abbrev ZF:=@Int.toNat_natCast
abbrev ZG:=@List.mem_cons_self
abbrev ZH:=@Nat.le_trans
abbrev ZI:=@decide_eq_false
abbrev ZJ:=@List.mem_append
abbrev ZK:=@beq_iff_eq
abbrev ZL:=@Bool.not_eq_true'
abbrev ZM:=@List.length_drop
abbrev ZN:=@List.map_congr_left
abbrev ZO:=@Bool.not_eq_false'
abbrev ZP:=@List.nil_append
abbrev ZQ:=@List.take_of_length_le
abbrev ZR:=@List.take_length
abbrev ZS:=@List.mem_append_right
abbrev ZT:=@Heap.get?_update_self
abbrev ZU:=@Bool.or_eq_true
abbrev ZV:=@List.eq_of_mem_replicate
abbrev ZW:=@List.append_nil
abbrev ZX:=@List.getElem?_eq_none
abbrev ZY:=@List.length_pos_iff
abbrev ZZ:=@PassesOwn.never
abbrev Z0:=@congrArg
abbrev Z1:=@List.contains_eq_mem
abbrev Z2:=@Heap.size_push
abbrev Z3:=@List.mem_filter
abbrev Z4:=@Bool.or_eq_false_iff
abbrev Z5:=@List.nodup_cons
abbrev Z6:=@List.filter_cons
abbrev Z7:=@List.length_singleton
abbrev Z8:=@wpAny_truthy_bool
abbrev Z9:=@wpAny_callSpecial?_slot
abbrev Z_:=@PyProof.Rows.slot_tuple_getitem
abbrev aaa:=@wpAny_mono
abbrev aab:=@List.pairwise_cons
abbrev aac:=@wpAny_passesOwn
abbrev aad:=@Nat.lt_irrefl
abbrev aae:=@wpAny_call_entry
abbrev aaf:=@List.drop_eq_getElem_cons
abbrev aag:=@Bool.and_eq_false_iff
abbrev aah:=@List.map_nil
abbrev aai:=@Bool.false_eq_true
abbrev aaj:=@PyProof.Rows.callWith_type1
abbrev aak:=@wpAny_newObj_type
abbrev aal:=@List.append_assoc
abbrev aam:=@eq_of_beq
abbrev aan:=@List.foldl_cons
abbrev aao:=@decide_eq_true_iff
abbrev aap:=@List.sum_cons
abbrev aaq:=@List.any_cons
abbrev aar:=@List.mem_of_mem_drop
abbrev aas:=@List.length_nil
abbrev aat:=@F.slot_dict_keyiterator_next
abbrev aau:=@List.isEmpty_iff
abbrev aav:=@List.any_eq_true
abbrev aaw:=@List.find?_cons
abbrev aax:=@List.pairwise_iff_forall_sublist
abbrev aay:=@List.nodup_append
abbrev aaz:=@List.mem_of_mem_take
abbrev aaA:=@List.length_erase_of_mem
abbrev aaB:=@if_true
abbrev aaC:=@List.getElem?_range
abbrev aaD:=@Array.length_toList
abbrev aaE:=@decide_eq_decide
abbrev aaF:=@List.not_mem_nil
abbrev aaG:=@List.mem_range
abbrev aaH:=@List.lookup_cons
abbrev aaI:=@List.length_eq_zero_iff
abbrev aaJ:=@List.getElem_mem
abbrev aaK:=@List.drop_length
abbrev aaL:=@wpAny_typeNameOfWhole_keyiter
abbrev aaM:=@List.filter_append
abbrev aaN:=@List.drop_eq_nil_of_le
abbrev aaO:=@Heap.get?_update_other
abbrev aaP:=@wpAny_execs_nil
abbrev aaQ:=@if_false
abbrev aaR:=@Nat.min_eq_left
abbrev aaS:=@wpAny_holding
abbrev aaT:=@Nat.pow_le_pow_right
abbrev aaU:=@F.slot_tuple_iterator_next
abbrev aaV:=@Nat.pow_succ
abbrev aaW:=@List.mem_flatMap
abbrev aaX:=@List.cons_append
abbrev aaY:=@List.all_map
abbrev aaZ:=@List.takeWhile_cons
abbrev aa0:=@wpAny_typeNameOf_keyiter
abbrev aa1:=@Option.isSome_iff_exists
abbrev aa2:=@List.all_cons
abbrev aa3:=@Bool.or_false
abbrev aa4:=@wpAny_Call_Name_kw
abbrev aa5:=@List.findIdx?_eq_some_iff_getElem
abbrev aa6:=@Nat.mul_comm
abbrev aa7:=@List.length_range
abbrev aa8:=@List.length_pos_of_mem
abbrev aa9:=@List.getElem?_set_self
abbrev aa_:=@List.flatMap_cons
abbrev aba:=@List.ext_getElem?
abbrev abb:=@List.any_map
abbrev abc:=@F.called_set
abbrev abd:=@Calls.callWith_builtin
abbrev abe:=@List.length_filter_le
abbrev abf:=@typeIs_str
abbrev abg:=@Nat.lt_succ_self
abbrev abh:=@Nat.le_add_right
abbrev abi:=@List.map_drop
abbrev abj:=@List.mem_erase_of_ne
abbrev abk:=@List.forall_mem_cons
abbrev abl:=@Bool.and_eq_true_iff
abbrev abm:=@List.replicate_succ
abbrev abn:=@List.map_eq_nil_iff
abbrev abo:=@List.filterMap_cons
abbrev abp:=@List.dropWhile_cons
abbrev abq:=@codeAny_mono
abbrev abr:=@Ne.symm
abbrev abt:=@Nat.le_of_eq
abbrev abu:=@tupleKind_room_in1
abbrev abv:=@List.perm_ext_iff_of_nodup
abbrev abw:=@List.isPrefixOf_iff_prefix
abbrev abx:=@List.getElem?_append_right
abbrev aby:=@Calls.spliced_cons
abbrev abz:=List (List Nat)
abbrev abA:=List Nat
abbrev abB:=PySem.W.Frag
abbrev abC:=Value->Shared->Prop
abbrev abD:=Str->Option Value
abbrev abE:=List (Addr×Obj)
abbrev abF:=List Value
end
section
set_option autoImplicit false
set_option linter.all false
set_option maxRecDepth 100000
set_option maxHeartbeats 0
namespace L2
open PySem PySem.Spec PyProof.Rows
def inClass (s:Stmt)(j:Nat):Stmt:=match s with
 |.ClassDef _ _ _ body _ _ _ _ _ _ _=>body.getD j (.Pass ⟨0,0,0,0⟩)
 |_=>.Pass ⟨0,0,0,0⟩
def df (s:Stmt):Arguments:=match s with
 |.FunctionDef _ a _ _ _ _ _ _ _ _=>a
 |_=>{posonlyargs:=[],args:=[],vararg:=none,kwonlyargs:=[],kw_defaults:=[],kwarg:=none,defaults:=[]}
def b9 (s:Stmt):List Stmt:=match s with
 |.FunctionDef _ _ b _ _ _ _ _ _ _=>b
 |_=>[]
def aw (s:Stmt):Scope:=match s with
 |.FunctionDef _ _ _ _ _ _ sc _ _ _=>sc
 |_=>{kind:=.function,names:=[],isGenerator:=false,isCoroutine:=false}
end L2
end
section
set_option autoImplicit false
set_option linter.all false
set_option maxRecDepth 100000
set_option maxHeartbeats 0
namespace Bw
open PySem L2
def top (i:Nat):Stmt:=PySem.Challenge.pw_betwords_s05_has.main.body.getD i (.Pass ⟨0,0,0,0⟩)
abbrev F9:Stmt:=top 0
abbrev kZ:Stmt:=top 6
abbrev kU:Stmt:=top 7
abbrev k8:Stmt:=top 8
abbrev ij:Stmt:=top 9
abbrev iE:Stmt:=inClass (top 18) 0
abbrev iD:Stmt:=top 19
abbrev ng:Stmt:=top 20
abbrev fS:Stmt:=top 21
abbrev gD:Stmt:=top 22
abbrev ig:Stmt:=top 23
abbrev eD:Stmt:=top 24
abbrev dG:Stmt:=top 25
abbrev ic:Stmt:=top 26
abbrev gm:Stmt:=top 28
abbrev kW:Stmt:=top 29
abbrev gu:Stmt:=top 30
abbrev eY:Stmt:=top 31
abbrev pI:Stmt:=top 32
abbrev dg:Stmt:=top 33
abbrev js:Stmt:=top 34
abbrev fe:Stmt:=top 35
abbrev iy:Stmt:=inClass (top 37) 0
abbrev eG:Stmt:=inClass (top 37) 1
abbrev cW:Stmt:=inClass (top 37) 2
abbrev sr:Stmt:=inClass (top 37) 3
abbrev kX:Stmt:=top 38
abbrev jC:Stmt:=top 39
abbrev jb:Stmt:=top 40
abbrev gX:Stmt:=top 41
abbrev gC:Stmt:=inClass (top 58) 0
abbrev jy:Stmt:=inClass (top 59) 0
abbrev jn:Stmt:=inClass (top 59) 1
abbrev gI:Stmt:=inClass (top 60) 0
abbrev gG:Stmt:=inClass (top 60) 1
abbrev cE:Stmt:=inClass (top 60) 2
abbrev eX:Stmt:=inClass (top 60) 3
abbrev jB:Stmt:=top 61
abbrev gy:Stmt:=top 62
abbrev gJ:Stmt:=top 63
abbrev iz:Stmt:=top 64
abbrev gH:Stmt:=top 65
abbrev jH:Stmt:=top 66
abbrev iu:Stmt:=top 67
abbrev kM:Stmt:=top 68
abbrev jj:Stmt:=top 69
abbrev jw:Stmt:=top 70
abbrev jv:Stmt:=top 71
abbrev lh:Stmt:=top 72
abbrev mO:Stmt:=top 80
abbrev kK:Stmt:=top 81
abbrev fJ:Stmt:=top 82
end Bw
end
section
set_option autoImplicit false
set_option linter.all false
set_option maxRecDepth 100000
set_option maxHeartbeats 0
namespace Bw
open PySem L2
abbrev kS (s:String)(t:Nat):Value:=.str (Str.ofString s) t
abbrev kE (P:Params)(s:String)(t:Nat)(v:Value):DictEntry:=⟨PyData.keyHash P (Str.ofString s),.str (Str.ofString s) t,v⟩
abbrev kF (x q:String)(st:Stmt)(m:Value)(c:Nat):Obj:=⟨.type "function",none,.func (PySem.W.fnOf (Str.ofString x) (Str.ofString q) (df st) (b9 st) (aw st) .none .none .none m none (.ref c) .none),#[]⟩
abbrev kC (x q:String)(t l a g c:Nat)(b:Bool)(z d:Nat)(u v w y:Value)(k:Nat):Obj:=⟨.type "code",none,.fields #[kS x t,kS q (t+1),kS "/claim/cut.py" (t+2),.int l 0,.int a 0,.int 0 0,.int 0 0,.int g 0,.ref c,.bool b,.int z 0,.ref d,u,v,w,y,.int k 0,.int l 0,kS "/claim/cut.py" (k+1)],#[]⟩
abbrev kT (l:List Value)(n:Nat):Obj:=⟨.type "tuple",none,.seq l.toArray n,#[]⟩
abbrev kD (l:List DictEntry)(n:Nat):Obj:=⟨.type "dict",none,.dict l.toArray n,#[]⟩
abbrev kG (x:String)(t l a c d e f g k:Nat):Obj:=kC x x t l a 3 c true 181 d .none (.ref e) (.ref f) (.ref g) k
abbrev kH (x:String)(st:Stmt)(m:Value)(c:Nat):Obj:=kF x x st m c
abbrev kR (P:Params)(s:String)(t a:Nat):DictEntry:=kE P s t (.ref a)
abbrev K9:Value:=kS "betwords.desk" 818
abbrev La:Value:=kS "betwords.words" 194
abbrev D4:Value:=kS "betwords.cards" 230
abbrev GV:Value:=kS "betwords.counts" 374
abbrev Fp:Value:=kS "betwords.rows" 438
abbrev r8:Value:=kS "betwords.bets" 528
noncomputable def o9 (P:Params):PySem.W.Frag:=(nat_lit 3,kD [kE P "__name__" 165 K9,kE P "__doc__" 166 .none,kE P "__package__" 167 .none,kE P "__loader__" 168 (.builtin "__main__.__loader__#opaque"),kE P "__spec__" 169 .none,kR P "__annotations__" 170 6,kR P "__builtins__" 171 4,kE P "__file__" 173 (kS "/claim/cut.py" 172),kE P "__cached__" 174 .none,kR P "_wall" 193 21,kE P "LETTERS" 197 (kS "abcdefghijklmnopqrstuvwxyz" 196),kE P "DIGITS" 199 (kS "0123456789" 198),kE P "MOST_NAME" 201 (.int 12 200),kE P "MOST_DIGITS" 203 (.int 7 202),kR P "sign_of" 210 28,kR P "text_of" 216 33,kR P "is_name" 222 38,kR P "number_of" 229 45,kE P "MOST_RACES" 233 (.int 16 232),kE P "MOST_POOLS" 235 (.int 64 234),kE P "MOST_COUPLES" 237 (.int 8 236),kE P "MOST_RUNNERS" 239 (.int 24 238),kR P "SIZES" 256 46,kR P "FIXED" 271 58,kE P "POOL_WORDS" 273 (.int 16 272),kR P "Pool" 308 75,kR P "read_card" 314 84,kR P "is_day" 321 91,kR P "read_race" 327 96,kR P "read_pools" 339 103,kR P "read_pool" 352 110,kR P "has_pool_form" 358 115,kR P "are_terms_good" 367 122,kR P "fields_of" 373 127,kR P "product_of" 384 134,kR P "without" 390 139,kR P "count_legs" 396 144,kR P "count_orders" 402 149,kR P "is_of" 408 154,kR P "count_different" 414 159,kR P "picks_of" 426 166,kR P "count_starts" 437 173,kR P "Rows" 496 209,kR P "rows_on" 504 220,kR P "rows_box" 510 225,kR P "rows_key" 521 232,kR P "seatings" 527 237,kE P "NOT_ENDED" 531 (.int 1 530),kE P "BAD_BYTE" 533 (.int 2 532),kE P "BAD_WORD" 535 (.int 3 534),kE P "BAD_NUMBER" 537 (.int 4 536),kE P "NO_POOL" 539 (.int 5 538),kE P "NO_COMBINATION" 541 (.int 6 540),kE P "TOO_DEAR" 543 (.int 7 542),kE P "MORE_BYTES" 545 (.int 8 544),kE P "LINE_END" 547 (.int 10 546),kE P "BLANK" 549 (.int 32 548),kE P "MOST_STAKE" 551 (.int 1000000 550),kE P "MOST_COST" 553 (.int 2147483647 552),kE P "ON" 555 (.int 0 554),kE P "BOX" 557 (.int 1 556),kR P "WAYS" 561 238,kR P "Fault" 592 255,kR P "Bet" 639 282,kR P "Words" 696 324,kR P "read_bet" 707 335,kR P "check_line" 716 342,kR P "read_words" 732 349,kR P "take_pool" 743 356,kR P "take_stake" 752 363,kR P "take_how" 760 370,kR P "take_sets" 770 377,kR P "take_on" 780 384,kR P "take_box" 790 391,kR P "take_key" 796 396,kR P "take_set" 807 403,kR P "rows_of" 817 410,kE P "NO_NUMBER" 822 (.int (-1) 821),kE P "TOO_LONG" 825 (.int (-2) 824),kE P "FAULTY_BET" 828 (.int (-6) 827),kE P "NO_CARD" 831 (.int (-8) 830),kE P "MOST_CARD" 833 (.int 65536 832),kE P "MOST_BET" 835 (.int 4096 834),kR P "has" 847 417,kR P "look_at" 857 424,kR P "look_at_all" 863 429] 86) ::
 (nat_lit 6,kD [] 0) ::
 (nat_lit 20,kG "_wall" 187 1 1 15 16 17 18 19 191) ::
 (nat_lit 21,kH "_wall" F9 (kS "__main__" 164) 20) ::
 (nat_lit 27,kG "sign_of" 204 9 1 22 23 24 25 26 208) ::
 (nat_lit 28,kH "sign_of" kZ La 27) ::
 (nat_lit 32,kC "text_of" "text_of" 211 23 1 3 29 true 181 30 .none .none .none (.ref 31) 214) ::
 (nat_lit 33,kH "text_of" kU La 32) ::
 (nat_lit 37,kC "is_name" "is_name" 217 25 1 3 34 true 181 35 .none .none .none (.ref 36) 220) ::
 (nat_lit 38,kH "is_name" k8 La 37) ::
 (nat_lit 44,kG "number_of" 223 29 1 39 40 41 42 43 227) ::
 (nat_lit 45,kH "number_of" ij La 44) ::
 (nat_lit 46,kD [kR P "place" 240 47,kR P "order" 243 48,kR P "any" 246 49,kR P "legs" 249 50] 4) ::
 (nat_lit 47,kT [.int 1 241,.int 4 242] 0) ::
 (nat_lit 48,kT [.int 2 244,.int 4 245] 0) ::
 (nat_lit 49,kT [.int 2 247,.int 3 248] 0) ::
 (nat_lit 50,kT [.int 2 250,.int 6 251] 0) ::
 (nat_lit 51,kT [.int 0 257,kS "pool" 258] 0) ::
 (nat_lit 52,kT [.int 4 259,kS "from" 260] 0) ::
 (nat_lit 53,kT [.int 6 261,kS "take" 262] 0) ::
 (nat_lit 54,kT [.int 8 263,kS "break" 264] 0) ::
 (nat_lit 55,kT [.int 10 265,kS "least" 266] 0) ::
 (nat_lit 56,kT [.int 12 267,kS "unit" 268] 0) ::
 (nat_lit 57,kT [.int 14 269,kS "none" 270] 0) ::
 (nat_lit 58,kT [.ref 51,.ref 52,.ref 53,.ref 54,.ref 55,.ref 56,.ref 57] 0) ::
 (nat_lit 71,kC "__init__" "Pool.__init__" 286 45 5 3 66 true 181 67 .none (.ref 68) (.ref 69) (.ref 70) 294) ::
 (nat_lit 72,kF "__init__" "Pool.__init__" iE D4 71) ::
 (nat_lit 73,kT [kS "fields" 297,kS "kind" 298,kS "name" 299,kS "unit" 300] 0) ::
 (nat_lit 74,kD [kE P "__module__" 281 D4,kE P "__firstlineno__" 285 (.int 43 284),kR P "__init__" 296 72,kR P "__static_attributes__" 301 73,kR P "__dict__" 303 76,kR P "__weakref__" 305 77,kE P "__doc__" 306 .none] 4) ::
 (nat_lit 75,⟨.type "type",none,.cls ⟨"Pool",[.type "object"],[.ref 75,.type "object"],74,"Pool",true,[],[],false,none,false⟩,#[none,none,some (kS "Pool" 274),some (kS "Pool" 282),some (.builtin "object.__new__"),some (.bool true)]⟩) ::
 (nat_lit 83,kC "read_card" "read_card" 309 50 1 3 80 true 181 81 .none .none .none (.ref 82) 312) ::
 (nat_lit 84,kH "read_card" iD D4 83) ::
 (nat_lit 90,kG "is_day" 315 64 1 85 86 87 88 89 319) ::
 (nat_lit 91,kH "is_day" ng D4 90) ::
 (nat_lit 95,kC "read_race" "read_race" 322 66 1 3 92 true 181 93 .none .none .none (.ref 94) 325) ::
 (nat_lit 96,kH "read_race" fS D4 95) ::
 (nat_lit 102,kG "read_pools" 328 85 2 97 98 99 100 101 337) ::
 (nat_lit 103,kH "read_pools" gD D4 102) ::
 (nat_lit 109,kG "read_pool" 340 97 2 104 105 106 107 108 350) ::
 (nat_lit 110,kH "read_pool" ig D4 109) ::
 (nat_lit 114,kC "has_pool_form" "has_pool_form" 353 110 1 3 111 true 181 112 .none .none .none (.ref 113) 356) ::
 (nat_lit 115,kH "has_pool_form" eD D4 114) ::
 (nat_lit 121,kG "are_terms_good" 359 116 1 116 117 118 119 120 365) ::
 (nat_lit 122,kH "are_terms_good" dG D4 121) ::
 (nat_lit 126,kC "fields_of" "fields_of" 368 126 4 3 123 true 181 124 .none .none .none (.ref 125) 371) ::
 (nat_lit 127,kH "fields_of" ic D4 126) ::
 (nat_lit 133,kG "product_of" 376 138 1 128 129 130 131 132 382) ::
 (nat_lit 134,kH "product_of" gm GV 133) ::
 (nat_lit 138,kC "without" "without" 385 143 2 3 135 true 181 136 .none .none .none (.ref 137) 388) ::
 (nat_lit 139,kH "without" kW GV 138) ::
 (nat_lit 143,kC "count_legs" "count_legs" 391 145 2 3 140 true 181 141 .none .none .none (.ref 142) 394) ::
 (nat_lit 144,kH "count_legs" gu GV 143) ::
 (nat_lit 148,kC "count_orders" "count_orders" 397 149 2 3 145 true 181 146 .none .none .none (.ref 147) 400) ::
 (nat_lit 149,kH "count_orders" eY GV 148) ::
 (nat_lit 153,kC "is_of" "is_of" 403 153 2 3 150 true 181 151 .none .none .none (.ref 152) 406) ::
 (nat_lit 154,kH "is_of" pI GV 153) ::
 (nat_lit 158,kC "count_different" "count_different" 409 155 1 3 155 true 181 156 .none .none .none (.ref 157) 412) ::
 (nat_lit 159,kH "count_different" dg GV 158) ::
 (nat_lit 165,kG "picks_of" 415 163 1 160 161 162 163 164 424) ::
 (nat_lit 166,kH "picks_of" js GV 165) ::
 (nat_lit 172,kG "count_starts" 427 173 1 167 168 169 170 171 435) ::
 (nat_lit 173,kH "count_starts" fe GV 172) ::
 (nat_lit 186,kC "__init__" "Rows.__init__" 452 183 3 3 181 true 181 182 .none (.ref 183) (.ref 184) (.ref 185) 458) ::
 (nat_lit 187,kF "__init__" "Rows.__init__" iy Fp 186) ::
 (nat_lit 191,kC "starting" "Rows.starting" 461 188 2 3 188 true 181 189 .none .none .none (.ref 190) 464) ::
 (nat_lit 192,kF "starting" "Rows.starting" eG Fp 191) ::
 (nat_lit 198,kC "row_at" "Rows.row_at" 467 195 2 3 193 true 181 194 .none (.ref 195) (.ref 196) (.ref 197) 476) ::
 (nat_lit 199,kF "row_at" "Rows.row_at" cW Fp 198) ::
 (nat_lit 205,kC "listed" "Rows.listed" 479 208 1 3 200 true 181 201 .none (.ref 202) (.ref 203) (.ref 204) 483) ::
 (nat_lit 206,kF "listed" "Rows.listed" sr Fp 205) ::
 (nat_lit 207,kT [kS "grids" 486,kS "kind" 487,kS "picks" 488] 0) ::
 (nat_lit 208,kD [kE P "__module__" 447 Fp,kE P "__firstlineno__" 451 (.int 181 450),kR P "__init__" 460 187,kR P "starting" 466 192,kR P "row_at" 478 199,kR P "listed" 485 206,kR P "__static_attributes__" 489 207,kR P "__dict__" 491 210,kR P "__weakref__" 493 211,kE P "__doc__" 494 .none] 4) ::
 (nat_lit 209,⟨.type "type",none,.cls ⟨"Rows",[.type "object"],[.ref 209,.type "object"],208,"Rows",true,[],[],false,none,false⟩,#[none,none,some (kS "Rows" 440),some (kS "Rows" 448),some (.builtin "object.__new__"),some (.bool true)]⟩) ::
 (nat_lit 219,kG "rows_on" 497 210 2 214 215 216 217 218 502) ::
 (nat_lit 220,kH "rows_on" kX Fp 219) ::
 (nat_lit 224,kC "rows_box" "rows_box" 505 212 3 3 221 true 181 222 .none .none .none (.ref 223) 508) ::
 (nat_lit 225,kH "rows_box" jC Fp 224) ::
 (nat_lit 231,kG "rows_key" 511 214 4 226 227 228 229 230 519) ::
 (nat_lit 232,kH "rows_key" jb Fp 231) ::
 (nat_lit 236,kC "seatings" "seatings" 522 219 3 3 233 true 181 234 .none .none .none (.ref 235) 525) ::
 (nat_lit 237,kH "seatings" gX Fp 236) ::
 (nat_lit 238,kT [kS "on" 558,kS "box" 559,kS "key" 560] 0) ::
 (nat_lit 251,kC "__init__" "Fault.__init__" 574 247 3 3 246 true 181 247 .none (.ref 248) (.ref 249) (.ref 250) 580) ::
 (nat_lit 252,kF "__init__" "Fault.__init__" gC r8 251) ::
 (nat_lit 253,kT [kS "kind" 583,kS "place" 584] 0) ::
 (nat_lit 254,kD [kE P "__module__" 569 r8,kE P "__firstlineno__" 573 (.int 245 572),kR P "__init__" 582 252,kR P "__static_attributes__" 585 253,kR P "__weakref__" 587 256,kE P "__doc__" 588 .none] 3) ::
 (nat_lit 255,⟨.type "type",none,.cls ⟨"Fault",[.type "Exception"],[.ref 255,.type "Exception",.type "BaseException",.type "object"],254,"Fault",true,[],[],false,none,false⟩,#[some (.ref 239),none,some (kS "Fault" 562),some (kS "Fault" 570),some (.builtin "Exception.__new__"),some (.bool true)]⟩) ::
 (nat_lit 271,kC "__init__" "Bet.__init__" 605 252 7 3 266 true 181 267 .none (.ref 268) (.ref 269) (.ref 270) 615) ::
 (nat_lit 272,kF "__init__" "Bet.__init__" jy r8 271) ::
 (nat_lit 278,kC "cost" "Bet.cost" 618 261 1 3 273 true 181 274 .none (.ref 275) (.ref 276) (.ref 277) 622) ::
 (nat_lit 279,kF "cost" "Bet.cost" jn r8 278) ::
 (nat_lit 280,kT [kS "how" 625,kS "many" 626,kS "pool" 627,kS "pool_number" 628,kS "rows" 629,kS "sets" 630,kS "stake" 631] 0) ::
 (nat_lit 281,kD [kE P "__module__" 600 r8,kE P "__firstlineno__" 604 (.int 250 603),kR P "__init__" 617 272,kR P "cost" 624 279,kR P "__static_attributes__" 632 280,kR P "__dict__" 634 283,kR P "__weakref__" 636 284,kE P "__doc__" 637 .none] 4) ::
 (nat_lit 282,⟨.type "type",none,.cls ⟨"Bet",[.type "object"],[.ref 282,.type "object"],281,"Bet",true,[],[],false,none,false⟩,#[none,none,some (kS "Bet" 593),some (kS "Bet" 601),some (.builtin "object.__new__"),some (.bool true)]⟩) ::
 (nat_lit 299,kC "__init__" "Words.__init__" 652 265 2 3 294 true 181 295 .none (.ref 296) (.ref 297) (.ref 298) 657) ::
 (nat_lit 300,kF "__init__" "Words.__init__" gI r8 299) ::
 (nat_lit 306,kC "take" "Words.take" 660 272 1 3 301 true 181 302 .none (.ref 303) (.ref 304) (.ref 305) 665) ::
 (nat_lit 307,kF "take" "Words.take" gG r8 306) ::
 (nat_lit 313,kC "take_one_of" "Words.take_one_of" 668 281 2 3 308 true 181 309 .none (.ref 310) (.ref 311) (.ref 312) 674) ::
 (nat_lit 314,kF "take_one_of" "Words.take_one_of" cE r8 313) ::
 (nat_lit 320,kC "finish" "Words.finish" 677 287 1 3 315 true 181 316 .none (.ref 317) (.ref 318) (.ref 319) 681) ::
 (nat_lit 321,kF "finish" "Words.finish" eX r8 320) ::
 (nat_lit 322,kT [kS "line_end" 684,kS "met" 685,kS "next_place" 686,kS "place" 687,kS "words" 688] 0) ::
 (nat_lit 323,kD [kE P "__module__" 647 r8,kE P "__firstlineno__" 651 (.int 263 650),kR P "__init__" 659 300,kR P "take" 667 307,kR P "take_one_of" 676 314,kR P "finish" 683 321,kR P "__static_attributes__" 689 322,kR P "__dict__" 691 325,kR P "__weakref__" 693 326,kE P "__doc__" 694 .none] 4) ::
 (nat_lit 324,⟨.type "type",none,.cls ⟨"Words",[.type "object"],[.ref 324,.type "object"],323,"Words",true,[],[],false,none,false⟩,#[none,none,some (kS "Words" 640),some (kS "Words" 648),some (.builtin "object.__new__"),some (.bool true)]⟩) ::
 (nat_lit 334,kG "read_bet" 697 290 2 329 330 331 332 333 705) ::
 (nat_lit 335,kH "read_bet" jB r8 334) ::
 (nat_lit 341,kG "check_line" 708 300 1 336 337 338 339 340 714) ::
 (nat_lit 342,kH "check_line" gy r8 341) ::
 (nat_lit 348,kG "read_words" 717 308 2 343 344 345 346 347 730) ::
 (nat_lit 349,kH "read_words" gJ r8 348) ::
 (nat_lit 355,kG "take_pool" 733 325 2 350 351 352 353 354 741) ::
 (nat_lit 356,kH "take_pool" iz r8 355) ::
 (nat_lit 362,kG "take_stake" 744 331 2 357 358 359 360 361 750) ::
 (nat_lit 363,kH "take_stake" gH r8 362) ::
 (nat_lit 369,kG "take_how" 753 336 2 364 365 366 367 368 758) ::
 (nat_lit 370,kH "take_how" jH r8 369) ::
 (nat_lit 376,kG "take_sets" 761 341 3 371 372 373 374 375 768) ::
 (nat_lit 377,kH "take_sets" iu r8 376) ::
 (nat_lit 383,kG "take_on" 771 348 2 378 379 380 381 382 778) ::
 (nat_lit 384,kH "take_on" kM r8 383) ::
 (nat_lit 390,kG "take_box" 781 355 3 385 386 387 388 389 788) ::
 (nat_lit 391,kH "take_box" jj r8 390) ::
 (nat_lit 395,kC "take_key" "take_key" 791 360 3 3 392 true 181 393 .none .none .none (.ref 394) 794) ::
 (nat_lit 396,kH "take_key" jw r8 395) ::
 (nat_lit 402,kG "take_set" 797 369 2 397 398 399 400 401 805) ::
 (nat_lit 403,kH "take_set" jv r8 402) ::
 (nat_lit 409,kG "rows_of" 808 377 3 404 405 406 407 408 815) ::
 (nat_lit 410,kH "rows_of" lh r8 409) ::
 (nat_lit 416,kG "has" 836 391 3 411 412 413 414 415 845) ::
 (nat_lit 417,kH "has" mO K9 416) ::
 (nat_lit 423,kG "look_at" 848 399 2 418 419 420 421 422 855) ::
 (nat_lit 424,kH "look_at" kK K9 423) ::
 (nat_lit 428,kC "look_at_all" "look_at_all" 858 404 2 3 425 true 181 426 .none .none .none (.ref 427) 861) ::
 (nat_lit 429,kH "look_at_all" fJ K9 428)::[]
def Bv:List Nat:=[3,6,20,21,27,28,32,33,37,38,44,45,46,47,48,49,50,51,52,53,54,55,56,57,58,71,72,73,74,75,83,84,90,91,95,96,102,103,109,110,114,115,121,122,126,127,133,134,138,139,143,144,148,149,153,154,158,159,165,166,172,173,186,187,191,192,198,199,205,206,207,208,209,219,220,224,225,231,232,236,237,238,251,252,253,254,255,271,272,278,279,280,281,282,299,300,306,307,313,314,320,321,322,323,324,334,335,341,342,348,349,355,356,362,363,369,370,376,377,383,384,390,391,395,396,402,403,409,410,416,417,423,424,428,429]
def J4:List Str:=List.map Str.ofString ["_wall","LETTERS","DIGITS","MOST_NAME","MOST_DIGITS","sign_of","text_of","is_name","number_of","MOST_RACES","MOST_POOLS","MOST_COUPLES","MOST_RUNNERS","SIZES","FIXED","POOL_WORDS","Pool","read_card","is_day","read_race","read_pools","read_pool","has_pool_form","are_terms_good","fields_of","product_of","without","count_legs","count_orders","is_of","count_different","picks_of","count_starts","Rows","rows_on","rows_box","rows_key","seatings","NOT_ENDED","BAD_BYTE","BAD_WORD","BAD_NUMBER","NO_POOL","NO_COMBINATION","TOO_DEAR","MORE_BYTES","LINE_END","BLANK","MOST_STAKE","MOST_COST","ON","BOX","WAYS","Fault","Bet","Words","read_bet","check_line","read_words","take_pool","take_stake","take_how","take_sets","take_on","take_box","take_key","take_set","rows_of","NO_NUMBER","TOO_LONG","FAULTY_BET","NO_CARD","MOST_CARD","MOST_BET","has","look_at","look_at_all"]
end Bw
end
section
set_option autoImplicit false
set_option linter.all false
set_option maxRecDepth 100000
set_option maxHeartbeats 0
namespace Bw
open PySem PyProof.Rows L2
def B7 (P:Params):Bv=(o9 P).map (·.1):=by kernel_rfl
def qV:Program:={PySem.Challenge.pw_betwords_s05_has with main:={PySem.Challenge.pw_betwords_s05_has.main with body:=[mO]}}
def lV:List Str:=J4.filter λk=>k != "has"
def xV (s:Shared):Bool:=PySem.W.xlAt qV [] s&&PySem.W.recOk [] s
def dV:DefRec:=match mO with
 |.FunctionDef n a b _ _ _ c _ _ p=>⟨n,a,b,c,p⟩
 |_=>⟨"",df mO,[],aw mO,⟨0,0,0,0⟩⟩
theorem gA0 {a b c:Type}{o:Option a}{f:a->b}{g:a->c}{x:b}{y:c}(h:o.map f=some x)(k:o.map g=some y):o.map (fun s=>(f s,g s))=some (x,y):=by
 cases o with
 |none=>cases h
 |some z=>cases h;cases k;rfl
theorem gA1 {a b c:Type}{o:Option a}{f:a->b×c}{x:b×c}(h:o.map (fun s=>(f s).1)=some x.1)(k:o.map (fun s=>(f s).2)=some x.2):o.map f=some x:=by
 cases o with
 |none=>cases h
 |some z=>exact congrArg some (Prod.ext (Option.some.inj h) (Option.some.inj k))
theorem gA2 {a b:Type}{o:Option a}{f:a->List b}{x:List b}(n:Nat)(h:o.map (fun s=>List.take n (f s))=some (List.take n x))(k:o.map (fun s=>List.drop n (f s))=some (List.drop n x)):o.map f=some x:=by
 cases o with
 |none=>cases h
 |some z=>exact congrArg some ((List.take_append_drop n (f z)).symm.trans ((congr (congrArg _ (Option.some.inj h)) (Option.some.inj k)).trans (List.take_append_drop n x)))
theorem gB01 (w:World):(PySem.W.openEnds treeTable PySem.Challenge.pw_betwords_s05_has (w.withFollow "special-get-raises" false) 5200).map (fun s=>(PySem.W.openSeen qV lV (importedModules PySem.Challenge.pw_betwords_s05_has.main.body) xV true s).1)=some (PySem.W.openGood qV lV).1:=by kernel_rfl
theorem gB02 (w:World):(PySem.W.openEnds treeTable PySem.Challenge.pw_betwords_s05_has (w.withFollow "special-get-raises" false) 5200).map (fun s=>(PySem.W.openSeen qV lV (importedModules PySem.Challenge.pw_betwords_s05_has.main.body) xV true s).2)=some (PySem.W.openGood qV lV).2:=by kernel_rfl
theorem gB03 (w:World):(PySem.W.openEnds treeTable PySem.Challenge.pw_betwords_s05_has (w.withFollow "special-get-raises" false) 5200).map (fun s=>List.take 68 ((PySem.W.kHook Bw.o9 Bw.Bv Bw.B7).obs s))=some (List.take 68 ((PySem.W.kHook Bw.o9 Bw.Bv Bw.B7).val (w.withFollow "special-get-raises" false))):=by kernel_rfl
theorem gB04 (w:World):(PySem.W.openEnds treeTable PySem.Challenge.pw_betwords_s05_has (w.withFollow "special-get-raises" false) 5200).map (fun s=>List.drop 68 ((PySem.W.kHook Bw.o9 Bw.Bv Bw.B7).obs s))=some (List.drop 68 ((PySem.W.kHook Bw.o9 Bw.Bv Bw.B7).val (w.withFollow "special-get-raises" false))):=by kernel_rfl
theorem Mm (w:World):(PySem.W.openEnds treeTable PySem.Challenge.pw_betwords_s05_has (w.withFollow "special-get-raises" false) 5200).map (fun s=>(PySem.W.openSeen qV lV (importedModules PySem.Challenge.pw_betwords_s05_has.main.body) xV true s,(PySem.W.kHook Bw.o9 Bw.Bv Bw.B7).obs s))=some (PySem.W.openGood qV lV,(PySem.W.kHook Bw.o9 Bw.Bv Bw.B7).val (w.withFollow "special-get-raises" false)):=gA0 (gA1 (gB01 w) (gB02 w)) (gA2 68 (gB03 w) (gB04 w))
theorem gB11 (w:World):(PySem.W.openEnds treeTable PySem.Challenge.pw_betwords_s05_has (w.withFollow "special-get-raises" true) 5200).map (fun s=>(PySem.W.openSeen qV lV (importedModules PySem.Challenge.pw_betwords_s05_has.main.body) xV true s).1)=some (PySem.W.openGood qV lV).1:=by kernel_rfl
theorem gB12 (w:World):(PySem.W.openEnds treeTable PySem.Challenge.pw_betwords_s05_has (w.withFollow "special-get-raises" true) 5200).map (fun s=>(PySem.W.openSeen qV lV (importedModules PySem.Challenge.pw_betwords_s05_has.main.body) xV true s).2)=some (PySem.W.openGood qV lV).2:=by kernel_rfl
theorem gB13 (w:World):(PySem.W.openEnds treeTable PySem.Challenge.pw_betwords_s05_has (w.withFollow "special-get-raises" true) 5200).map (fun s=>List.take 68 ((PySem.W.kHook Bw.o9 Bw.Bv Bw.B7).obs s))=some (List.take 68 ((PySem.W.kHook Bw.o9 Bw.Bv Bw.B7).val (w.withFollow "special-get-raises" true))):=by kernel_rfl
theorem gB14 (w:World):(PySem.W.openEnds treeTable PySem.Challenge.pw_betwords_s05_has (w.withFollow "special-get-raises" true) 5200).map (fun s=>List.drop 68 ((PySem.W.kHook Bw.o9 Bw.Bv Bw.B7).obs s))=some (List.drop 68 ((PySem.W.kHook Bw.o9 Bw.Bv Bw.B7).val (w.withFollow "special-get-raises" true))):=by kernel_rfl
theorem Ms (w:World):(PySem.W.openEnds treeTable PySem.Challenge.pw_betwords_s05_has (w.withFollow "special-get-raises" true) 5200).map (fun s=>(PySem.W.openSeen qV lV (importedModules PySem.Challenge.pw_betwords_s05_has.main.body) xV true s,(PySem.W.kHook Bw.o9 Bw.Bv Bw.B7).obs s))=some (PySem.W.openGood qV lV,(PySem.W.kHook Bw.o9 Bw.Bv Bw.B7).val (w.withFollow "special-get-raises" true)):=gA0 (gA1 (gB11 w) (gB12 w)) (gA2 68 (gB13 w) (gB14 w))
def hl:PySem.W.LeftO PySem.Challenge.pw_betwords_s05_has qV lV xV (PySem.W.kHook Bw.o9 Bw.Bv Bw.B7).obs (PySem.W.kHook Bw.o9 Bw.Bv Bw.B7).val 5200:=PySem.W.byRow2 "special-get-raises" Mm Ms
end Bw
end
section
variable{e n m how a i h y f:Nat}{C:Tote.Card}{l:List Tote.Word}{s heads B fd r row:abA}{p:Tote.Pool}{α:Type}{sets ss g:abz}{gs:List (abz)}{w:Tote.Bytes}{had:List (Nat×Nat)}{kd:Tote.Kind}
section
set_option autoImplicit false
set_option linter.all false
namespace Bw
open Tote
theorem sum_map_add {α:Type}(f g:α->Nat):∀l:List α,(l.map λx=>f x+g x).sum=(l.map f).sum+(l.map g).sum
 |[]=>rfl|x::l=>by simp only[Zb,aap,sum_map_add f g l];omega
theorem sum_map_congr {α:Type}{f g:α->Nat}:∀{l:List α},(∀x∈l,f x=g x)->(l.map f).sum=(l.map g).sum
 |[],_=>rfl|x::l,h=>by simp only[Zb,aap];rw[h x (by simp),sum_map_congr λy hy=>h y (by simp[hy])]
theorem sum_map_const {α:Type}(c:Nat):∀l:List α,(l.map λ_=>c).sum=l.length*c
 |[]=>by simp|x::l=>by simp only[Zb,aap,sum_map_const c l,Y7,Nat.add_mul];omega
theorem eh {α β:Type}(f:α->List β):∀l:List α,(l.flatMap f).length=(l.map λx=>(f x).length).sum
 |[]=>rfl|x::l=>by simp[aa_,eh f l]
theorem oR {α:Type}(p:α->Bool)(c d:Nat):∀l:List α,(l.map λx=>if p x=true then c else d).sum=(l.filter p).length*c+(l.filter λx=>!p x).length*d
 |[]=>by simp
 |x::l=>by
  have ih:=oR p c d l;simp only[Zb,aap,Z6];by_cases h:p x=true
  . simp only[h,aaB,Bool.not_true,aai,aaQ,Y7,Nat.add_mul,ih];omega
  have h':p x=false:=by simpa using h
  simp only[h',aai,aaQ,Bool.not_false,aaB,Y7,Nat.add_mul,ih];omega
section
variable (A u:abA)
end
def lF:Nat->Nat->Nat
 |_,0=>1|0,_+1=>0|n+1,k+1=>lF n k+lF n (k+1)
theorem dv:∀(k:Nat) (l r:abA),r∈risingRows k l->r.Sublist l
 |0,_,r,h=>by
  have:r=[]:=by simpa [risingRows] using h
  subst this;exact List.nil_sublist _
 |k+1,[],r,h=>by simp[risingRows] at h
 |k+1,x::l,r,h=>by
  rw[risingRows,ZJ] at h;rcases h with h|h
  . obtain⟨q,hq,rfl⟩:=Zr.mp h;exact (dv k l q hq).cons₂ x
  exact (dv (k+1) l r h).cons x
def dz:abz->(Nat->Bool)->Nat
 |[],_=>1|s::ss,p=>((s.filter p).map λy=>dz ss λz=>p z&&z != y).sum
theorem gR:∀(ss:abz) {p q:Nat->Bool},(∀s∈ss,∀y∈s,p y=q y)->dz ss p=dz ss q
 |[],_,_,_=>rfl|s::ss,p,q,h=>by unfold dz;have e:s.filter p=s.filter q:=List.filter_congr λy hy=>h s (by simp) y hy;rw[e];refine sum_map_congr λy _=>gR ss λt ht z hz=>?_;rw[h t (by simp[ht]) z hz]
theorem sF:∀(ss:abz) (had:abA),(apartRows ss had).length=dz ss λz=>!had.contains z
 |[],_=>rfl|s::ss,had=>by unfold dz;rw[apartRows,eh];refine sum_map_congr λy _=>?_;rw[YW,sF ss (y::had)];refine gR ss λt _ z _=>?_;simp only[Z1,Y0];by_cases c1:z∈had <;> by_cases c2:z=y <;> simp[c1,c2]
def outs (x:Nat):abz->List (abz)
 |[]=>[]|s::ss=>(if s.contains x=true then [ss] else [])++(outs x ss).map λr=>s::r
theorem lC {α β:Type}(f:α->β->Nat):∀(l:List α) (m:List β),(l.map λx=>(m.map λy=>f x y).sum).sum=(m.map λy=>(l.map λx=>f x y).sum).sum
 |[],m=>by simp only[aah,List.sum_nil];rw[sum_map_const 0 m];simp|x::l,m=>by simp only[Zb,aap];rw[lC f l m,<-sum_map_add]
theorem ma {x:Nat}:∀{s:abA},s.Nodup->s.filter (λy=>y==x)=if s.contains x=true then [x] else []
 |[],_=>rfl
 |y::s,nd=>by
  obtain⟨h1,h2⟩:=Z5.mp nd;have ih:=ma (x:=x) h2;by_cases e:y=x
  . subst e;have:s.filter (λz=>z==y)=[]:=List.filter_eq_nil_iff.mpr λz hz c=>h1 ((ZK.mp c) ▸ hz);simp[this]
  have e':¬x=y:=λz=>e z.symm;rw[Z6,YX (by simp[e]),ih];simp[e']
theorem lJ {f:Nat->Nat}{p q:Nat->Bool}(hd:∀y,p y=true->q y=false):∀l:abA,((l.filter λy=>p y||q y).map f).sum=((l.filter p).map f).sum+((l.filter q).map f).sum
 |[]=>rfl
 |y::l=>by
  have ih:=lJ (f:=f) hd l;rw[Z6,Z6,Z6];by_cases c:p y=true
  . have:=hd y c;simp only[c,this,aa3,aaB,aai,aaQ,Zb,aap,ih];omega
  have c':p y=false:=by simpa using c
  by_cases c2:q y=true
  . simp only[c',c2,Bool.or_true,aaB,aai,aaQ,Zb,aap,ih];omega
  have Pf:q y=false:=by simpa using c2
  simp only[c',Pf,aa3,aai,aaQ,ih]
theorem tw (x:Nat):∀(ss:abz) (p:Nat->Bool),(∀s∈ss,s.Nodup)->p x=false ->
  dz ss (λz=>p z||z==x)=dz ss p+((outs x ss).map λr=>dz r p).sum
 |[],_,_,_=>rfl
 |s::ss,p,nd,hx=>by
  have Vu:s.Nodup:=nd s (by simp);have Vv:∀t∈ss,t.Nodup:=λt ht=>nd t (by simp[ht]);have Na:∀y,p y=true->(y==x)=false:=λy hy=>by
   by_cases e:y=x
   . rw[e,hx] at hy;cases hy
   simp[e]
  show ((s.filter λz=>p z||z==x).map λy=>dz ss λz=>(p z||z==x)&&z != y).sum=_;rw[lJ (q:=λy=>y==x) Na,ma Vu];have e1:((s.filter p).map λy=>dz ss λz=>(p z||z==x)&&z != y).sum
    = ((s.filter p).map λy=>dz ss (λz=>p z&&z != y)+((outs x ss).map λr=>dz r λz=>p z&&z != y).sum).sum:=by
   refine sum_map_congr λy hy=>?_;have py:p y=true:=(Z3.mp hy).2;have ne:x≠y:=λe=>by rw[e,py] at hx;cases hx
   rw[<-tw x ss (λz=>p z&&z != y) Vv (by simp[hx])];refine gR ss λt _ z _=>?_;show ((p z||z==x)&&z != y)=(p z&&z != y||z==x);cases Vw:p z <;> by_cases c:z=x <;> by_cases d:z=y <;> simp_all
  rw[e1,sum_map_add,lC (λy r=>dz r λz=>p z&&z != y)];have e2:(((if s.contains x=true then [x] else []:abA)).map λy=>dz ss λz=>(p z||z==x)&&z != y).sum
    = (((if s.contains x=true then [ss] else []:List (abz))).map λr=>dz r p).sum:=by
   by_cases c:s.contains x=true
   . rw[YY c,YY c];simp only[Zb,aah,aap,List.sum_nil,Nat.add_zero];refine gR ss λt _ z _=>?_;show ((p z||z==x)&&z != x)=p z;cases Vw:p z <;> by_cases d:z=x <;> simp_all
   rw[YX c,YX c];rfl
  rw[e2];show _=dz (s::ss) p+(((if s.contains x=true then [ss] else [])++(outs x ss).map λr=>s::r).map λr=>dz r p).sum;rw[Zd,List.sum_append,Zk];show ((s.filter p).map λy=>dz ss λz=>p z&&z != y).sum+((outs x ss).map λr=>((s.filter p).map λy=>dz r λz=>p z&&z != y).sum).sum+_
   = ((s.filter p).map λy=>dz ss λz=>p z&&z != y).sum+(_+((outs x ss).map λr=>((s.filter p).map λy=>dz r λz=>p z&&z != y).sum).sum)
  omega
def sel:Nat->abz->abz
 |_,[]=>[]|m,s::ss=>(if m % 2=1 then [s] else [])++sel (m / 2) ss
def bitsOf (x:Nat):Nat->abz->abA
 |_,[]=>[]|b,s::ss=>(if s.contains x=true then [b] else [])++bitsOf x (2*b) ss
theorem oG (x:Nat):∀(ss:abz) (b:Nat),bitsOf x (2*b) ss=(bitsOf x b ss).map λc=>2*c
 |[],_=>rfl
 |s::ss,b=>by
  unfold bitsOf;rw[Zd,oG x ss (2*b)];congr 1;by_cases c:s.contains x=true
  . simp only[YY c];rfl
  simp only[YX c];rfl
def bH (m b:Nat):Bool:=m / b % 2==1
def rA (m:Nat)(s:abA)(ss:abz):sel m (s::ss)=(if m % 2=1 then [s] else [])++sel (m / 2) ss:=rfl
theorem vP:∀ss:abz,sel 0 ss=[]
 |[]=>rfl|s::ss=>by unfold sel;rw[vP ss];rfl
theorem wA (x:Nat):∀(ss:abz) (m:Nat),outs x (sel m ss)=((bitsOf x 1 ss).filter (bH m)).map λb=>sel (m - b) ss
 |[],_=>rfl
 |s::ss,m=>by
  have ih:=wA x ss (m / 2);have e1:bitsOf x 1 (s::ss)=(if s.contains x=true then [1] else [])++(bitsOf x 1 ss).map λc=>2*c:=by show (if s.contains x=true then [1] else [])++bitsOf x (2*1) ss=_;rw[oG]
  have f1:∀c,bH m (2*c)=bH (m / 2) c:=λc=>by unfold bH;rw[Nat.div_div_eq_div_mul]
  have e2:(((bitsOf x 1 ss).map λc=>2*c).filter (bH m))=((bitsOf x 1 ss).filter (bH (m / 2))).map λc=>2*c:=by rw[List.filter_map];congr 1;exact List.filter_congr λc _=>f1 c
  rw[e1,aaM,Zd,e2,Zk];have big:∀c∈(bitsOf x 1 ss).filter (bH (m / 2)),c<=m / 2:=λc hc=>by
   have h:=(Z3.mp hc).2;unfold bH at h;have h':m / 2 / c % 2=1:=by simpa using h
   by_cases z:c<=m / 2
   . exact z
   rw[Nat.div_eq_of_lt (by omega)] at h';simp at h'
  have e3:((bitsOf x 1 ss).filter (bH (m / 2))).map ((λb=>sel (m - b) (s::ss)) ∘ λc=>2*c)
    = ((bitsOf x 1 ss).filter (bH (m / 2))).map λc=>(if m % 2=1 then [s] else [])++sel (m / 2 - c) ss:=by
   refine ZN λc hc=>?_;have:=big c hc;show (if (m - 2*c) % 2=1 then [s] else [])++sel ((m - 2*c) / 2) ss=_;have a1:(m - 2*c) % 2=m % 2:=by omega
   have a2:(m - 2*c) / 2=m / 2 - c:=by omega
   rw[a1,a2]
  rw[e3,rA];by_cases odd:m % 2=1
  . simp only[YY odd,List.singleton_append];have OP:bH m 1=true:=by unfold bH;simp[odd]
    rw[outs,ih,Zk];congr 1;by_cases c:s.contains x=true
    . simp only[YY c,Z6,OP,aaB,List.filter_nil,Zb,aah];have a1:¬(m - 1) % 2=1:=by omega
      have a2:(m - 1) / 2=m / 2:=by omega
      rw[rA,YX a1,a2];rfl
    simp only[YX c];rfl
  have OP:bH m 1=false:=by unfold bH;simp[odd]
  simp only[YX odd,ZP];rw[ih];by_cases c:s.contains x=true
  . simp only[YY c,Z6,OP,aai,aaQ,List.filter_nil,aah,ZP]
  simp only[YX c,List.filter_nil,aah,ZP]
theorem zW:∀{ss:abz} {m:Nat} {s:abA},s∈sel m ss->s∈ss
 |[],_,_,h=>by simp[sel] at h
 |t::ss,m,s,h=>by
  unfold sel at h;rcases ZJ.mp h with h|h
  . by_cases c:m % 2=1
    . rw[YY c] at h;simp at h;simp[h]
    rw[YX c] at h;simp at h
  exact Zc _ (zW h)
theorem wR:∀ss:abz,sel (2 ^ ss.length - 1) ss=ss
 |[]=>rfl
 |s::ss=>by
  have hp:0 < 2 ^ ss.length:=Nat.two_pow_pos _;have e:2 ^ (s::ss).length - 1=2*(2 ^ ss.length - 1)+1:=by rw[Y7,aaV];omega
  unfold sel;rw[e];have a1:(2*(2 ^ ss.length - 1)+1) % 2=1:=by omega
  have a2:(2*(2 ^ ss.length - 1)+1) / 2=2 ^ ss.length - 1:=by omega
  rw[YY a1,a2,wR ss];rfl
def Ax (x m:Nat)(ss:abz)(p:Nat->Bool)(nd:∀s∈ss,s.Nodup)(hx:p x=false) :
  dz (sel m ss) (λz=>p z||z==x)=dz (sel m ss) p+(((bitsOf x 1 ss).filter (bH m)).map λb=>dz (sel (m - b) ss) p).sum:=by
 rw[tw x (sel m ss) p (λs hs=>nd s (zW hs)) hx,wA,Zk];rfl
abbrev bS (l:abA):Prop:=l.Pairwise (· < ·)
theorem gL:∀l:abA,risesN l=true↔bS l
 |[]=>by simp[risesN]|[x]=>by simp[risesN]
 |x::y::l=>by
  have ih:=gL (y::l);rw[risesN,Y3,aao,ih];constructor
  . rintro⟨h1,h2⟩;refine aab.mpr ⟨λz hz=>?_,h2⟩;rcases Y0.mp hz with rfl|hz
    . exact h1
    exact Nat.lt_trans h1 ((aab.mp h2).1 z hz)
  intro h;obtain⟨h1,h2⟩:=aab.mp h;exact⟨h1 y (by simp),h2⟩
def bS.nodup {l:abA}(h:bS l):l.Nodup:=List.Pairwise.imp (λh=>Zv h) h
theorem fM {α:Type} [DecidableEq α]:∀{l m:List α},l.Nodup->(∀x∈l,x∈m)->l.length<=m.length
 |[],_,_,_=>Zo _
 |x::l,m,nd,h=>by
  obtain⟨h1,h2⟩:=Z5.mp nd;have hx:x∈m:=h x (by simp);have ih:=fM (l:=l) (m:=m.erase x) h2 λy hy=>by have:y≠x:=λe=>h1 (e ▸ hy);exact (abj this).mpr (h y (by simp[hy]))
  have e:=aaA hx;have:0 < m.length:=aa8 hx;rw[Y7];omega
def gj (n:Nat):abA->abA
 |[]=>[n]|x::r=>if n < x then n::x::r else x::gj n r
theorem mL {n y:Nat}:∀{l:abA},y∈gj n l↔y=n\/y∈l
 |[]=>by simp[gj]
 |x::r=>by
  unfold gj;by_cases c:n < x
  . rw[YY c];simp
  rw[YX c,Y0,mL (l:=r),Y0];constructor
  . rintro (h|h|h) <;> simp[h]
  rintro (h|h|h) <;> simp[h]
theorem lW {n:Nat}:∀{l:abA},bS l->¬n∈l->bS (gj n l)
 |[],_,_=>by simp[gj]
 |x::r,h,hn=>by
  obtain⟨h1,h2⟩:=aab.mp h;unfold gj;by_cases c:n < x
  . rw[YY c];refine aab.mpr ⟨λz hz=>?_,h⟩;rcases Y0.mp hz with rfl|hz
    . exact c
    exact Nat.lt_trans c (h1 z hz)
  rw[YX c];have ne:n≠x:=λe=>hn (by simp[e]);refine aab.mpr ⟨λz hz=>?_,lW h2 λm=>hn (by simp[m])⟩;rcases mL.mp hz with rfl|hz
  . omega
  exact h1 z hz
theorem qu {n:Nat}:∀{l:abA},bS l->n∈l->gj n (l.erase n)=l
 |[],_,h=>by simp at h
 |x::r,h,hn=>by
  obtain⟨h1,h2⟩:=aab.mp h;by_cases e:x=n
  . subst e;rw[List.erase_cons_head];cases r with
    |nil=>rfl|cons y r=>unfold gj;rw[YY (h1 y (by simp))]
  have NY:n∈r:=by
   rcases Y0.mp hn with z|z
   . exact absurd z.symm e
   exact z
  rw[List.erase_cons_tail (by simpa using e)];have:=h1 n NY;unfold gj;rw[YX (by omega),qu h2 NY]
theorem qL {n:Nat}:∀{l:abA},¬n∈l->(gj n l).erase n=l
 |[],_=>by simp[gj]
 |x::r,h=>by
  have ne:x≠n:=λe=>h (by simp[e]);unfold gj;by_cases c:n < x
  . rw[YY c,List.erase_cons_head]
  rw[YX c,List.erase_cons_tail (by simpa using ne),qL λm=>h (by simp[m])]
def kb (K:abz)(k:abA):abz:=if K.contains k=true then K else K++[k]
def cB (pick:abA)(K:abz)(n:Nat):abz:=if pick.contains n=true then K else kb K (gj n pick)
def cZ (s:abA)(K:abz)(pick:abA):abz:=s.foldl (cB pick) K
def fB (picks:abz)(s:abA):abz:=picks.foldl (cZ s) []
def bp (ss:abz):abz:=ss.foldl fB [[]]
def xT {K:abz}{k:abA}:r∈kb K k↔r∈K\/r=k:=by
 unfold kb;by_cases c:K.contains k=true
 . rw[YY c];have c':k∈K:=by simpa using c
   exact⟨.inl,λh=>h.elim id λe=>e ▸ c'⟩
 rw[YX c];simp
def mw {K:abz}{k:abA}(h:K.Nodup):(kb K k).Nodup:=by
 unfold kb;by_cases c:K.contains k=true
 . rw[YY c];exact h
 rw[YX c];have c':¬k∈K:=by simpa using c
 refine aay.mpr ⟨h,by simp,λa ha b hb=>?_⟩;have:b=k:=by simpa using hb
 subst this;exact λe=>c' (e ▸ ha)
theorem qi {pick r:abA}:∀{s:abA} {K:abz},r∈cZ s K pick↔r∈K\/∃n∈s,¬n∈pick/\r=gj n pick
 |[],K=>by simp[cZ]
 |n::s,K=>by
  show r∈cZ s (cB pick K n) pick↔_;rw[qi (s:=s)];unfold cB;by_cases c:pick.contains n=true
  . rw[YY c];have c':n∈pick:=by simpa using c
    constructor
    . rintro (h|⟨m,hm,h1,h2⟩)
      . exact .inl h
      exact .inr ⟨m,by simp[hm],h1,h2⟩
    rintro (h|⟨m,hm,h1,h2⟩)
    . exact .inl h
    rcases Y0.mp hm with rfl|hm
    . exact absurd c' h1
    exact .inr ⟨m,hm,h1,h2⟩
  rw[YX c,xT];have c':¬n∈pick:=by simpa using c
  constructor
  . rintro ((h|h)|⟨m,hm,h1,h2⟩)
    . exact .inl h
    . exact .inr ⟨n,by simp,c',h⟩
    exact .inr ⟨m,by simp[hm],h1,h2⟩
  rintro (h|⟨m,hm,h1,h2⟩)
  . exact .inl (.inl h)
  rcases Y0.mp hm with rfl|hm
  . exact .inl (.inr h2)
  exact .inr ⟨m,hm,h1,h2⟩
theorem mW {pick:abA}:∀{s:abA} {K:abz},K.Nodup->(cZ s K pick).Nodup
 |[],_,h=>h
 |n::s,K,h=>by
  show (cZ s (cB pick K n) pick).Nodup;refine mW (s:=s) ?_;unfold cB;by_cases c:pick.contains n=true
  . rw[YY c];exact h
  rw[YX c];exact mw h
theorem wY {s r:abA}:∀{picks K:abz},r∈picks.foldl (cZ s) K↔r∈K\/∃pick∈picks,∃n∈s,¬n∈pick/\r=gj n pick
 |[],K=>by simp
 |p::ps,K=>by
  rw[aan,wY (picks:=ps),qi];constructor
  . rintro ((h|h)|⟨q,hq,h⟩)
    . exact .inl h
    . exact .inr ⟨p,by simp,h⟩
    exact .inr ⟨q,by simp[hq],h⟩
  rintro (h|⟨q,hq,h⟩)
  . exact .inl (.inl h)
  rcases Y0.mp hq with rfl|hq
  . exact .inl (.inr h)
  exact .inr ⟨q,hq,h⟩
theorem qW {s:abA}:∀{picks K:abz},K.Nodup->(picks.foldl (cZ s) K).Nodup
 |[],_,h=>h|p::ps,K,h=>by rw[aan];exact qW (picks:=ps) (mW h)
def snoc_ind {P:List α->Prop}(h0:P [])(h1:∀l a,P l->P (l++[a]))(l:List α):P l:=by
 have:∀m:List α,P m.reverse:=λm=>by
  induction m with
  |nil=>exact h0|cons a m ih=>rw[List.reverse_cons];exact h1 _ a ih
 have h:=this l.reverse
 rwa [List.reverse_reverse] at h
def eK {t:abz}:fillsSets row (s::t)=true↔∃x∈row,x∈s/\fillsSets (row.erase x) t=true:=by
 show (row.any λ(x:Nat)=>s.contains x&&fillsSets (row.erase x) t)=true↔_;rw[aav];constructor
 . rintro⟨x,hx,h⟩;rw[Y3] at h;exact⟨x,hx,by simpa using h.1,h.2⟩
 rintro⟨x,hx,h1,h2⟩;exact⟨x,hx,by rw[Y3];exact⟨by simpa using h1,h2⟩⟩
def oA:fillsSets row []=true↔row=[]:=by show row.isEmpty=true↔_;exact aau
def j2 {x:Nat}{l:abA}(hy:y∈l)(hx:x∈l.erase y):x∈l/\y∈l.erase x:=by
 refine⟨List.mem_of_mem_erase hx,?_⟩;by_cases e:y=x
 . subst e;exact hx
 exact (abj e).mpr hy
theorem mm {s:abA}:∀{ss:abz} {row:abA},fillsSets row (ss++[s])=true↔∃x∈row,x∈s/\fillsSets (row.erase x) ss=true
 |[],row=>by rw[ZP,eK]
 |t::ss,row=>by
  rw[aaX,eK];constructor
  . rintro⟨y,hy,N_,h⟩;obtain⟨x,hx,Nr,h⟩:=mm.mp h;obtain⟨a,b⟩:=j2 hy hx;exact⟨x,a,Nr,eK.mpr ⟨y,b,N_,by rw[List.erase_comm];exact h⟩⟩
  rintro⟨x,hx,Nr,h⟩;obtain⟨y,hy,N_,h⟩:=eK.mp h;obtain⟨a,b⟩:=j2 hx hy;exact⟨y,a,N_,mm.mpr ⟨x,b,Nr,by rw[List.erase_comm];exact h⟩⟩
theorem bS.erase {l:abA}(n:Nat)(h:bS l):bS (l.erase n):=List.Pairwise.sublist List.erase_sublist h
def o8 {l:abA}(h:l.Nodup):¬n∈l.erase n:=λm=>by have:=(h.mem_erase_iff).mp m;exact this.1 rfl
def jd (ss:abz)(s:abA):bp (ss++[s])=fB (bp ss) s:=by unfold bp;rw[List.foldl_append];rfl
def gK (ss:abz):∀r,r∈bp ss↔bS r/\fillsSets r ss=true:=by
 refine snoc_ind (P:=λss=>∀r,r∈bp ss↔bS r/\fillsSets r ss=true) ?_ ?_ ss
 . intro r;show r∈([[]]:abz)↔_;rw[oA,Y_];constructor
   . rintro rfl;exact⟨List.Pairwise.nil,rfl⟩
   exact λh=>h.2
 intro ss s ih r;rw[jd];unfold fB;rw[wY,mm];constructor
 . rintro (h|⟨p,hp,n,hn,h1,rfl⟩)
   . simp at h
   obtain⟨rp,fp⟩:=(ih p).mp hp;exact⟨lW rp h1,n,mL.mpr (.inl rfl),hn,by rw[qL h1];exact fp⟩
 rintro⟨hr,n,hn,hs,h⟩;exact .inr ⟨r.erase n,(ih _).mpr ⟨hr.erase n,h⟩,n,hs,o8 hr.nodup,(qu hr hn).symm⟩
def oP (ss:abz):(bp ss).Nodup:=by
 refine snoc_ind (P:=λss=>(bp ss).Nodup) ?_ ?_ ss
 . show ([[]]:abz).Nodup;simp
 intro ss s _;rw[jd];exact qW List.nodup_nil
theorem gO:∀{ss:abz} {row:abA},fillsSets row ss=true->row.length=ss.length/\∀x∈row,∃s∈ss,x∈s
 |[],row,h=>by have:=oA.mp h;subst this;exact⟨rfl,λx hx=>by simp at hx⟩
 |t::ss,row,h=>by
  obtain⟨y,hy,N_,h⟩:=eK.mp h;obtain⟨h1,h2⟩:=gO h;have e:=aaA hy;have:0 < row.length:=aa8 hy;refine⟨by rw[Y7];omega,λx hx=>?_⟩;by_cases c:x=y
  . subst c;exact⟨t,by simp,N_⟩
  obtain⟨s,hs,Nr⟩:=h2 x ((abj c).mpr hx);exact⟨s,by simp[hs],Nr⟩
theorem fu:∀{k:Nat} {l r:abA},r.Sublist l->r.length=k->r∈risingRows k l
 |0,l,r,_,h=>by have:r=[]:=aaI.mp h;subst this;simp[risingRows]|k+1,_,_,.slnil,h=>by simp at h|k+1,x::l,r,.cons _ h',h=>by rw[risingRows,ZJ];exact .inr (fu h' h)|k+1,x::l,_::r,.cons_cons _ h',h=>by rw[risingRows,ZJ];exact .inl (Zr.mpr ⟨r,fu h' (by simpa using h),rfl⟩)
theorem fC:∀(k:Nat) (l r:abA),r∈risingRows k l->r.length=k
 |0,_,r,h=>by
  have:r=[]:=by simpa [risingRows] using h
  subst this;rfl
 |k+1,[],r,h=>by simp[risingRows] at h
 |k+1,x::l,r,h=>by
  rw[risingRows,ZJ] at h;rcases h with h|h
  . obtain⟨q,hq,rfl⟩:=Zr.mp h;rw[Y7,fC k l q hq]
  exact fC (k+1) l r h
theorem gp:∀(k:Nat) (l:abA),l.Nodup->(risingRows k l).Nodup
 |0,_,_=>by simp[risingRows]|k+1,[],_=>by simp[risingRows]
 |k+1,x::l,nd=>by
  obtain⟨h1,h2⟩:=Z5.mp nd;rw[risingRows];refine aay.mpr ⟨?_,gp (k+1) l h2,?_⟩
  . exact List.Pairwise.map _ (λa b (h:a≠b) e=>h (by injection e)) (gp k l h2)
  intro a ha b hb e;obtain⟨q,_,rfl⟩:=Zr.mp ha;subst e;exact h1 ((dv _ _ _ hb).subset (by simp))
theorem dO:∀{u r:abA},bS u->bS r->(∀x∈r,x∈u)->r.Sublist u
 |_,[],_,_,_=>List.nil_sublist _|[],x::r,_,_,h=>by simpa using h x (by simp)
 |y::u,x::r,hu,hr,h=>by
  obtain⟨u1,u2⟩:=aab.mp hu;obtain⟨r1,r2⟩:=aab.mp hr;by_cases e:x=y
  . subst e;refine (dO u2 r2 λz hz=>?_).cons_cons x;rcases Y0.mp (h z (by simp[hz])) with q|q
    . have:=r1 z hz;omega
    exact q
  have hx:x∈u:=by
   rcases Y0.mp (h x (by simp)) with q|q
   . exact absurd q e
   exact q
  refine (dO u2 hr λz hz=>?_).cons y;have lt:=u1 x hx;rcases Y0.mp (h z hz) with q|q
  . subst q;rcases Y0.mp hz with q|q
    . exact absurd q.symm e
    have:=r1 z q;omega
  exact q
def gi {l:abz}{x:Nat}:x∈together l↔x < 32/\∃s∈l,x∈s:=by
 unfold together;rw[Z3,aaG,aav];constructor
 . rintro⟨h,s,hs,hx⟩;exact⟨h,s,hs,by simpa using hx⟩
 rintro⟨h,s,hs,hx⟩;exact⟨h,s,hs,by simpa using hx⟩
def b8 (l:abz):bS (together l):=List.Pairwise.filter _ List.pairwise_lt_range
structure bz (heads s:abA):Prop where
 rise:bS s
 sub:∀x∈s,x∈heads
structure cK (heads:abA):Prop where
 rise:bS heads
 lo:∀x∈heads,1<=x
 hi:∀x∈heads,x<=24
def Ci:∀{l:abA} {n:Nat},bS l->(∀x∈l,1<=x/\x<=n)->l.length<=n:=λ{l n} h hb=>by
 have:=fM (m:=(List.range n).map (·+1)) h.nodup λx hx=>by obtain⟨a,b⟩:=hb x hx;exact Zr.mpr ⟨x - 1,aaG.mpr (by omega),by omega⟩
 simpa using this
def bz.len (g:bz heads s)(h:cK heads):s.length<=24 :=
 Ci g.rise λx hx=>⟨h.lo x (g.sub x hx),h.hi x (g.sub x hx)⟩
def mq (z:Nat):Bool:=decide (1<=z)&&decide (z<=24)
def fits:abA->abz->Prop
 |[],[]=>True|x::r,s::g=>x∈s/\fits r g|_,_=>False
theorem mQ:∀{r:abA} {g:abz},fits r g->r.length=g.length
 |[],[],_=>rfl|_::_,_::_,h=>by simp[mQ h.2]|[],_::_,h=>h.elim|_::_,[],h=>h.elim
theorem hZ:∀{g:abz} {r:abA},r∈rowsOf g↔fits r g
 |[],[]=>by simp[rowsOf,fits]|[],_::_=>by simp[rowsOf,fits]|s::g,[]=>by simp[rowsOf,fits]|s::g,x::r=>by simp[rowsOf,fits,hZ]
theorem cM:∀{g:abz} {had r:abA},r∈apartRows g had↔fits r g/\r.Nodup/\∀x∈r,¬x∈had
 |[],_,[]=>by simp[apartRows,fits]|[],_,_::_=>by simp[apartRows,fits]|s::g,_,[]=>by simp[apartRows,fits]
 |s::g,had,x::r=>by
  simp only[apartRows,aaW,Z3,Zr,List.cons.injEq,fits,Z5,abk];constructor
  . rintro⟨y,⟨h1,h2⟩,q,hq,rfl,rfl⟩;obtain⟨a,b,c⟩:=cM.mp hq;exact⟨⟨h1,a⟩,⟨λm=>c y m (by simp),b⟩,by simpa using h2,λz hz m=>c z hz (by simp[m])⟩
  rintro⟨⟨h1,a⟩,⟨n,b⟩,h2,c⟩;refine⟨x,⟨h1,by simpa using h2⟩,r,cM.mpr ⟨a,b,λz hz m=>?_⟩,rfl,rfl⟩;rcases Y0.mp m with rfl|m
  . exact n hz
  exact c z hz m
def pO {x:Nat}{l:abz}(h:l.Nodup):(l.map λr=>x::r).Nodup:=List.pairwise_map.mpr (List.Pairwise.imp (λn e=>n (List.cons.inj e).2) h)
def we {f:Nat->abz}(hs:s.Nodup)(h:∀x∈s,(f x).Nodup):(s.flatMap λx=>(f x).map λr=>x::r).Nodup:=by refine List.pairwise_flatMap.mpr ⟨λx hx=>pO (h x hx),List.Pairwise.imp (λn a ha b hb e=>?_) hs⟩;obtain⟨p,_,rfl⟩:=Zr.mp ha;obtain⟨q,_,rfl⟩:=Zr.mp hb;exact n (List.cons.inj e).1
theorem j9:∀{g:abz} {had:abA},(∀s∈g,s.Nodup)->(apartRows g had).Nodup
 |[],_,_=>by simp[apartRows]|s::g,had,h=>we ((h s (by simp)).filter _) λ_ _=>j9 λt ht=>h t (by simp[ht])
theorem qE:∀{r:abA} {g:abz},fits r g->(∀x∈r,∃s∈g,x∈s)/\∀s∈g,∃x∈r,x∈s
 |[],[],_=>by simp
 |x::r,s::g,h=>by
  obtain⟨a,b⟩:=qE h.2;refine⟨λy hy=>?_,λt ht=>?_⟩
  . rcases Y0.mp hy with rfl|hy
    . exact⟨s,by simp,h.1⟩
    obtain⟨t,ht,N_⟩:=a y hy;exact⟨t,by simp[ht],N_⟩
  rcases Y0.mp ht with rfl|ht
  . exact⟨x,by simp,h.1⟩
  obtain⟨y,hy,N_⟩:=b t ht;exact⟨y,by simp[hy],N_⟩
 |[],_::_,h=>h.elim|_::_,[],h=>h.elim
theorem mD {B:abA}:∀{k:Nat} {r:abA},fits r (List.replicate k B)↔r.length=k/\∀x∈r,x∈B
 |0,[]=>by simp[fits]|0,_::_=>by simp[fits]|k+1,[]=>by simp[fits,abm]|k+1,x::r=>by rw[abm];show x∈B/\fits r _↔_;rw[mD];simp only[Y7,abk,Nat.add_right_cancel_iff];exact⟨λ⟨a,b,c⟩=>⟨b,a,c⟩,λ⟨b,a,c⟩=>⟨a,b,c⟩⟩
def jS (a:Nat)(B:abA):abz->List (abz)
 |[]=>[]|s::g=>(if s==B then [[a]::g] else [])++(jS a B g).map λr=>s::r
def bA (B:abA)(A:abA)(gs:List (abz)):List (abz):=A.foldl (λgs a=>gs.flatMap (jS a B)) gs
def vc {x:Nat}(h:¬x∈B):[x]≠B:=λe=>h (e ▸ Y_.mpr rfl)
def uX {t:abz}:t∈jS a B (s::g)↔(s=B/\t=[a]::g)\/∃r∈jS a B g,t=s::r:=by show t∈(if s==B then [[a]::g] else [])++(jS a B g).map (λr=>s::r)↔_;rw[ZJ,Zr];have z:(∃r,r∈jS a B g/\s::r=t)↔∃r∈jS a B g,t=s::r:=⟨λ⟨r,h,e⟩=>⟨r,h,e.symm⟩,λ⟨r,h,e⟩=>⟨r,h,e.symm⟩⟩;rw[z];by_cases e:s=B <;> simp[e]
structure Good (B had:abA)(k:Nat)(g:abz):Prop where
 len:g.length=k
 are:∀s∈g,s=B\/∃a∈had,s=[a]
 all:∀a∈had,[a]∈g
theorem pz {a:Nat}{B:abA}:∀{g t:abz},t∈jS a B g->t.length=g.length/\(∀s∈t,s=[a]\/s∈g)/\[a]∈t/\∀s∈g,s=B\/s∈t
 |[],t,h=>by cases h
 |s::g,t,h=>by
  rcases uX.mp h with ⟨rfl,rfl⟩|⟨r,hr,rfl⟩
  . refine⟨rfl,λu hu=>?_,by simp,λu hu=>?_⟩
    . rcases Y0.mp hu with e|hu
      . exact .inl e
      exact .inr (by simp[hu])
    rcases Y0.mp hu with e|hu
    . exact .inl e
    exact .inr (by simp[hu])
  obtain⟨a1,a2,a3,a4⟩:=pz hr;refine⟨by simp[a1],λu hu=>?_,by simp[a3],λu hu=>?_⟩
  . rcases Y0.mp hu with e|hu
    . exact .inr (by simp[e])
    exact (a2 u hu).imp id λm=>by simp[m]
  rcases Y0.mp hu with e|hu
  . exact .inr (by simp[e])
  exact (a4 u hu).imp id λm=>by simp[m]
def B_ {k:Nat}{had:abA}{t:abz}(hB:∀x∈had,¬x∈B)(G:Good B had k g)(h:t∈jS a B g):Good B (had++[a]) k t:=by
 obtain⟨a1,a2,a3,a4⟩:=pz h;refine⟨a1.trans G.len,λs hs=>?_,λx hx=>?_⟩
 . rcases a2 s hs with e|m
   . exact .inr ⟨a,by simp,e⟩
   exact (G.are s m).imp id λ⟨x,hx,e⟩=>⟨x,by simp[hx],e⟩
 rcases ZJ.mp hx with hx|hx
 . exact (a4 _ (G.all x hx)).resolve_left (vc (hB x hx))
 rw[Y_] at hx;exact hx ▸ a3
def wM (a:Nat)(B:abA)(g:abz):abz:=g.map λs=>if s=[a] then B else s
def xI (h:¬[a]∈g):wM a B g=g:=by
 unfold wM
 conv=>rhs;rw[<-List.map_id g]
 refine ZN λs hs=>?_;rw[YX λe=>h (by rw[<-e];exact hs)];rfl
theorem qO {a:Nat}{B:abA}:∀{g t:abz},¬[a]∈g->t∈jS a B g->wM a B t=g
 |[],t,_,h=>by cases h
 |s::g,t,n,h=>by
  have n2:¬[a]∈g:=λm=>n (by simp[m]);rcases uX.mp h with ⟨rfl,rfl⟩|⟨r,hr,rfl⟩
  . show (if [a]=[a] then s else [a])::wM a s g=_;rw[YY rfl,xI n2]
  show (if s=[a] then B else s)::wM a B r=_;rw[YX λe=>n (by simp[e]),qO n2 hr]
theorem sR {a:Nat}{B:abA}(hB:¬a∈B):∀g:abz,(jS a B g).Nodup
 |[]=>by simp[jS]
 |s::g=>by
  have m:((jS a B g).map λr=>s::r).Nodup:=List.pairwise_map.mpr (List.Pairwise.imp (λn e=>n (List.cons.inj e).2) (sR hB g));unfold jS;by_cases e:s=B
  . rw[YY (by simp[e])];refine Z5.mpr ⟨λh=>?_,m⟩;obtain⟨r,_,hr⟩:=Zr.mp h;exact vc hB ((List.cons.inj hr).1 ▸ e)
  rw[YX (by simp[e])];exact m
theorem jg {B:abA}{k:Nat}:∀{A had:abA} {gs:List (abz)},(∀x∈had++A,¬x∈B)->(had++A).Nodup->gs.Nodup->(∀g∈gs,Good B had k g)->(bA B A gs).Nodup/\∀g∈bA B A gs,Good B (had++A) k g
 |[],had,gs,_,_,h2,h3=>by rw[ZW];exact⟨h2,h3⟩
 |a::A,had,gs,hB,nd,h2,h3=>by
  have e:had++a::A=(had++[a])++A:=by simp
  rw[e] at hB nd ⊢;have n1:=aay.mp (aay.mp nd).1;have ha:¬a∈had:=λm=>n1.2.2 a m a (by simp) rfl;have hb:∀x∈had,¬x∈B:=λx hx=>hB x (by simp[hx]);have no:∀g∈gs,¬[a]∈g:=λg hg m=>by
   rcases (h3 g hg).are _ m with e|⟨x,hx,e⟩
   . exact vc (hB a (by simp)) e
   have:a=x:=by simpa using e
   exact ha (this ▸ hx)
  refine jg hB nd ?_ λg hg=>?_
  . refine List.pairwise_flatMap.mpr ⟨λg _=>sR (hB a (by simp)) g,aax.mpr λ{g g'} hs x hx y hy e=>?_⟩;have m1:=hs.subset (show g∈[g,g'] by simp);have m2:=hs.subset (show g'∈[g,g'] by simp);have:=aax.mp h2 hs;exact this (by rw[<-qO (no g m1) hx,e,qO (no g' m2) hy])
  obtain⟨g0,h0,hr⟩:=aaW.mp hg;exact B_ hb (h3 g0 h0) hr
def ia (A B:abA)(r:abA):abz:=r.map λx=>if x∈A then [x] else B
theorem vQ {a:Nat}{B had:abA}(ha:¬a∈had):∀{r:abA},r.Nodup->a∈r->ia (had++[a]) B r∈jS a B (ia had B r)
 |[],_,h=>by cases h
 |y::r,nd,h=>by
  obtain⟨n1,n2⟩:=Z5.mp nd;have step:∀z,z≠a->(if z∈had++[a] then [z] else B)=if z∈had then [z] else B:=λz hz=>by simp[hz]
  refine uX.mpr ?_;by_cases e:y=a
  . subst e;refine .inl ⟨YX ha,?_⟩;show (if y∈had++[y] then [y] else B)::ia (had++[y]) B r=_;rw[YY (by simp)];congr 1;exact ZN λz hz=>step z λe=>n1 (e ▸ hz)
  refine .inr ⟨_,vQ ha n2 ((Y0.mp h).resolve_left λz=>e z.symm),?_⟩;show (if y∈had++[a] then [y] else B)::_=_;rw[step y e];rfl
theorem pR {B r:abA}(nr:r.Nodup):∀{A had:abA} {gs:List (abz)},(had++A).Nodup->(∀a∈A,a∈r)->ia had B r∈gs->ia (had++A) B r∈bA B A gs
 |[],had,gs,_,_,h=>by rwa [ZW]
 |a::A,had,gs,nd,h1,h=>by
  have e:had++a::A=(had++[a])++A:=by simp
  rw[e] at nd ⊢;have n1:=aay.mp (aay.mp nd).1;exact pR nr nd (λx hx=>h1 x (by simp[hx])) (aaW.mpr ⟨_,h,vQ (λm=>n1.2.2 a m a (by simp) rfl) nr (h1 a (by simp))⟩)
def BU:ia [] B r=List.replicate r.length B:=by unfold ia;rw[<-List.map_const'];exact ZN λx _=>by simp
theorem t9 {A B:abA}:∀{r:abA},(∀x∈r,x∈A\/x∈B)->fits r (ia A B r)
 |[],_=>trivial
 |x::r,h=>by
  refine⟨?_,t9 λy hy=>h y (by simp[hy])⟩;by_cases e:x∈A
  . simp[e]
  simpa [e] using (h x (by simp)).resolve_left e
theorem oh {A B:abA}(hB:∀x∈A,¬x∈B):∀{r:abA} {g:abz},(∀s∈g,s=B\/∃a∈A,s=[a])->fits r g->g=ia A B r
 |[],[],_,_=>rfl
 |x::r,s::g,h,f=>by
  show s::g=(if x∈A then [x] else B)::ia A B r;rw[<-oh hB (λt ht=>h t (by simp[ht])) f.2];congr 1;rcases h s (by simp) with rfl|⟨a,ha,rfl⟩
  . rw[YX λm=>hB x m f.1]
  have:x=a:=by simpa using f.1
  rw[this,YY ha]
 |[],_::_,_,f=>f.elim|_::_,[],_,f=>f.elim
def xX {A:abA}{k:Nat}(nA:A.Nodup)(nB:B.Nodup)(Na:∀x∈A,¬x∈B) :
  ((bA B A [List.replicate k B]).flatMap λg=>apartRows g []).Nodup /\
  ∀r,r∈(bA B A [List.replicate k B]).flatMap (λg=>apartRows g [])↔r.length=k/\r.Nodup/\(∀a∈A,a∈r)/\∀x∈r,x∈A\/x∈B:=by
 obtain⟨h1,h2⟩:=jg (B:=B) (k:=k) (A:=A) (had:=[]) (gs:=[List.replicate k B]) (by simpa using Na) (by simpa using nA) (by simp) (λg hg=>by rw[Y_] at hg;subst hg;exact⟨by simp,λs hs=>.inl (ZV hs),by simp⟩)
 rw[ZP] at h2;refine⟨List.pairwise_flatMap.mpr ⟨λg hg=>j9 λs hs=>?_,aax.mpr λ{g g'} hs x hx y hy e=>?_⟩,λr=>?_⟩
 . rcases (h2 g hg).are s hs with rfl|⟨a,_,rfl⟩
   . exact nB
   simp
 . have m1:=hs.subset (show g∈[g,g'] by simp);have m2:=hs.subset (show g'∈[g,g'] by simp);refine aax.mp h1 hs ?_;rw[oh Na (h2 g m1).are (cM.mp hx).1,e,<-oh Na (h2 g' m2).are (cM.mp hy).1]
 rw[aaW];constructor
 . rintro⟨g,hg,hr⟩;obtain⟨f,nr,_⟩:=cM.mp hr;have G:=h2 g hg;obtain⟨f1,f2⟩:=qE f;refine⟨(mQ f).trans G.len,nr,λa ha=>?_,λx hx=>?_⟩
   . obtain⟨x,hx,e⟩:=f2 _ (G.all a ha);have:x=a:=by simpa using e
     exact this ▸ hx
   obtain⟨s,hs,Nr⟩:=f1 x hx;rcases G.are s hs with rfl|⟨a,ha,rfl⟩
   . exact .inr Nr
   have:x=a:=by simpa using Nr
   exact .inl (this ▸ ha)
 rintro⟨hl,nr,ha,hx⟩;refine⟨ia A B r,?_,cM.mpr ⟨t9 hx,nr,by simp⟩⟩;have:=pR (B:=B) nr (A:=A) (had:=[]) (gs:=[List.replicate k B]) (by simpa using nA) ha (by rw[BU,hl];simp);simpa using this
theorem md {B:abA}:∀{A P:abA} {j:Nat} {rest:List (abz)},(∀x∈P++A,¬x∈B)->A.length<=j->∃q,bA B A ((P.map (λa=>[a])++List.replicate j B)::rest)=((P++A).map (λa=>[a])++List.replicate (j - A.length) B)::q
 |[],P,j,rest,_,_=>⟨rest,by simp[bA]⟩
 |a::A,P,j,rest,h,hj=>by
  obtain⟨j,rfl⟩:∃i,j=i+1:=⟨j - 1,by rw[Y7] at hj;omega⟩;have first:∀P:abA,(∀x∈P,¬x∈B)->∃q,jS a B (P.map (λa=>[a])++List.replicate (j+1) B)=(P.map (λa=>[a])++[a]::List.replicate j B)::q:=by
   intro P
   induction P with
   |nil=>intro _;exact⟨_,by rw[aah,ZP,ZP,abm];unfold jS;rw[YY (by simp)];rfl⟩|cons x P ih =>intro hP;obtain⟨q,e⟩:=ih λy hy=>hP y (by simp[hy]);refine⟨q.map λr=>[x]::r,?_⟩;rw[Zb,aaX];unfold jS;rw[e,YX (by simpa using vc (hP x (by simp)))];rfl
  obtain⟨q,e⟩:=first P λx hx=>h x (by simp[hx])
  obtain⟨q',e'⟩:=md (B:=B) (A:=A) (P:=P++[a]) (j:=j) (rest:=q++rest.flatMap (jS a B)) (by simpa using h) (by rw[Y7] at hj;omega);refine⟨q',?_⟩;show bA B A (((P.map (λa=>[a])++List.replicate (j+1) B)::rest).flatMap (jS a B))=_;rw[aa_,e,aaX];have e1:P.map (λa=>[a])++[a]::List.replicate j B=(P++[a]).map (λa=>[a])++List.replicate j B:=by simp
  rw[e1,e'];simp
theorem jm {B:abA}:∀{j:Nat} {r:abA},fillsSets r (List.replicate j B)=true↔r.length=j/\∀x∈r,x∈B
 |0,r=>by rw[List.replicate_zero,oA];exact⟨λh=>by subst h;simp,λh=>aaI.mp h.1⟩
 |j+1,r=>by
  rw[abm,eK];constructor
  . rintro⟨x,hx,hb,h⟩;obtain⟨h1,h2⟩:=jm.mp h;have:=aaA hx;have:=aa8 hx;refine⟨by omega,λy hy=>?_⟩;by_cases e:y=x
    . exact e ▸ hb
    exact h2 y ((abj e).mpr hy)
  rintro⟨hl,h⟩
  match r,hl,h with
  |x::r,hl,h=>exact⟨x,by simp,h x (by simp),jm.mpr ⟨by simpa using hl,λy hy=>h y (by simp only[List.erase_cons_head] at hy;simp[hy])⟩⟩
theorem mn {B:abA}{j:Nat}:∀{A r:abA},A.Nodup->(∀x∈B,¬x∈A)->r.Nodup ->
  (fillsSets r (A.map (λa=>[a])++List.replicate j B)=true↔(∀a∈A,a∈r)/\r.length=A.length+j/\∀x∈r,x∈A\/x∈B)
 |[],r,_,_,_=>by rw[aah,ZP,jm];simp
 |a::A,r,nA,Na,nr=>by
  obtain⟨n1,n2⟩:=Z5.mp nA;rw[Zb,aaX,eK];have ih:=mn (B:=B) (j:=j) n2 (λx hx m=>Na x hx (Zc _ m)) (nr.erase a);have me:∀x,x∈r.erase a↔x≠a/\x∈r:=λx=>nr.mem_erase_iff;constructor
  . rintro⟨x,hx,ha,h⟩;have:x=a:=by simpa using ha
    subst this;obtain⟨h1,h2,h3⟩:=ih.mp h;have:=aaA hx;have:=aa8 hx;refine⟨λy hy=>?_,by rw[Y7];omega,λy hy=>?_⟩
    . rcases Y0.mp hy with rfl|hy
      . exact hx
      exact ((me y).mp (h1 y hy)).2
    by_cases e:y=x
    . exact .inl (by simp[e])
    exact (h3 y ((me y).mpr ⟨e,hy⟩)).imp (Zc _) id
  rintro⟨h1,h2,h3⟩;have ha:=h1 a (by simp);have:=aaA ha;rw[Y7] at h2;refine⟨a,ha,by simp,ih.mpr ⟨λy hy=>(me y).mpr ⟨λe=>n1 (e ▸ hy),h1 y (Zc _ hy)⟩,by omega,λy hy=>?_⟩⟩;obtain⟨e,hy⟩:=(me y).mp hy;rcases h3 y hy with m|m
  . exact .inl ((Y0.mp m).resolve_left e)
  exact .inr m
def dY (kind:Kind)(how:How)(k:Nat)(sets:abz):List (abz):=match how with
 |.on=>[sets]|.box=>[List.replicate k (sets.headD [])]|.key=>if kind=.any then (bA (sets.getD 1 []) (sets.headD []) [List.replicate k (sets.getD 1 [])]).take 1 else bA (sets.getD 1 []) (sets.headD []) [List.replicate k (sets.getD 1 [])]
def fc (kind:Kind)(gs:List (abz)):abz:=match kind with
 |.order=>gs.flatMap λg=>apartRows g []|.any=>bp (gs.headD [])|_=>gs.flatMap rowsOf
def Cz (kind:Kind)(how:How)(k:Nat)(sets:abz):abz:=fc kind (dY kind how k sets)
def countM (kind:Kind)(how:How)(k:Nat)(sets:abz):Nat:=(Cz kind how k sets).length
section
variable {C:Card}{b:Bet}{p:Pool}
def iV (hl:p.kind≠.legs):(C.sets p).headD []=C.headsOf p.race:=by unfold Card.sets Pool.legs;rw[YX hl];rfl
def ko (hk:p.kind=.order):C.isCombo p row=(row.length==p.k&&(decide row.Nodup&&row.all λx=>(C.headsOf p.race).contains x)):=by unfold Card.isCombo;rw[hk];simp only[iV (C:=C) (p:=p) (by rw[hk];decide)]
def kN (hk:p.kind=.any):C.isCombo p row=(row.length==p.k&&(risesN row&&row.all λx=>(C.headsOf p.race).contains x)):=by unfold Card.isCombo;rw[hk];simp only[iV (C:=C) (p:=p) (by rw[hk];decide)]
structure oJ (C:Card)(b:Bet)(p:Pool):Prop where
 pool:C.pool b.pool=p
 heads:p.kind≠.legs->cK (C.headsOf p.race)
 k:p.kind≠.legs->p.kind≠.place->2<=p.k/\p.k<=mostK p.kind
 good:p.kind≠.legs->∀s∈b.sets,bz (C.headsOf p.race) s
 place:p.kind=.place->b.how=.on/\b.sets.length=1
 legs:p.kind=.legs->b.how=.on
 on:p.kind≠.legs->p.kind≠.place->b.how=.on->b.sets.length=p.k
 box:b.how=.box->∃s,b.sets=[s]/\p.k<=s.length
 key:b.how=.key->∃s t,b.sets=[s,t]/\s.length < p.k/\(∀x∈t,¬x∈s)/\p.k<=s.length+t.length
def jc {l:abz}(h:∀s∈l,bz heads s):∀x∈together l,x∈heads:=λx hx=>by obtain⟨_,s,hs,Nr⟩:=gi.mp hx;exact (h s hs).sub x Nr
def cR {l:abz}(gh:cK heads)(h:∀s∈l,bz heads s)(hs:s∈l):∀x∈s,x∈together l:=λx hx =>gi.mpr ⟨Nat.lt_of_le_of_lt (gh.hi x ((h s hs).sub x hx)) (by decide),s,hs,hx⟩
def Bb (hk:p.kind=.order)(gh:cK (C.headsOf p.race))(hp:C.pool b.pool=p){A B:abA}(good:∀s∈b.sets,bz (C.headsOf p.race) s)(hu:∀x,(∃s∈b.sets,x∈s)↔x∈A\/x∈B)(hf:∀r,(∀x∈r,x∈A\/x∈B)->(C.has b r=(C.isCombo p r&&A.all λx=>r.contains x)))(r:abA) :
  r∈(apartRows (List.replicate p.k (together b.sets)) []).filter (C.has b)↔r.length=p.k/\r.Nodup/\(∀a∈A,a∈r)/\∀x∈r,x∈A\/x∈B:=by
 have OQ:∀x,x∈together b.sets↔x∈A\/x∈B:=λx=>by rw[<-hu];exact⟨λh=>(gi.mp h).2,λ⟨s,hs,hx⟩=>cR gh good hs x hx⟩
 rw[Z3,cM,mD];constructor
 . rintro⟨⟨⟨h1,h2⟩,h3,_⟩,h4⟩;have sub:∀x∈r,x∈A\/x∈B:=λx hx=>(OQ x).mp (h2 x hx);rw[hf r sub] at h4;simp only[Y3,Zn] at h4;exact⟨h1,h3,λa ha=>by simpa using h4.2 a ha,sub⟩
 rintro⟨h1,h2,h3,h4⟩;refine⟨⟨⟨h1,λx hx=>(OQ x).mpr (h4 x hx)⟩,h2,by simp⟩,?_⟩;rw[hf r h4,ko hk];simp only[Y3,Zn,Y4];exact⟨⟨by simpa using h1,h2,λx hx=>by simpa using jc good x ((OQ x).mpr (h4 x hx))⟩,λa ha=>by simpa using h3 a ha⟩
def EN (hk:p.kind=.any)(gh:cK (C.headsOf p.race))(hp:C.pool b.pool=p){A B:abA}(good:∀s∈b.sets,bz (C.headsOf p.race) s)(hu:∀x,(∃s∈b.sets,x∈s)↔x∈A\/x∈B)(hf:∀r,(∀x∈r,x∈A\/x∈B)->(C.has b r=(C.isCombo p r&&A.all λx=>r.contains x)))(r:abA) :
  r∈(risingRows p.k (together b.sets)).filter (C.has b)↔bS r/\(∀a∈A,a∈r)/\r.length=p.k/\∀x∈r,x∈A\/x∈B:=by
 have OQ:∀x,x∈together b.sets↔x∈A\/x∈B:=λx=>by rw[<-hu];exact⟨λh=>(gi.mp h).2,λ⟨s,hs,hx⟩=>cR gh good hs x hx⟩
 rw[Z3];constructor
 . rintro⟨h1,h4⟩;have hs:=dv _ _ _ h1;have sub:∀x∈r,x∈A\/x∈B:=λx hx=>(OQ x).mp (hs.subset hx);rw[hf r sub] at h4;simp only[Y3,Zn] at h4;exact⟨List.Pairwise.sublist hs (b8 _),λa ha=>by simpa using h4.2 a ha,fC _ _ _ h1,sub⟩
 rintro⟨h1,h2,h3,h4⟩;refine⟨fu (dO (b8 _) h1 λx hx=>(OQ x).mpr (h4 x hx)) h3,?_⟩;rw[hf r h4,kN hk];simp only[Y3,Zn,Y4];exact⟨⟨by simpa using h3,(gL r).mpr h1,λx hx=>by simpa using jc good x ((OQ x).mpr (h4 x hx))⟩,λa ha=>by simpa using h2 a ha⟩
def zK (v:oJ C b p)(nl:p.kind≠.legs)(hn:b.how≠.on):∃A B,dY p.kind b.how p.k b.sets=(if p.kind=.any then (bA B A [List.replicate p.k B]).take 1 else bA B A [List.replicate p.k B])/\A.Nodup/\B.Nodup/\(∀x∈B,¬x∈A)/\A.length<=p.k /\
  (∀x,(∃s∈b.sets,x∈s)↔x∈A\/x∈B)/\∀r,(∀x∈r,x∈A\/x∈B)->(C.has b r=(C.isCombo p r&&A.all λx=>r.contains x)):=by
 cases hh:b.how with
 |on=>exact absurd hh hn
 |box =>
  obtain⟨s,hs,hl⟩:=v.box hh;have g:bz (C.headsOf p.race) s:=v.good nl s (by rw[hs];simp);refine⟨[],s,?_,by simp,g.rise.nodup,by simp,by simp,λx=>by rw[hs];simp,λr hr=>?_⟩
  . rw[hs];unfold dY bA;by_cases e:p.kind=.any <;> simp[e]
  unfold Card.has;rw[v.pool,hh,hs];have:(r.all λx=>([s].headD []).contains x)=true:=by rw[Zn];intro x hx;simpa using hr x hx
  simp only[this,List.all_nil]
 |key =>
  obtain⟨s,t,hs,hl,Na,Ou⟩:=v.key hh;have gs:bz (C.headsOf p.race) s:=v.good nl s (by rw[hs];simp);have gt:bz (C.headsOf p.race) t:=v.good nl t (by rw[hs];simp);refine⟨s,t,by rw[hs];rfl,gs.rise.nodup,gt.rise.nodup,Na,by omega,λx=>by rw[hs];simp,λr hr=>?_⟩;unfold Card.has;rw[v.pool,hh,hs];have:(r.all λx=>s.contains x||t.contains x)=true:=by rw[Zn];intro x hx;simpa using hr x hx
  show (C.isCombo p r&&((s.all λx=>r.contains x)&&r.all λx=>s.contains x||t.contains x))=_;rw[this,Bool.and_true]
def rG (hp:C.pool b.pool=p)(hk:p.kind=.order)(hh:b.how≠.on):C.rows b=(apartRows (List.replicate p.k (together b.sets)) []).filter (C.has b):=by
 unfold Card.rows;rw[hp];dsimp only;rw[hk];cases hb:b.how with
 |on=>exact absurd hb hh|box=>rfl|key=>rfl
def tH (v:oJ C b p):(Cz p.kind b.how p.k b.sets).Perm (C.rows b):=by
 have hp:=v.pool;unfold Cz Card.rows;rw[hp];dsimp only;cases hk:p.kind with
 |legs =>rw[v.legs hk];show ([b.sets].flatMap rowsOf).Perm _;simp
 |place =>
  obtain⟨h1,h2⟩:=v.place hk;rw[h1]
  match hs:b.sets,h2 with
  |[s],_ =>show ([[s]].flatMap rowsOf).Perm (s.map λx=>[x]);simp[rowsOf,<-List.map_eq_flatMap]
 |order =>
  have nl:p.kind≠.legs:=by rw[hk];decide
  have gh:=v.heads nl;by_cases hh:b.how=.on
  . rw[hh];show ([b.sets].flatMap λg=>apartRows g []).Perm (apartRows b.sets []);simp
  have e:=rG hp hk hh;unfold Card.rows at e;rw[hp] at e;dsimp only at e;rw[hk] at e;rw[e];obtain⟨A,B,e1,nA,nB,Na,_,hu,hf⟩:=zK v nl hh;rw[hk,YX (by decide)] at e1;rw[e1];obtain⟨r1,r2⟩:=xX (k:=p.k) nA nB λx hx m=>Na x m hx;refine (abv r1 ((j9 λs hs=>?_).filter _)).mpr λr=>(r2 r).trans (Bb hk gh hp (v.good nl) hu hf r).symm;rw[ZV hs];exact (b8 _).nodup
 |any =>
  have nl:p.kind≠.legs:=by rw[hk];decide
  have np:p.kind≠.place:=by rw[hk];decide
  have gh:=v.heads nl;show (bp ((dY .any b.how p.k b.sets).headD [])).Perm ((risingRows p.k (together b.sets)).filter (C.has b));refine (abv (oP _) ((gp _ _ (b8 _).nodup).filter _)).mpr λr=>?_;by_cases hh:b.how=.on
  . rw[hh];show r∈bp b.sets↔_;rw[Z3,gK];have hlen:=v.on nl np hh;have OR:C.has b r=(C.isCombo p r&&fillsSets r b.sets):=by
     unfold Card.has;rw[hp,hh];show (C.isCombo p r&&if p.kind=.any then _ else _)=_;rw[YY hk]
    rw[OR,kN hk];constructor
    . rintro⟨h1,h2⟩;obtain⟨l1,l2⟩:=gO h2;have Ui:∀x∈r,x∈together b.sets:=λx hx=>by
       obtain⟨s,hs,Nr⟩:=l2 x hx;exact cR gh (v.good nl) hs x Nr
      refine⟨fu (dO (b8 _) h1 Ui) (by rw[l1,hlen]),?_⟩;simp only[Y3];refine⟨⟨by simp[l1,hlen],(gL r).mpr h1,?_⟩,h2⟩;rw[Zn];intro x hx;simpa using jc (v.good nl) x (Ui x hx)
    rintro⟨h1,h2⟩;simp only[Y3] at h2;exact⟨(gL r).mp h2.1.2.1,h2.2⟩
  obtain⟨A,B,e1,nA,nB,Na,hA,hu,hf⟩:=zK v nl hh;rw[hk,YY rfl] at e1;obtain⟨q,e2⟩:=md (B:=B) (A:=A) (P:=[]) (j:=p.k) (rest:=[]) (λx hx m=>Na x m (by simpa using hx)) hA;rw[aah,ZP,ZP] at e2;rw[e1,e2];show r∈bp (A.map (λa=>[a])++List.replicate (p.k - A.length) B)↔_;rw[gK,EN hk gh hp (v.good nl) hu hf r];constructor
  . rintro⟨h1,h2⟩;obtain⟨a1,a2,a3⟩:=(mn nA Na h1.nodup).mp h2;exact⟨h1,a1,by omega,a3⟩
  rintro⟨h1,a1,a2,a3⟩;exact⟨h1,(mn nA Na h1.nodup).mpr ⟨a1,by omega,a3⟩⟩
theorem fU:∀(g:abz),(rowsOf g).length=product (g.map List.length)
 |[]=>rfl
 |s::g=>by
  have fold:∀(l:abA) (a:Nat),l.foldl (λa b=>a*b) a=a*product l:=by
   intro l
   induction l with
   |nil=>intro a;simp[product]|cons x l ih=>intro a;unfold product;rw[aan,aan,ih,ih (1*x)];simp[Nat.mul_assoc]
  unfold rowsOf;rw[eh,Zb];show _=(g.map List.length).foldl (λa b=>a*b) (1*s.length);rw[fold,Nat.one_mul,<-fU g];simp only[YW];rw[sum_map_const]
def uL (v:oJ C b p):C.manyOf b=countM p.kind b.how p.k b.sets:=by
 unfold countM;rw[(tH v).length_eq];unfold Card.manyOf;rw[v.pool];by_cases h:p.kind=.legs
 . rw[YY h,<-fU];unfold Card.rows;rw[v.pool];dsimp only;rw[h]
 rw[YX h]
end
abbrev W:=abA
def isLet (c:Nat):Bool:=decide (97<=c)&&decide (c<=122)
def b6 (c:Nat):Bool:=decide (48<=c)&&decide (c<=57)
def vw (c:Nat):Bool:=isLet c||b6 c||c==32||c==10||c==44||c==47
def sg (c:Nat):Nat:=if vw c=true then c else 63
def tx (w:Bytes):W:=w.map λc=>sg c.toNat
def cd (s:String):W:=s.toList.map Char.toNat
def wK {c d:Nat}(h:vw d=true):sg c=d↔c=d:=by
 unfold sg;by_cases e:vw c=true
 . rw[YY e]
 rw[YX e];constructor
 . intro q;subst q;exact absurd h (by decide)
 rintro rfl;exact absurd h e
def rH (c:Nat):isLet (sg c)=isLet c:=by
 unfold sg;by_cases e:vw c=true
 . rw[YY e]
 rw[YX e];have:isLet c=false:=by
  cases h:isLet c with
  |false=>rfl|true=>exact absurd (by unfold vw;rw[h];simp) e
 rw[this];decide
def qy (c:Nat):b6 (sg c)=b6 c:=by
 unfold sg;by_cases e:vw c=true
 . rw[YY e]
 rw[YX e];have:b6 c=false:=by
  cases h:b6 c with
  |false=>rfl|true=>exact absurd (by unfold vw;rw[h];simp) e
 rw[this];decide
def Bm {c:Nat}(h:b6 c=true):sg c=c:=by unfold sg vw;rw[h];simp
def iR (w:Bytes):(tx w).length=w.length:=by unfold tx;rw[YW]
def t7 (v w:Bytes):tx (v++w)=tx v++tx w:=by unfold tx;rw[Zd]
def BG:tx []=[]:=rfl
def uI (c:UInt8)(w:Bytes):tx (c::w)=sg c.toNat::tx w:=rfl
def jV {a b:UInt8}(h:a.toNat=b.toNat):a=b:=UInt8.toNat_inj.mp h
def tm {v:Bytes}:∀{w:Bytes},(∀c∈v,vw c.toNat=true)->(tx w=v.map UInt8.toNat↔w=v):=by
 induction v with
 |nil =>
  intro w _;cases w with
  |nil=>simp[tx]|cons=>simp[tx]
 |cons d v ih =>
  intro w h;cases w with
  |nil=>simp[tx]|cons c w =>have h1:=h d (by simp);have h2:=ih (w:=w) λc hc=>h c (by simp[hc]);rw[uI,Zb,List.cons.injEq,List.cons.injEq,wK h1,h2];exact and_congr_left' ⟨jV,λe=>e ▸ rfl⟩
def plainT (s:String):Bool:=s.toList.all λc=>vw c.toNat&&decide (c.toNat < 256)
def xh {s:String}(h:plainT s=true):(ascii s).map UInt8.toNat=cd s:=by unfold ascii cd;rw[Zk];refine ZN λc hc=>?_;have:=(Zn.mp h) c hc;rw[Y3] at this;have lt:c.toNat < 256:=Ze this.2;show (UInt8.ofNat c.toNat).toNat=c.toNat;rw[UInt8.toNat_ofNat'];exact Nat.mod_eq_of_lt lt
def bo {s:String}(w:Bytes)(h:plainT s=true):tx w=cd s↔w=ascii s:=by rw[<-xh h];refine tm λc hc=>?_;unfold ascii at hc;obtain⟨d,hd,rfl⟩:=Zr.mp hc;have:=(Zn.mp h) d hd;rw[Y3] at this;have lt:d.toNat < 256:=Ze this.2;rw[UInt8.toNat_ofNat',Nat.mod_eq_of_lt lt];exact this.1
def eW (w:W):Bool:=decide (1<=w.length)&&decide (w.length<=12)&&isLet (w.headD 0)&&w.all λc=>isLet c||b6 c
def kI (w:Bytes):eW (tx w)=isName w:=by
 unfold eW isName;rw[iR];have e1:((tx w).all λc=>isLet c||b6 c)=w.all λc=>isSmall c||isDigit c:=by unfold tx;rw[aaY];congr 1;funext c;show (isLet (sg c.toNat)||b6 (sg c.toNat))=_;rw[rH,qy];rfl
 rw[e1];cases w with
 |nil=>rfl
 |cons c r =>
  have e2:isLet ((tx (c::r)).headD 0)=(((c::r).head?.map isSmall).getD false):=by show isLet (sg c.toNat)=isSmall c;rw[rH];rfl
  rw[e2];unfold NAME;generalize decide (1<=(c::r).length)=a;generalize decide ((c::r).length<=12)=b;generalize ((c::r).head?.map isSmall).getD false=d;generalize ((c::r).all λc=>isSmall c||isDigit c)=f;cases a <;> cases b <;> cases d <;> cases f <;> rfl
def xN (w:W):Nat:=w.foldl (λn c=>10*n+(c - 48)) 0
def ay (w:W):Int :=
 if 7 < w.length\/w=[]\/w.all b6=false then -1 else if w.headD 0=48/\w≠[48] then -1 else (xN w:Int)
theorem zX:∀(w:Bytes) (n m:Nat),m<=n->m*10 ^ w.length<=w.foldl (λ(n:Nat) (c:UInt8)=>10*n+(c.toNat - 48)) n
 |[],n,m,h=>by simpa using h
 |c::w,n,m,h=>by
  have:=zX w (10*n+(c.toNat - 48)) (10*m) (by omega);rw[aan,Y7,aaV];have e:m*(10 ^ w.length*10)=10*m*10 ^ w.length:=by rw[aa6 (10 ^ w.length) 10,<-Nat.mul_assoc,aa6 m 10]
  omega
def nN (h:numberOf w=some n)(hl:7 < w.length):10000000<=n:=by
 unfold numberOf at h;split at h
 . cases h
 rename_i hc;have PK:¬(w.isEmpty=true)/\¬(w.all isDigit=false)/\¬(w.head?=some 48/\w≠[48]):=⟨λz=>hc (.inl z),λz=>hc (.inr (.inl z)),λz=>hc (.inr (.inr z))⟩;injection h with h;subst h
 match w,hl with
 |c::r,hl =>
  have hd:isDigit c=true:=by
   have:(c::r).all isDigit=true:=by simpa using PK.2.1
   rw[aa2,Y3] at this;exact this.1
  have c0:c≠48:=λe=>PK.2.2 ⟨by rw[e];rfl,λq=>by rw[q] at hl;simp at hl⟩;unfold isDigit at hd;rw[Y3,aao,aao] at hd;have h1:48<=c.toNat:=hd.1;have h2:c.toNat≠48:=λe=>c0 (jV e);have:=zX r (10*0+(c.toNat - 48)) 1 (by omega);rw[aan];have p:10 ^ 7<=10 ^ r.length:=aaT (by decide) (by simp at hl;omega);have p7:(10:Nat) ^ 7=10000000:=by decide
  omega
theorem zS:∀(w:Bytes) (n:Nat),w.all isDigit=true->(tx w).foldl (λn c=>10*n+(c - 48)) n=w.foldl (λ(n:Nat) (c:UInt8)=>10*n+(c.toNat - 48)) n
 |[],_,_=>rfl|c::w,n,h=>by rw[aa2,Y3] at h;have:sg c.toNat=c.toNat:=Bm h.1;rw[uI,aan,aan,this];exact zS w _ h.2
def yH (w:Bytes):(tx w).all b6=w.all isDigit:=by unfold tx;rw[aaY];congr 1;funext c;exact qy c.toNat
def BL (w:Bytes):ay (tx w)=if 7 < w.length then -1 else match numberOf w with
  |none=>-1|some n=>(n:Int):=by
 unfold ay numberOf;rw[iR,yH];by_cases h7:7 < w.length
 . rw[YY h7,YY (.inl h7)]
 rw[YX h7];by_cases c1:w=[]
 . subst c1;rfl
 have e1:¬tx w=[]:=λz=>c1 (by have:=Z0 List.length z;rw[iR] at this;exact aaI.mp this)
 have QT:¬w.isEmpty=true:=λz=>c1 (aau.mp z);by_cases c2:w.all isDigit=false
 . rw[YY (.inr (.inr c2)),YY (.inr (.inl c2))]
 rw[YX (λz=>z.elim h7 λz=>z.elim e1 c2)];have Pf:w.all isDigit=true:=by simpa using c2
 have k:((tx w).headD 0=48/\tx w≠[48])↔(w.head?=some 48/\w≠[48]):=by
  have a:tx w=[48]↔w=[48]:=tm (v:=[48]) (w:=w) (by decide)
  match w,c1 with
  |c::r,_ =>
   have b:(tx (c::r)).headD 0=48↔(c::r).head?=some 48:=by
    show sg c.toNat=48↔some c=some 48;rw[wK (by decide)];constructor
    . intro e;rw[jV (show c.toNat=(48:UInt8).toNat from e)]
    intro e;injection e with e;rw[e];rfl
   rw[b];exact and_congr_right λ_=>not_congr a
 by_cases c3:w.head?=some 48/\w≠[48]
 . rw[YY (k.mpr c3),YY (.inr (.inr c3))]
 rw[YX (λz=>c3 (k.mp z)),YX (λz=>z.elim QT λz=>z.elim c2 c3)];show ((xN (tx w):Nat):Int)=_;unfold xN;rw[zS w 0 Pf]
def fA {lo hi:Nat}(hh:hi < 10000000):((lo:Int)<=ay (tx w)/\ay (tx w)<=(hi:Int))↔∃n,numberOf w=some n/\lo<=n/\n<=hi/\ay (tx w)=(n:Int):=by
 rw[BL];by_cases h7:7 < w.length
 . rw[YY h7];constructor
   . rintro⟨a,_⟩;omega
   rintro⟨n,e,_,b,_⟩;have:=nN e h7;omega
 rw[YX h7];cases e:numberOf w with
 |none =>
  constructor
  . rintro⟨a,_⟩;have a':(lo:Int)<=-1:=a;omega
  rintro⟨n,e,_⟩;cases e
 |some n =>
  constructor
  . rintro⟨a,b⟩;have a':(lo:Int)<=n:=a;have b':(n:Int)<=hi:=b;exact⟨n,rfl,by omega,by omega,rfl⟩
  rintro⟨m,e,a,b,_⟩;injection e with e;subst e;show (lo:Int)<=n/\(n:Int)<=hi;omega
def eN (hm:m < 10000000):ay (tx w)=(m:Int)↔numberOf w=some m:=by
 constructor
 . intro e;obtain⟨n,h1,h2,h3,_⟩:=(fA (w:=w) (lo:=m) (hi:=m) hm).mp ⟨by omega,by omega⟩;have:n=m:=by omega
   subst this;exact h1
 intro e;obtain⟨a,b⟩:=(fA (w:=w) (lo:=m) (hi:=m) hm).mpr ⟨m,e,Y5 _,Y5 _,by
  rw[BL];by_cases h7:7 < w.length
  . have:=nN e h7;omega
  rw[YX h7,e]⟩
 omega
def a7 (c:Nat):W->W->List W
 |w,[]=>[w]|w,x::r=>if x=c then w::a7 c [] r else a7 c (w++[x]) r
theorem i7 {c:UInt8}(hc:vw c.toNat=true):∀(l w:Bytes),a7 c.toNat (tx w) (tx l)=(splitOn c w l).map tx
 |[],w=>rfl
 |x::r,w=>by
  rw[uI];unfold a7 splitOn;by_cases e:x=c
  . rw[YY ((wK hc).mpr (by rw[e])),YY e,Zb];have:=i7 hc r [];rw[BG] at this;rw[this]
  rw[YX (λz=>e (jV ((wK hc).mp z))),YX e];have:=i7 hc r (w++[x]);rw[t7] at this;exact this
def Placed:Nat->List Word->Prop
 |_,[]=>True|p,w::r=>w.at_=p/\Placed (p+w.w.length+1) r
theorem words_of:∀(l w:Bytes) (p q:Nat),w.length<=p->badByte w.isEmpty q l=none->(wordsFrom p w l).map (·.w)=splitOn 32 w l/\Placed (p - w.length) (wordsFrom p w l)
 |[],w,p,q,hl,h=>by
  unfold badByte at h;by_cases e:w.isEmpty=true
  . rw[YY e] at h;cases h
  unfold wordsFrom;rw[YX e];exact⟨rfl,rfl,trivial⟩
 |c::r,w,p,q,hl,h=>by
  unfold badByte at h;by_cases c1:c < 32\/126 < c
  . rw[YY c1] at h;cases h
  rw[YX c1] at h;unfold wordsFrom splitOn;by_cases c2:c=32
  . rw[YY c2] at h;by_cases e:w.isEmpty=true
    . rw[YY e] at h;cases h
    rw[YX e] at h;by_cases e2:r.isEmpty=true
    . rw[YY e2] at h;cases h
    rw[YX e2] at h;obtain⟨a,b⟩:=words_of r [] (p+1) (q+1) (Zo _) h;rw[YY c2,YY c2,Zb,a];refine⟨rfl,rfl,?_⟩;have:p - w.length+w.length+1=p+1 - ([]:Bytes).length:=by simp;omega
    show Placed (p - w.length+w.length+1) _;rw[this];exact b
  rw[YX c2] at h;have e:(w++[c]).isEmpty=false:=by simp
  rw[<-e] at h;obtain⟨a,b⟩:=words_of r (w++[c]) (p+1) (q+1) (by simp;omega) h;rw[YX c2,YX c2,a];refine⟨rfl,?_⟩;have:p - w.length=p+1 - (w++[c]).length:=by rw[Zg,Z7];omega
  rw[this];exact b
def Ca (w:Bytes):Prop:=w≠[]/\∀c∈w,32 < c/\c<=126
theorem yd:∀(l w:Bytes) (q:Nat),(∀v∈splitOn 32 w l,Ca v)->(∀c∈w,32 < c/\c<=126)->badByte w.isEmpty q l=none
 |[],w,q,h,_=>by have:=h w (by simp[splitOn]);unfold badByte;rw[YX (λz=>this.1 (aau.mp z))]
 |c::r,w,q,h,hw=>by
  unfold splitOn at h;unfold badByte;by_cases c2:c=32
  . rw[YY c2] at h;have pw:=h w (by simp);have e:¬w.isEmpty=true:=λz=>pw.1 (aau.mp z);rw[YX (by rw[c2];decide),YY c2,YX e];have hr:¬r.isEmpty=true:=λz=>by
     have:r=[]:=aau.mp z;subst this;have:=h [] (by simp[splitOn]);exact this.1 rfl
    rw[YX hr];exact yd r [] (q+1) (λv hv=>h v (by simp[hv])) (by simp)
  rw[YX c2] at h;have hc:32 < c/\c<=126:=by
   have first:∀(l w:Bytes),∃v∈splitOn 32 w l,∃t,v=w++t:=λl=>by
    induction l with
    |nil=>exact λw=>⟨w,by simp[splitOn],[],by simp⟩
    |cons d l ih =>
     intro w;unfold splitOn;by_cases e:d=32
     . rw[YY e];exact⟨w,by simp,[],by simp⟩
     rw[YX e];obtain⟨v,hv,t,rfl⟩:=ih (w++[d]);exact⟨_,hv,d::t,by simp⟩
   obtain⟨v,hv,t,e⟩:=first r (w++[c])
   exact (h v hv).2 c (by rw[e];simp)
  have n1:¬(c < 32\/126 < c):=by
   rintro (z|z)
   . exact absurd (Nat.lt_trans (show c.toNat < 32 from z) (show 32 < c.toNat from hc.1)) (aad _)
   exact absurd (Zz (show 126 < c.toNat from z) (show c.toNat<=126 from hc.2)) (aad _)
  rw[YX n1,YX c2];have e:(w++[c]).isEmpty=false:=by simp
  rw[<-e];exact yd r (w++[c]) (q+1) h λd hd=>by
   rcases ZJ.mp hd with z|z
   . exact hw d z
   have:d=c:=by simpa using z
   exact this ▸ hc
def aE {ε β:Type}{x:Except ε α}{f:α->Except ε β}{y:β}:(x >>= f)=.ok y↔∃a,x=.ok a/\f a=.ok y:=by
 cases x with
 |error e=>exact⟨λh=>(nomatch h),λ⟨_,h,_⟩=>(nomatch h)⟩
 |ok a=>exact⟨λh=>⟨a,rfl,h⟩,λ⟨_,h,k⟩=>by cases h;exact k⟩
def pf {x:Word×List Word}:next e l=.ok x↔l=x.1::x.2:=by
 cases l with
 |nil=>exact⟨λh=>(nomatch h),λh=>(nomatch h)⟩
 |cons w r =>
  constructor
  . intro h;injection h with h;rw[<-h]
  intro h;injection h with h1 h2;subst h1;subst h2;rfl
def de {s:String}{r:List Word}:must e s l=.ok r↔∃w,l=w::r/\w.w=ascii s:=by
 unfold must;rw[aE];constructor
 . rintro⟨x,h,k⟩;have h:=pf.mp h;split at k
   . rename_i c;injection k with k;exact⟨x.1,by rw[h,k],c⟩
   cases k
 rintro⟨w,rfl,c⟩;exact⟨(w,r),rfl,by rw[YY c];rfl⟩
def bx {lo hi:Nat}{x:(Nat×Nat)×List Word}:number e lo hi l=.ok x↔∃w,l=w::x.2/\numberOf w.w=some x.1.1/\lo<=x.1.1/\x.1.1<=hi/\x.1.2=w.at_:=by
 unfold number;rw[aE];constructor
 . rintro⟨y,h,k⟩;have h:=pf.mp h;cases c:numberOf y.1.w with
   |none=>rw[c] at k;cases k
   |some n =>
    rw[c] at k;dsimp only at k;split at k
    . cases k
    rename_i b;injection k with k;subst k;exact⟨y.1,h,c,by dsimp only;omega,by dsimp only;omega,rfl⟩
 rintro⟨w,rfl,c,h1,h2,h3⟩;refine⟨(w,x.2),rfl,?_⟩;dsimp only;rw[c];dsimp only;rw[YX (by omega)];show Except.ok ((x.1.1,w.at_),x.2)=Except.ok x;rw[<-h3]
def d8 {b:Bool}{k p:Nat}{u:Unit}:holds b k p=.ok u↔b=true:=by
 unfold holds;by_cases c:b=true
 . rw[YY c];exact⟨λ_=>c,λ_=>rfl⟩
 rw[YX c];exact⟨λh=>(nomatch h),λh=>absurd h c⟩
def la {u:Unit}:closed l=.ok u↔l=[]:=by
 cases l with
 |nil=>exact⟨λ_=>rfl,λ_=>rfl⟩|cons=>exact⟨λh=>(nomatch h),λh=>(nomatch h)⟩
def jo {had:List Bytes}{x:Bytes×List Word}:newName e had l=.ok x↔∃w,l=w::x.2/\isName w.w=true/\had.contains w.w=false/\x.1=w.w:=by
 unfold newName;rw[aE];constructor
 . rintro⟨y,h,k⟩;have h:=pf.mp h;split at k
   . cases k
   rename_i c1;split at k
   . cases k
   rename_i c2;injection k with k;subst k;exact⟨y.1,h,by simpa using c1,by simpa using c2,rfl⟩
 rintro⟨w,rfl,c1,c2,c3⟩;refine⟨(w,x.2),rfl,?_⟩;dsimp only;rw[YX (by rw[c1];decide),YX (by rw[c2];decide),<-c3];rfl
def nE {t:List (α×String)}{x:(α×Nat)×List Word}:
  oneOf e t l=.ok x↔∃w y,l=w::x.2/\(t.find? λ(y:α×String)=>ascii y.2==w.w)=some y/\x.1=(y.1,w.at_):=by
 unfold oneOf;rw[aE];constructor
 . rintro⟨y,h,k⟩;have h:=pf.mp h;cases c:(t.find? λ(z:α×String)=>ascii z.2==y.1.w) with
   |none=>rw[c] at k;cases k|some z =>rw[c] at k;injection k with k;subst k;exact⟨y.1,z,h,c,rfl⟩
 rintro⟨w,y,rfl,c,h3⟩;refine⟨(w,x.2),rfl,?_⟩;dsimp only;rw[c];show Except.ok ((y.1,w.at_),x.2)=Except.ok x;rw[<-h3]
def dw (runners:Nat):List W->abA->abA->Option (abA)
 |[],_,ss=>some ss
 |c::a::b::r,fs,ss =>
  if c=cd "couple"/\1<=ay a/\ay a < ay b/\ay b<=(runners:Int)/\¬(ay a).toNat∈ss/\¬(ay b).toNat∈fs/\¬(ay b).toNat∈ss
  then dw runners r (fs++[(ay a).toNat]) (ss++[(ay b).toNat]) else none
 |_,_,_=>none
def dM (runners:Nat)(ss:abA):abA:=((List.range runners).map λi=>i+1).filter λn=>!ss.contains n
def bF (ws:List W):Option (abA) :=
 match ws with
 |_::n::r=>if r.length % 3=0/\r.length<=24/\2<=ay n/\ay n<=24 then (dw (ay n).toNat r [] []).map (dM (ay n).toNat) else none|_=>none
structure Cy (had:List (Nat×Nat))(fs ss:abA):Prop where
 f:∀x,(∃y,(x,y)∈had)↔x∈fs
 s:∀y,(∃x,(x,y)∈had)↔y∈ss
 lt:∀x y,(x,y)∈had->x < y
theorem fT {c x:Nat×Nat}:∀{l:List (Nat×Nat)},x∈putB c l↔x=c\/x∈l
 |[]=>by simp[putB]
 |y::l=>by
  unfold putB;by_cases h:c.2 < y.2
  . rw[YY h];simp
  rw[YX h,Y0,fT (l:=l),Y0];constructor
  . rintro (h|h|h) <;> simp[h]
  rintro (h|h|h) <;> simp[h]
def Cy.put {fs ss:abA}(h:Cy had fs ss){a b:Nat}(lt:a < b):Cy (putB (a,b) had) (fs++[a]) (ss++[b]) where
 f:=λx=>by
  rw[ZJ,<-h.f x];constructor
  . rintro⟨y,hy⟩;rcases fT.mp hy with e|e
    . injection e with e1 e2;subst e1;exact .inr (by simp)
    exact .inl ⟨y,e⟩
  rintro (⟨y,hy⟩|e)
  . exact⟨y,fT.mpr (.inr hy)⟩
  have:x=a:=by simpa using e
  subst this;exact⟨b,fT.mpr (.inl rfl)⟩
 s:=λy=>by
  rw[ZJ,<-h.s y];constructor
  . rintro⟨x,hx⟩;rcases fT.mp hx with e|e
    . injection e with e1 e2;subst e2;exact .inr (by simp)
    exact .inl ⟨x,e⟩
  rintro (⟨x,hx⟩|e)
  . exact⟨x,fT.mpr (.inr hx)⟩
  have:y=b:=by simpa using e
  subst this;exact⟨a,fT.mpr (.inl rfl)⟩
 lt:=λx y Vx=>by
  rcases fT.mp Vx with e|e
  . injection e with e1 e2;subst e1;subst e2;exact lt
  exact h.lt x y e
def Cy.KS {fs ss:abA}(h:Cy had fs ss)(a:Nat):(had.any λx=>x.2==a)=true↔a∈ss:=by
 rw[aav,<-h.s a];constructor
 . rintro⟨⟨x,y⟩,hx,e⟩;have:y=a:=by simpa using e
   subst this;exact⟨x,hx⟩
 rintro⟨x,hx⟩;exact⟨(x,a),hx,by simp⟩
def Cy.Kk {fs ss:abA}(h:Cy had fs ss)(b:Nat):(had.any λx=>x.1==b||x.2==b)=true↔b∈fs\/b∈ss:=by
 rw[aav,<-h.s b,<-h.f b];constructor
 . rintro⟨⟨x,y⟩,hx,e⟩;have:x=b\/y=b:=by simpa using e
   rcases this with rfl|rfl
   . exact .inl ⟨y,hx⟩
   exact .inr ⟨x,hx⟩
 rintro (⟨y,hx⟩|⟨x,hx⟩)
 . exact⟨(b,y),hx,by simp⟩
 exact⟨(x,b),hx,by simp⟩
def oz (l:List Word):List W:=l.map λw=>tx w.w
def oW {runners k:Nat}{MS:List (Nat×Nat)}:l≠[]->(couplesIn e runners (k+1) had l=.ok MS ↔
  ∃c a b r na nb,l=c::a::b::r/\c.w=ascii "couple"/\numberOf a.w=some na/\1<=na/\na<=runners/\(had.any λx=>x.2==na)=false /\
   numberOf b.w=some nb/\1<=nb/\nb<=runners/\na < nb/\(had.any λx=>x.1==nb||x.2==nb)=false/\couplesIn e runners k (putB (na,nb) had) r=.ok MS):=by
 intro hl;have he:¬l.isEmpty=true:=λz=>hl (aau.mp z);have step:couplesIn e runners (k+1) had l=(do
  let m <-must e "couple" l
  let a <-number e 1 runners m
  let _ <-holds (!(had.any λ(x:Nat×Nat)=>x.2==a.1.1)) 4 a.1.2
  let b <-number e 1 runners a.2
  let _ <-holds (decide (a.1.1 < b.1.1)&&!(had.any λ(x:Nat×Nat)=>x.1==b.1.1||x.2==b.1.1)) 4 b.1.2
  couplesIn e runners k (putB (a.1.1,b.1.1) had) b.2):=YX he
 rw[step,aE];constructor
 . rintro⟨m,hm,h0⟩;obtain⟨c,Vy,hc⟩:=de.mp hm;obtain⟨a,ha,h1⟩:=aE.mp h0;obtain⟨wa,Nb,a1,a2,a3,a4⟩:=bx.mp ha;obtain⟨_,g1,h2⟩:=aE.mp h1;have g1:=d8.mp g1;obtain⟨b,hb,h3⟩:=aE.mp h2;obtain⟨wb,PL,b1,b2,b3,b4⟩:=bx.mp hb;obtain⟨_,g2,h4⟩:=aE.mp h3;have g2:=d8.mp g2;rw[Y3,aao] at g2;exact⟨c,wa,wb,b.2,a.1.1,b.1.1,by rw[Vy,Nb,PL],hc,a1,a2,a3,by simpa using g1,b1,b2,b3,g2.1,by simpa using g2.2,h4⟩
 rintro⟨c,a,b,r,na,nb,rfl,hc,a1,a2,a3,a4,b1,b2,b3,b4,b5,h⟩;refine⟨_,de.mpr ⟨c,rfl,hc⟩,?_⟩;refine aE.mpr ⟨((na,a.at_),b::r),bx.mpr ⟨a,rfl,a1,a2,a3,rfl⟩,?_⟩;refine aE.mpr ⟨(),d8.mpr (by rw[a4];rfl),?_⟩;refine aE.mpr ⟨((nb,b.at_),r),bx.mpr ⟨b,rfl,b1,b2,b3,rfl⟩,?_⟩;exact aE.mpr ⟨(),d8.mpr (by rw[b5,Zy b4];rfl),h⟩
theorem fZ {e runners:Nat}(hr:runners<=24):∀(k:Nat) (had:List (Nat×Nat)) (fs ss:abA) (l:List Word),Cy had fs ss ->
  (∀MS,couplesIn e runners k had l=.ok MS->l.length<=3*k/\∃Nc Nd,dw runners (oz l) fs ss=some Nd/\Cy MS Nc Nd) /\
  (∀Nd,l.length<=3*k->dw runners (oz l) fs ss=some Nd->∃MS,couplesIn e runners k had l=.ok MS)
 |0,had,fs,ss,l,hd=>by
  cases l with
  |nil=>exact⟨λMS h=>by injection h with h;subst h;exact⟨Y5 _,fs,ss,rfl,hd⟩,λ_ _ _=>⟨had,rfl⟩⟩
  |cons w r =>
   constructor
   . intro MS h;have h:(if w.w=ascii "couple" then Except.error ⟨6,w.at_⟩ else Except.error ⟨3,w.at_⟩:Except Fault (List (Nat×Nat)))=.ok MS:=h;by_cases c:w.w=ascii "couple"
     . rw[YY c] at h;cases h
     rw[YX c] at h;cases h
   intro _ h;simp at h
 |k+1,had,fs,ss,[],hd=>⟨λMS h=>by have h:Except.ok had=Except.ok MS:=h;injection h with h;subst h;exact⟨Zo _,fs,ss,rfl,hd⟩,λ_ _ _=>⟨had,rfl⟩⟩
 |k+1,had,fs,ss,w::l,hd=>by
  constructor
  . intro MS h;obtain⟨c,a,b,r,na,nb,el,hc,a1,a2,a3,a4,b1,b2,b3,b4,b5,h⟩:=(oW (by simp)).mp h;have hd2:=hd.put b4;obtain⟨hl,Nc,Nd,h1,h2⟩:=(fZ hr k _ _ _ r hd2).1 MS h;rw[el];refine⟨by simp only[Y7];omega,Nc,Nd,?_,h2⟩;show dw runners (tx c.w::tx a.w::tx b.w::oz r) fs ss=_;have ea:ay (tx a.w)=(na:Int):=(eN (by omega)).mpr a1;have eb:ay (tx b.w)=(nb:Int):=(eN (by omega)).mpr b1;unfold dw;rw[ea,eb,ZF,ZF];have n1:¬na∈ss:=λz=>by rw[(hd.KS na).mpr z] at a4;cases a4
    have n2:¬(nb∈fs\/nb∈ss):=λz=>by rw[(hd.Kk nb).mpr z] at b5;cases b5
    rw[YY ⟨(bo _ (by decide)).mpr hc,by omega,by omega,by omega,n1,λz=>n2 (.inl z),λz=>n2 (.inr z)⟩];exact h1
  intro Nd hl h
  match l,hl,h with
  |[],_,h=>cases h|[_],_,h=>cases h
  |a::b::r,hl,h =>
   have h:dw runners (tx w.w::tx a.w::tx b.w::oz r) fs ss=some Nd:=h;unfold dw at h;split at h
   . rename_i q;obtain⟨q1,q2,q3,q4,q5,q6,q7⟩:=q;obtain⟨na,a1,a2,a3,a4⟩:=(fA (w:=a.w) (lo:=1) (hi:=24) (by decide)).mp ⟨q2,by omega⟩;obtain⟨nb,b1,b2,b3,b4⟩:=(fA (w:=b.w) (lo:=1) (hi:=24) (by decide)).mp ⟨by omega,by omega⟩;rw[a4,b4,ZF,ZF] at h;rw[a4,ZF] at q5;rw[b4,ZF] at q6 q7;have lt:na < nb:=by omega
     obtain⟨MS,h'⟩:=(fZ hr k _ _ _ r (hd.put lt)).2 Nd (by simp only[Y7] at hl;omega) h;refine⟨MS,(oW (by simp)).mpr ⟨w,a,b,r,na,nb,rfl,(bo _ (by decide)).mp q1,a1,a2,by omega,?_,b1,b2,by omega,lt,?_,h'⟩⟩
     . cases c:(had.any λx=>x.2==na) with
       |false=>rfl|true=>exact absurd ((hd.KS na).mp c) q5
     cases c:(had.any λx=>x.1==nb||x.2==nb) with
     |false=>rfl|true=>exact absurd ((hd.Kk nb).mp c) λz=>z.elim q6 q7
   cases h
theorem xk:∀{runners:Nat} (l:List W) (fs ss Nd:abA),dw runners l fs ss=some Nd->l.length % 3=0
 |_,[],_,_,_,_=>rfl|_,[_],_,_,_,h=>by cases h|_,[_,_],_,_,_,h=>by cases h
 |runners,c::a::b::r,fs,ss,Nd,h=>by
  unfold dw at h;split at h
  . have:=xk r _ _ _ h;simp only[Y7];omega
  cases h
def vJ {fs ss:abA}(hd:Cy had fs ss):Race.heads ⟨n,had⟩=dM n ss:=by
 unfold Race.heads dM;refine List.filter_congr λx _=>?_;unfold Race.head;cases c:had.find? (λc=>c.2==x) with
 |none =>
  have:¬x∈ss:=λz=>by obtain⟨y,hy⟩:=(hd.s x).mpr z;have:=List.find?_eq_none.mp c (y,x) hy;simp at this
  simp[this]
 |some z =>
  obtain⟨a,b⟩:=z;have h1:=List.mem_of_find?_eq_some c;have h2:=List.find?_some c;have h2:b=x:=by simpa using h2
  subst h2;have:=hd.lt a b h1;have hb:b∈ss:=(hd.s b).mp ⟨a,h1⟩;have e1:(a==b)=false:=by rw[Zq];omega
  simp[hb,e1]
def vU {w:Word}:(∀r,raceIn e l=.ok r->bF (oz (w::l))=some r.heads)/\(∀hs,bF (oz (w::l))=some hs->∃r,raceIn e l=.ok r/\r.heads=hs):=by
 have nil:Cy [] [] []:=⟨by simp,by simp,by simp⟩;constructor
 . intro r h;unfold raceIn at h;obtain⟨n,hn,h0⟩:=aE.mp h;obtain⟨wn,Vz,a1,a2,a3,a4⟩:=bx.mp hn;obtain⟨c,hc,h1⟩:=aE.mp h0;injection h1 with h1;subst h1;rw[Vz];have a3:n.1.1<=24:=a3;obtain⟨hl,Nc,Nd,h1,h2⟩:=(fZ a3 8 [] [] [] n.2 nil).1 c hc;have en:ay (tx wn.w)=(n.1.1:Int):=(eN (by omega)).mpr a1;show bF (tx w.w::tx wn.w::oz n.2)=_;unfold bF;dsimp only;rw[en,ZF,h1];have:=xk _ _ _ _ h1;have len:(oz n.2).length=n.2.length:=YW ..;rw[YY ⟨this,by omega,by omega,by omega⟩,vJ h2];rfl
 intro hs h
 match l,h with
 |wn::l,h =>
  have h:bF (tx w.w::tx wn.w::oz l)=some hs:=h;unfold bF at h;dsimp only at h;split at h
  . rename_i q;obtain⟨q1,q2,q3,q4⟩:=q;obtain⟨n,a1,a2,a3,a4⟩:=(fA (w:=wn.w) (lo:=2) (hi:=24) (by decide)).mp ⟨q3,q4⟩;rw[a4,ZF] at h;cases c:dw n (oz l) [] [] with
    |none=>rw[c] at h;cases h|some ss =>rw[c] at h;injection h with h;have len:(oz l).length=l.length:=YW ..;obtain⟨had,hh⟩:=(fZ (e:=e) (runners:=n) a3 8 [] [] [] l nil).2 ss (by omega) c;obtain⟨_,Nc,Nd,h1,h2⟩:=(fZ (e:=e) (runners:=n) a3 8 [] [] [] l nil).1 had hh;rw[c] at h1;injection h1 with h1;subst h1;refine⟨⟨n,had⟩,?_,by rw[vJ h2];exact h⟩;unfold raceIn;refine aE.mpr ⟨((n,wn.at_),l),bx.mpr ⟨wn,rfl,a1,a2,a3,rfl⟩,?_⟩;exact aE.mpr ⟨had,hh,rfl⟩
  cases h
def pS (hn:n<=24)(ss:abA):cK (dM n ss) where
 rise:=by refine List.Pairwise.filter _ (List.Pairwise.map _ (λa b (h:a < b)=>?_) List.pairwise_lt_range);show a+1 < b+1;omega
 lo:=λx hx=>by obtain⟨h,_⟩:=Z3.mp hx;obtain⟨i,_,rfl⟩:=Zr.mp h;omega
 hi:=λx hx=>by obtain⟨h,_⟩:=Z3.mp hx;obtain⟨i,hi,rfl⟩:=Zr.mp h;have:=aaG.mp hi;omega
def A5 {ws:List W}{hs:abA}(h:bF ws=some hs):cK hs:=by
 unfold bF at h;split at h
 . rename_i w0 n r;split at h
   . rename_i q;cases c:dw (ay n).toNat r [] [] with
     |none=>rw[c] at h;cases h|some ss =>rw[c] at h;injection h with h;subst h;exact pS (by omega) _
   cases h
 cases h
structure aK where
 name:W
 kind:Kind
 fields:abz
 unit:Nat
def kindS:Kind->String
 |.place=>"place"|.order=>"order"|.any=>"any"|.legs=>"legs"
def dR (w:W):Option Kind :=
 if w=cd "place" then some .place else if w=cd "order" then some .order else if w=cd "any" then some .any else if w=cd "legs" then some .legs else none
def fR (kind:Kind)(k rc:Nat)(races:abz):abz :=
 match kind with
 |.legs=>(races.drop (rc - 1)).take k|.place=>[races.getD (rc - 1) []]|_=>List.replicate k (races.getD (rc - 1) [])
def dH (races:abz)(kind:Kind)(p nm k fr rc tk t br b le m un u no z:W):Prop :=
 p=cd "pool"/\fr=cd "from"/\tk=cd "take"/\br=cd "break"/\le=cd "least"/\un=cd "unit"/\no=cd "none"/\eW nm=true /\
 (0<=ay t/\ay t<=400)/\(1<=ay b/\ay b<=1000)/\(1<=ay u/\ay u<=10000)/\(ay m=0\/(ay u<=ay m/\ay m<=2*ay u)) /\
 ((z=cd "fewer"/\kind≠.place)\/z=cd "refund"\/z=cd "carry")/\((leastK kind:Int)<=ay k/\ay k<=(mostK kind:Int))/\(1<=ay rc/\ay rc<=(races.length:Int)) /\
 ((kind=.legs/\ay rc+ay k - 1<=(races.length:Int))\/(kind≠.legs/\ay k<=((races.getD (ay rc - 1).toNat []).length:Int)))
instance (races:abz)(kind:Kind)(p nm k fr rc tk t br b le m un u no z:W):Decidable (dH races kind p nm k fr rc tk t br b le m un u no z):=by unfold dH;infer_instance
def fm (ws:List W)(races:abz):Option aK :=
 match ws with
 |[p,nm,kd,k,fr,rc,tk,t,br,b,le,m,un,u,no,z] =>
  match dR kd with
  |none=>none|some kind=>if dH races kind p nm k fr rc tk t br b le m un u no z then some ⟨nm,kind,fR kind (ay k).toNat (ay rc).toNat races,(ay u).toNat⟩ else none
 |_=>none
def fieldsOf (C:Card)(p:Pool):abz:=if p.kind=.legs then C.sets p else List.replicate p.places (C.headsOf p.race)
def az (C:Card)(p:Pool):aK:=⟨tx p.name,p.kind,fieldsOf C p,p.unit⟩
def rh (C:Card):abz:=C.races.map Race.heads
structure cS (C:Card)(p:Pool):Prop where
 name:isName p.name=true
 J2:leastK p.kind<=p.k
 GX:p.k<=mostK p.kind
 Bl:1<=p.race
 IY:p.race<=C.races.length
 legs:p.kind=.legs->p.race+p.k<=C.races.length+1
 xr:p.kind≠.legs->p.k<=(C.headsOf p.race).length
 unit:1<=p.unit
 Mt:p.unit<=10000
def qT {y:Kind×String}:(KINDS.find? λ(x:Kind×String)=>ascii x.2==w)=some y↔dR (tx w)=some y.1/\y.2=kindS y.1:=by
 have a1:=bo (s:="place") w (by decide);have a2:=bo (s:="order") w (by decide);have a3:=bo (s:="any") w (by decide);have a4:=bo (s:="legs") w (by decide);unfold dR KINDS;obtain⟨yk,ys⟩:=y;simp only[aaw,List.find?_nil];by_cases c1:w=ascii "place"
 . have:(ascii "place"==w)=true:=by rw[c1];simp
   rw[this,YY (a1.mpr c1)];constructor
   . intro h;injection h with h;injection h with h1 h2;subst h1;subst h2;exact⟨rfl,rfl⟩
   rintro⟨h1,h2⟩;injection h1 with h1;have h1:Kind.place=yk:=h1;subst h1;have h2:ys="place":=h2;subst h2;rfl
 have e1:(ascii "place"==w)=false:=by rw[Zq];exact λz=>c1 z.symm
 rw[e1,YX (λz=>c1 (a1.mp z))];by_cases c2:w=ascii "order"
 . have:(ascii "order"==w)=true:=by rw[c2];simp
   rw[this,YY (a2.mpr c2)];constructor
   . intro h;injection h with h;injection h with h1 h2;subst h1;subst h2;exact⟨rfl,rfl⟩
   rintro⟨h1,h2⟩;injection h1 with h1;have h1:Kind.order=yk:=h1;subst h1;have h2:ys="order":=h2;subst h2;rfl
 have e2:(ascii "order"==w)=false:=by rw[Zq];exact λz=>c2 z.symm
 rw[e2,YX (λz=>c2 (a2.mp z))];by_cases c3:w=ascii "any"
 . have:(ascii "any"==w)=true:=by rw[c3];simp
   rw[this,YY (a3.mpr c3)];constructor
   . intro h;injection h with h;injection h with h1 h2;subst h1;subst h2;exact⟨rfl,rfl⟩
   rintro⟨h1,h2⟩;injection h1 with h1;have h1:Kind.any=yk:=h1;subst h1;have h2:ys="any":=h2;subst h2;rfl
 have e3:(ascii "any"==w)=false:=by rw[Zq];exact λz=>c3 z.symm
 rw[e3,YX (λz=>c3 (a3.mp z))];by_cases c4:w=ascii "legs"
 . have:(ascii "legs"==w)=true:=by rw[c4];simp
   rw[this,YY (a4.mpr c4)];constructor
   . intro h;injection h with h;injection h with h1 h2;subst h1;subst h2;exact⟨rfl,rfl⟩
   rintro⟨h1,h2⟩;injection h1 with h1;have h1:Kind.legs=yk:=h1;subst h1;have h2:ys="legs":=h2;subst h2;rfl
 have e4:(ascii "legs"==w)=false:=by rw[Zq];exact λz=>c4 z.symm
 rw[e4,YX (λz=>c4 (a4.mp z))];exact⟨λh=>(nomatch h),λh=>(nomatch h.1)⟩
def qb {kind:Kind}:(∃y,((if kind=.place then NONES.take 2 else NONES).find? λ(x:None_×String)=>ascii x.2==w)=some y) ↔
  ((tx w=cd "fewer"/\kind≠.place)\/tx w=cd "refund"\/tx w=cd "carry"):=by
 have a1:=bo (s:="fewer") w (by decide);have a2:=bo (s:="refund") w (by decide);have a3:=bo (s:="carry") w (by decide);rw[a1,a2,a3,<-aa1,List.find?_isSome];constructor
 . rintro⟨x,hx,e⟩;have e:ascii x.2=w:=by simpa using e
   by_cases c:kind=.place
   . rw[YY c] at hx;have hx:x=(.refund,"refund")\/x=(.carry,"carry"):=by simpa [NONES] using hx
     rcases hx with rfl|rfl
     . exact .inr (.inl e.symm)
     exact .inr (.inr e.symm)
   rw[YX c] at hx;have hx:x=(.refund,"refund")\/x=(.carry,"carry")\/x=(.fewer,"fewer"):=by simpa [NONES] using hx
   rcases hx with rfl|rfl|rfl
   . exact .inr (.inl e.symm)
   . exact .inr (.inr e.symm)
   exact .inl ⟨e.symm,c⟩
 rintro (⟨e,c⟩|e|e)
 . exact⟨(.fewer,"fewer"),by rw[YX c];simp[NONES],by simp[e]⟩
 . refine⟨(.refund,"refund"),?_,by simp[e]⟩;split <;> simp[NONES]
 refine⟨(.carry,"carry"),?_,by simp[e]⟩;split <;> simp[NONES]
def kl (C:Card)(r:Nat)(_:1<=r):C.headsOf r=(rh C).getD (r - 1) []:=by unfold Card.headsOf rh;rw[ZD,Y1]
def tG (C:Card)(p:Pool)(hk:p.kind=.legs)(h1:1<=p.race)(h2:p.race+p.k<=C.races.length+1):C.sets p=((rh C).drop (p.race - 1)).take p.k:=by
 unfold Card.sets Pool.legs;rw[YY hk];have len:(rh C).length=C.races.length:=YW ..
 apply aba
 intro i;rw[Y1,List.getElem?_take,List.getElem?_drop];by_cases c:i < p.k
 . rw[aaC c,YY c];show some (C.headsOf (p.race+i))=_;rw[kl C _ (by omega),ZD];have e:p.race+i - 1=p.race - 1+i:=by omega
   rw[e];have lt:p.race - 1+i < (rh C).length:=by omega
   rw[Y6 lt];rfl
 rw[YX c,ZX (by simp;omega)];rfl
def A1 (h:cS C p):fieldsOf C p=fR p.kind p.k p.race (rh C):=by
 unfold fieldsOf fR;cases hk:p.kind with
 |legs=>rw[YY rfl];exact tG C p hk h.Bl (h.legs hk)|place =>rw[YX (by decide)];unfold Pool.places;rw[YY hk,kl C _ h.Bl];rfl|order =>rw[YX (by decide)];unfold Pool.places;rw[YX (by rw[hk];decide),kl C _ h.Bl]|any =>rw[YX (by decide)];unfold Pool.places;rw[YX (by rw[hk];decide),kl C _ h.Bl]
def CJ {w:Word}(hC:C.races.length<=16)(hw:w.w=ascii "pool")(h:poolIn e C l=.ok p) :
  cS C p/\(C.pools.map λ(p:Pool)=>p.name).contains p.name=false/\fm (oz (w::l)) (rh C)=some (az C p):=by
 unfold poolIn at h;obtain⟨n,x1,h1⟩:=aE.mp h;obtain⟨wn,e1,Uj,VA,RM⟩:=jo.mp x1;obtain⟨kd,x2,h2⟩:=aE.mp h1;obtain⟨wk,yk,e2,kf,kx⟩:=nE.mp x2;obtain⟨k,x3,h3⟩:=aE.mp h2;obtain⟨Pg,e3,k1,k2,k3,k4⟩:=bx.mp x3;obtain⟨l4,x4,h4⟩:=aE.mp h3;obtain⟨RN,e4,f1⟩:=de.mp x4;obtain⟨r,x5,h5⟩:=aE.mp h4;obtain⟨wr,e5,r1,r2,r3,r4⟩:=bx.mp x5;obtain⟨_,x6,h6⟩:=aE.mp h5;have y6:=d8.mp x6;obtain⟨_,x7,h7⟩:=aE.mp h6;have y7:=d8.mp x7;obtain⟨l8,x8,h8⟩:=aE.mp h7;obtain⟨RO,e8,f8⟩:=de.mp x8;obtain⟨t,x9,h9⟩:=aE.mp h8;obtain⟨wt,e9,t1,t2,t3,t4⟩:=bx.mp x9;obtain⟨VB,VC,RP⟩:=aE.mp h9;obtain⟨RQ,VD,VE⟩:=de.mp VC;obtain⟨b,VF,RR⟩:=aE.mp RP;obtain⟨wb,VG,b1,b2,b3,b4⟩:=bx.mp VF;obtain⟨VH,VI,VJ⟩:=aE.mp RR;obtain⟨RT,NZ,VL⟩:=de.mp VI;obtain⟨m,VM,VN⟩:=aE.mp VJ;obtain⟨wm,PM,m1,m2,m3,m4⟩:=bx.mp VM;obtain⟨VO,VP,VQ⟩:=aE.mp VN;obtain⟨RU,VR,VS⟩:=de.mp VP;obtain⟨u,VT,VU⟩:=aE.mp VQ;obtain⟨wu,VV,u1,u2,u3,u4⟩:=bx.mp VT;obtain⟨_,VW,Ov⟩:=aE.mp VU;have Uk:=d8.mp VW;obtain⟨l17,VX,VY⟩:=aE.mp Ov;obtain⟨RV,VZ,V0⟩:=de.mp VX;obtain⟨z,V1,V2⟩:=aE.mp VY;obtain⟨wz,yz,V3,z1,z2⟩:=nE.mp V1;obtain⟨_,V4,PN⟩:=aE.mp V2;have V5:=la.mp V4;injection PN with PN;have kk:kd.1.1=yk.1:=by rw[kx]
 obtain⟨km,_⟩:=qT.mp kf;rw[<-kk] at km;have V6:mostK kd.1.1<=6:=by cases kd.1.1 <;> decide
 have ek:ay (tx Pg.w)=(k.1.1:Int):=(eN (by omega)).mpr k1;have er:ay (tx wr.w)=(r.1.1:Int):=(eN (by omega)).mpr r1;have et:ay (tx wt.w)=(t.1.1:Int):=(eN (by omega)).mpr t1;have eb:ay (tx wb.w)=(b.1.1:Int):=(eN (by omega)).mpr b1;have em:ay (tx wm.w)=(m.1.1:Int):=(eN (by omega)).mpr m1;have eu:ay (tx wu.w)=(u.1.1:Int):=(eN (by omega)).mpr u1;have Nl:(rh C).length=C.races.length:=YW ..;have d6:kd.1.1=.legs->r.1.1+k.1.1<=C.races.length+1:=λq=>by rw[q] at y6;simpa using y6
 have d7:kd.1.1≠.legs->k.1.1<=(C.headsOf r.1.1).length:=λq=>by
  have q':(kd.1.1==Kind.legs)=false:=by rw[Zq];exact q
  rw[q',Bool.false_or] at y7;unfold Card.headsOf;cases c:C.races[r.1.1 - 1]? with
  |none=>rw[c] at y7;cases y7|some x =>rw[c] at y7;simpa using y7
 have ok:cS C p:=by subst PN;exact⟨by rw[RM];exact Uj,k2,k3,r2,r3,d6,d7,u2,u3⟩
 refine⟨ok,by subst PN;show List.contains _ n.1=false;rw[RM];exact VA,?_⟩;have hl:oz (w::l)=[tx w.w,tx wn.w,tx wk.w,tx Pg.w,tx RN.w,tx wr.w,tx RO.w,tx wt.w,tx RQ.w,tx wb.w,tx RT.w,tx wm.w,tx RU.w,tx wu.w,tx RV.w,tx wz.w]:=by rw[e1,e2,e3,e4,e5,e8,e9,VD,VG,NZ,PM,VR,VV,VZ,V3,V5];rfl
 have hf:=A1 ok;rw[hl];show (match dR (tx wk.w) with
  |none=>none|some kind=>_)=_
 rw[km];dsimp only;rw[YY ?_,ek,er,eu,ZF,ZF,ZF]
 . unfold az;rw[hf];subst PN;dsimp only;rw[RM]
 refine⟨(bo _ (by decide)).mpr hw,(bo _ (by decide)).mpr f1,(bo _ (by decide)).mpr f8,(bo _ (by decide)).mpr VE,(bo _ (by decide)).mpr VL,(bo _ (by decide)).mpr VS,(bo _ (by decide)).mpr V0,
  by rw[kI];exact Uj,by rw[et];omega,by rw[eb];omega,by rw[eu];omega,?_,?_,by rw[ek];omega,by rw[er,Nl];omega,?_⟩
 . rw[em,eu];rw[ZU] at Uk;rcases Uk with q|q
   . left;have:m.1.1=0:=by simpa using q
     omega
   right;unfold inside at q;rw[Y3,aao,aao] at q;omega
 . exact qb.mp ⟨yz,z1⟩
 rw[er,ek,Nl];by_cases q:kd.1.1=.legs
 . left;exact⟨q,by have:=d6 q;omega⟩
 right;refine⟨q,?_⟩;have:=d7 q;rw[kl C _ r2] at this;have e:((r.1.1:Int) - 1).toNat=r.1.1 - 1:=by omega
 rw[e];omega
def bZ {a:W}{r:List W}(h:oz l=a::r):∃w m,l=w::m/\a=tx w.w/\oz m=r:=by
 cases l with
 |nil=>cases h|cons w m=>exact⟨w,m,rfl,(List.cons.inj h).1.symm,(List.cons.inj h).2⟩
def Ez (h:oz l=[]):l=[]:=by
 cases l with
 |nil=>rfl|cons w m=>cases h
def Cm {w:Word}{q:aK}(hC:C.races.length<=16)(h:fm (oz (w::l)) (rh C)=some q)(hn:(C.pools.map λ(p:Pool)=>tx p.name).contains q.name=false)
  (ok:∀p∈C.pools,isName p.name=true) :
  ∃p,poolIn e C l=.ok p:=by
 unfold fm at h;split at h
 . rename_i p nm kd k fr rc tk t br b le m un u no z hl;have hl:tx w.w::oz l=_:=hl;injection hl with hw0 hl;obtain⟨wn,l1,rfl,rfl,g1⟩:=bZ hl;obtain⟨wk,l2,rfl,rfl,g2⟩:=bZ g1;obtain⟨Pg,l3,rfl,rfl,g3⟩:=bZ g2;obtain⟨RN,l4,rfl,rfl,g4⟩:=bZ g3;obtain⟨wr,l5,rfl,rfl,g5⟩:=bZ g4;obtain⟨RO,l6,rfl,rfl,g6⟩:=bZ g5;obtain⟨wt,l7,rfl,rfl,g7⟩:=bZ g6;obtain⟨RQ,l8,rfl,rfl,g8⟩:=bZ g7;obtain⟨wb,l9,rfl,rfl,g9⟩:=bZ g8;obtain⟨RT,VB,rfl,rfl,V7⟩:=bZ g9;obtain⟨wm,l11,rfl,rfl,V8⟩:=bZ V7;obtain⟨RU,VH,rfl,rfl,V9⟩:=bZ V8;obtain⟨wu,l13,rfl,rfl,V_⟩:=bZ V9;obtain⟨RV,VO,rfl,rfl,Wa⟩:=bZ V_;obtain⟨wz,Wb,rfl,rfl,Wc⟩:=bZ Wa;have Wd:Wb=[]:=Ez Wc;subst Wd;cases km:dR (tx wk.w) with
   |none=>rw[km] at h;cases h
   |some kind =>
    rw[km] at h;dsimp only at h;split at h
    . rename_i cs;injection h with h;obtain⟨c1,c2,c3,c4,c5,c6,c7,c8,c9,QU,QV,OS,Ph,Ow,OT,NM⟩:=cs;have V6:mostK kind<=6:=by cases kind <;> decide
      have Nl:(rh C).length=C.races.length:=YW ..;obtain⟨nt,t1,t2,t3,t4⟩:=(fA (w:=wt.w) (lo:=0) (hi:=400) (by decide)).mp c9;obtain⟨nb,b1,b2,b3,b4⟩:=(fA (w:=wb.w) (lo:=1) (hi:=1000) (by decide)).mp QU;obtain⟨nu,u1,u2,u3,u4⟩:=(fA (w:=wu.w) (lo:=1) (hi:=10000) (by decide)).mp QV;obtain⟨nk,k1,k2,k3,k4⟩:=(fA (w:=Pg.w) (lo:=leastK kind) (hi:=mostK kind) (by omega)).mp Ow;obtain⟨nr,r1,r2,r3,r4⟩:=(fA (w:=wr.w) (lo:=1) (hi:=(rh C).length) (by omega)).mp OT;rw[u4] at OS;obtain⟨PQ,m1,m2,m3,m4⟩:=(fA (w:=wm.w) (lo:=0) (hi:=20000) (by decide)).mp (by
       rcases OS with z|⟨z1,z2⟩
       . rw[z];omega
       omega)
      rw[m4] at OS;rw[r4,k4,Nl] at NM;obtain⟨yz,hz⟩:=qb.mpr Ph;have We:(KINDS.find? λ(x:Kind×String)=>ascii x.2==wk.w)=some (kind,kindS kind):=qT.mpr ⟨km,rfl⟩;have Wf:(C.pools.map λ(p:Pool)=>p.name).contains wn.w=false:=by
       subst h;cases c:(C.pools.map λ(p:Pool)=>p.name).contains wn.w with
       |false=>rfl
       |true =>
        exfalso;have c:wn.w∈C.pools.map λ(p:Pool)=>p.name:=by simpa using c
        obtain⟨p0,PR,ep⟩:=Zr.mp c;have:tx wn.w∈C.pools.map λ(p:Pool)=>tx p.name:=Zr.mpr ⟨p0,PR,by rw[ep]⟩;have NY:¬tx wn.w∈C.pools.map λ(p:Pool)=>tx p.name:=by simpa using hn
        exact NY this
      refine⟨⟨wn.w,kind,nk,nr,yz.1,nt,nb,PQ,nu⟩,?_⟩;unfold poolIn;refine aE.mpr ⟨(wn.w,_),jo.mpr ⟨wn,rfl,by rw[<-kI];exact c8,Wf,rfl⟩,?_⟩;refine aE.mpr ⟨((kind,wk.at_),_),nE.mpr ⟨wk,_,rfl,We,rfl⟩,?_⟩;refine aE.mpr ⟨((nk,Pg.at_),_),bx.mpr ⟨Pg,rfl,k1,k2,k3,rfl⟩,?_⟩;refine aE.mpr ⟨_,de.mpr ⟨RN,rfl,(bo _ (by decide)).mp c2⟩,?_⟩;refine aE.mpr ⟨((nr,wr.at_),_),bx.mpr ⟨wr,rfl,r1,r2,Nl ▸ r3,rfl⟩,?_⟩;refine aE.mpr ⟨(),d8.mpr ?_,?_⟩
      . show (kind != Kind.legs||decide (nr+nk<=C.races.length+1))=true;rcases NM with ⟨z1,z2⟩|⟨z1,z2⟩
        . rw[ZU];right;exact Zy (by omega)
        rw[ZU];left;simpa using z1
      refine aE.mpr ⟨(),d8.mpr ?_,?_⟩
      . show (kind==Kind.legs||((C.races[nr - 1]?).map λ(x:Race)=>decide (nk<=x.heads.length)).getD false)=true;rw[ZU];rcases NM with ⟨z1,z2⟩|⟨z1,z2⟩
        . left;rw[z1];rfl
        right;have lt:nr - 1 < C.races.length:=by omega
        rw[Y6 lt];show decide _=true;refine Zy ?_;have e:((nr:Int) - 1).toNat=nr - 1:=by omega
        rw[e] at z2;unfold rh at z2;rw[ZD,Y1,Y6 lt] at z2;have z2:(nk:Int)<=((C.races[nr - 1]).heads.length:Int):=z2;omega
      refine aE.mpr ⟨_,de.mpr ⟨RO,rfl,(bo _ (by decide)).mp c3⟩,?_⟩;refine aE.mpr ⟨((nt,wt.at_),_),bx.mpr ⟨wt,rfl,t1,t2,t3,rfl⟩,?_⟩;refine aE.mpr ⟨_,de.mpr ⟨RQ,rfl,(bo _ (by decide)).mp c4⟩,?_⟩;refine aE.mpr ⟨((nb,wb.at_),_),bx.mpr ⟨wb,rfl,b1,b2,b3,rfl⟩,?_⟩;refine aE.mpr ⟨_,de.mpr ⟨RT,rfl,(bo _ (by decide)).mp c5⟩,?_⟩;refine aE.mpr ⟨((PQ,wm.at_),_),bx.mpr ⟨wm,rfl,m1,m2,m3,rfl⟩,?_⟩;refine aE.mpr ⟨_,de.mpr ⟨RU,rfl,(bo _ (by decide)).mp c6⟩,?_⟩;refine aE.mpr ⟨((nu,wu.at_),_),bx.mpr ⟨wu,rfl,u1,u2,u3,rfl⟩,?_⟩;refine aE.mpr ⟨(),d8.mpr ?_,?_⟩
      . show (PQ==0||inside nu (2*nu) PQ)=true;rw[ZU];rcases OS with z|⟨z1,z2⟩
        . left;have:PQ=0:=by omega
          rw[this];rfl
        right;unfold inside;rw[Y3,aao,aao];omega
      refine aE.mpr ⟨_,de.mpr ⟨RV,rfl,(bo _ (by decide)).mp c7⟩,?_⟩;refine aE.mpr ⟨((yz.1,wz.at_),[]),nE.mpr ⟨wz,yz,rfl,hz,rfl⟩,?_⟩;exact aE.mpr ⟨(),la.mpr rfl,rfl⟩
    cases h
 cases h
def iX (ws:List W):Bool:=ws.length==2&&ws.getD 0 []==cd "day"&&eW (ws.getD 1 [])
def b_ (races:abz):List aK->List (List W)->Option (List aK)
 |acc,[]=>some acc
 |acc,ws::ls=>match fm ws races with
  |none=>none|some p=>if (acc.map (·.name)).contains p.name=true then none else b_ races (acc++[p]) ls
def jk (lines:List (List W))(races:abz):Option (List aK):=if 64 < lines.length then none else b_ races [] lines
def aQ (ws:List W):Bool:=ws.headD []==cd "race"
def fj:abz->List (List W)->Option (List aK)
 |acc,[]=>if acc=[] then none else some []
 |acc,ws::ls=>if aQ ws=true then (if 16<=acc.length then none else match bF ws with
  |none=>none|some h=>fj (acc++[h]) ls) else if acc=[] then none else jk (ws::ls) acc
def qB (t:W):List (List W):=(a7 10 [] t.dropLast).map (a7 32 [])
def dU (t:W):Option (List aK) :=
 if t.getLast?=some 10 then match qB t with
  |[]=>none|d::ls=>if iX d=true then fj [] ls else none
 else none
theorem qK:∀(ls:List (List W)) (acc:abz),acc.length<=16 ->
  fj acc ls=if 1<=acc.length+(ls.takeWhile aQ).length/\acc.length+(ls.takeWhile aQ).length<=16/\¬none∈(ls.takeWhile aQ).map bF then jk (ls.dropWhile aQ) (acc++((ls.takeWhile aQ).map bF).filterMap id) else none
 |[],acc,h=>by
  show (if acc=[] then none else some [])=_;by_cases c:acc=[]
  . subst c;rfl
  rw[YX c,YY]
  . rfl
  have:0 < acc.length:=ZY.mpr c;exact⟨by simp;omega,by simpa using h,by simp⟩
 |ws::ls,acc,h=>by
  show (if aQ ws=true then _ else _)=_;by_cases c:aQ ws=true
  . rw[YY c,aaZ,abp,YY c,YY c];by_cases c2:16<=acc.length
    . rw[YY c2,YX];rintro⟨_,z,_⟩;rw[Y7] at z;omega
    rw[YX c2];cases hr:bF ws with
    |none =>dsimp only;rw[YX];rintro⟨_,_,z⟩;exact z (by rw[Zb,hr];simp)
    |some hs =>
     dsimp only;rw[qK ls (acc++[hs]) (by rw[Zg,Z7];omega)];have e1:(acc++[hs]).length=acc.length+1:=by simp
     rw[e1,Zb,hr,abo,Y7,aal];have k:(1<=acc.length+1+(ls.takeWhile aQ).length/\acc.length+1+(ls.takeWhile aQ).length<=16/\¬none∈(ls.takeWhile aQ).map bF) ↔
       (1<=acc.length+((ls.takeWhile aQ).length+1)/\acc.length+((ls.takeWhile aQ).length+1)<=16/\¬none∈some hs::(ls.takeWhile aQ).map bF):=by
      have:(¬none∈some hs::(ls.takeWhile aQ).map bF)↔¬none∈(ls.takeWhile aQ).map bF:=by simp
      rw[this];constructor
      . rintro⟨a,b,d⟩;exact⟨by omega,by omega,d⟩
      rintro⟨a,b,d⟩;exact⟨by omega,by omega,d⟩
     by_cases q:(1<=acc.length+1+(ls.takeWhile aQ).length/\acc.length+1+(ls.takeWhile aQ).length<=16/\¬none∈(ls.takeWhile aQ).map bF)
     . rw[YY q,YY (k.mp q)];rfl
     rw[YX q,YX (λz=>q (k.mpr z))]
  rw[YX c,aaZ,abp,YX c,YX c];by_cases d:acc=[]
  . subst d;rfl
  rw[YX d,YY]
  . simp
  have:0 < acc.length:=ZY.mpr d;exact⟨by simp;omega,by simpa using h,by simp⟩
def jQ (w:W):Prop:=w≠[]/\∀c∈w,(isLet c||b6 c)=true
def yy {v:Bytes}(h:jQ (tx v)):Ca v:=by
 refine⟨λe=>h.1 (by rw[e];rfl),λc hc=>?_⟩;have:=h.2 (sg c.toNat) (Zr.mpr ⟨c,hc,rfl⟩);rw[rH,qy] at this;unfold isLet b6 at this;simp only[ZU,Y3,Y4] at this;constructor
 . show 32 < c.toNat;omega
 show c.toNat<=126;omega
def kJ {w:W}(h:eW w=true):jQ w:=by unfold eW at h;simp only[Y3,Y4] at h;refine⟨λe=>?_,λc hc=>(Zn.mp h.2) c hc⟩;rw[e] at h;simp at h
def fk {w:W}(h:0<=ay w):jQ w:=by
 unfold ay at h;split at h
 . omega
 rename_i q;have q1:¬w=[]:=λz=>q (.inr (.inl z));have q2:¬w.all b6=false:=λz=>q (.inr (.inr z));refine⟨q1,λc hc=>?_⟩;have q2:w.all b6=true:=by simpa using q2
 rw[(Zn.mp q2) c hc,Bool.or_true]
def BV (w:W):Bool:=!w.isEmpty&&w.all λc=>isLet c||b6 c
def EZ {w:W}(h:BV w=true):jQ w:=by unfold BV at h;rw[Y3] at h;exact⟨λe=>by rw[e] at h;simp at h,λc hc=>(Zn.mp h.2) c hc⟩
def bP {w:W}{s:String}(e:w=cd s)(h:BV (cd s)=true):jQ w:=e ▸ EZ h
def CA {ws:List W}(h:iX ws=true):∀w∈ws,jQ w:=by
 unfold iX at h;simp only[Y3,ZK] at h
 match ws,h with
 |[a,b],h =>
  intro w hw;rcases Y0.mp hw with rfl|hw
  . exact bP h.1.2 (by decide)
  have:w=b:=by simpa using hw
  subst this;exact kJ h.2
theorem sT:∀{n:Nat} (l:List W) (fs ss Nd:abA),dw n l fs ss=some Nd->∀w∈l,jQ w
 |_,[],_,_,_,_=>by simp|_,[_],_,_,_,h=>by cases h|_,[_,_],_,_,_,h=>by cases h
 |n,c::a::b::r,fs,ss,Nd,h=>by
  unfold dw at h;split at h
  . rename_i q;intro w hw;rcases Y0.mp hw with rfl|hw
    . exact bP q.1 (by decide)
    rcases Y0.mp hw with rfl|hw
    . exact fk (by omega)
    rcases Y0.mp hw with rfl|hw
    . exact fk (by omega)
    exact sT r _ _ _ h w hw
  cases h
def AN {ws:List W}{hs:abA}(h0:aQ ws=true)(h:bF ws=some hs):∀w∈ws,jQ w:=by
 unfold bF at h;split at h
 . rename_i w0 n r;split at h
   . rename_i q;cases c:dw (ay n).toNat r [] [] with
     |none=>rw[c] at h;cases h
     |some ss =>
      intro w hw;rcases Y0.mp hw with rfl|hw
      . unfold aQ at h0;exact bP (ZK.mp h0) (by decide)
      rcases Y0.mp hw with rfl|hw
      . exact fk (by omega)
      exact sT r _ _ _ c w hw
   cases h
 cases h
def Br {w:W}{k:Kind}(h:dR w=some k):jQ w:=by
 unfold dR at h;split at h
 . rename_i e;exact bP e (by decide)
 split at h
 . rename_i e;exact bP e (by decide)
 split at h
 . rename_i e;exact bP e (by decide)
 split at h
 . rename_i e;exact bP e (by decide)
 cases h
def sJ {ws:List W}{races:abz}{q:aK}(h:fm ws races=some q):(∀w∈ws,jQ w)/\ws.headD []=cd "pool":=by
 unfold fm at h;split at h
 . rename_i p nm kd k fr rc tk t br b le m un u no z;cases km:dR kd with
   |none=>rw[km] at h;cases h
   |some kind =>
    rw[km] at h;dsimp only at h;split at h
    . rename_i cs;obtain⟨c1,c2,c3,c4,c5,c6,c7,c8,c9,QU,QV,OS,Ph,Ow,OT,NM⟩:=cs;have hm:0<=ay m:=by omega
      have gz:jQ z:=by
       rcases Ph with ⟨e,_⟩|e|e
       . exact bP e (by decide)
       . exact bP e (by decide)
       exact bP e (by decide)
      refine⟨λw hw=>?_,c1⟩;simp only[Y0,aaF,or_false] at hw;rcases hw with rfl|rfl|rfl|rfl|rfl|rfl|rfl|rfl|rfl|rfl|rfl|rfl|rfl|rfl|rfl|rfl
      . exact bP c1 (by decide)
      . exact kJ c8
      . exact Br km
      . exact fk (by omega)
      . exact bP c2 (by decide)
      . exact fk (by omega)
      . exact bP c3 (by decide)
      . exact fk (by omega)
      . exact bP c4 (by decide)
      . exact fk (by omega)
      . exact bP c5 (by decide)
      . exact fk hm
      . exact bP c6 (by decide)
      . exact fk (by omega)
      . exact bP c7 (by decide)
      exact gz
    cases h
 cases h
def lw (l:Bytes):List W:=a7 32 [] (tx l)
def BS (l:Bytes):lw l=(splitOn 32 [] l).map tx:=i7 (c:=32) (by decide) l []
def ml {l:Bytes}(h:∀w∈lw l,jQ w):badByte true 0 l=none:=by refine yd l [] 0 (λv hv=>yy (h (tx v) ?_)) (by simp);rw[BS];exact Zr.mpr ⟨v,hv,rfl⟩
def rO {l:Bytes}(p:Nat)(h:badByte true 0 l=none):oz (wordsFrom p [] l)=lw l:=by obtain⟨a,_⟩:=words_of l [] p 0 (Zo _) h;rw[BS,<-a,Zk];rfl
def bR:Nat->Option Card->List Bytes->Except Fault (Option Card)
 |_,h,[]=>.ok h
 |p,h,l::ls=>match badByte true 0 l with
  |some i=>.error ⟨2,p+i⟩
  |none=>match lineIn h ⟨wordsFrom p [] l,p+l.length⟩ with
   |.error e=>.error e|.ok t=>bR (p+l.length+1) t ls
def d9 (ls:List Bytes):Bytes:=ls.flatMap λl=>l++[10]
theorem qf {r:Bytes}:∀{l:Bytes},¬10∈l->upTo (l++10::r)=some (l,r)
 |[],_=>by simp[upTo]|c::l,h=>by have hc:¬c=10:=λe=>h (by simp[e]);show (if c=10 then some ([],l++10::r) else (upTo (l++10::r)).map λ(x:Bytes×Bytes)=>(c::x.1,x.2))=_;rw[YX hc,qf λm=>h (by simp[m])];rfl
theorem lq:∀{b l r:Bytes},upTo b=some (l,r)->b=l++10::r/\¬10∈l
 |[],_,_,h=>by cases h
 |c::b,l,r,h=>by
  have h:(if c=10 then some ([],b) else (upTo b).map λ(x:Bytes×Bytes)=>(c::x.1,x.2))=some (l,r):=h;by_cases e:c=10
  . rw[YY e] at h;injection h with h;injection h with h1 h2;subst h1;subst h2;subst e;exact⟨rfl,by simp⟩
  rw[YX e] at h;cases q:upTo b with
  |none=>rw[q] at h;cases h
  |some x =>
   rw[q] at h;injection h with h;injection h with h1 h2;obtain⟨a1,a2⟩:=lq (b:=b) (l:=x.1) (r:=x.2) q;subst h1;subst h2;exact⟨by rw[aaX,<-a1],λm=>by
    rcases Y0.mp m with z|z
    . exact e z.symm
    exact a2 z⟩
theorem sM:∀{b:Bytes},upTo b=none->¬10∈b
 |[],_=>by simp
 |c::b,h=>by
  have h:(if c=10 then some ([],b) else (upTo b).map λ(x:Bytes×Bytes)=>(c::x.1,x.2))=none:=h;by_cases e:c=10
  . rw[YY e] at h;cases h
  rw[YX e] at h;cases q:upTo b with
  |none =>
   have:=sM q;intro m;rcases Y0.mp m with z|z
   . exact e z.symm
   exact this z
  |some x=>rw[q] at h;cases h
theorem pT:∀(ls:List Bytes) (k p:Nat) (h:Option Card),(∀l∈ls,¬10∈l)->(d9 ls).length < k->linesIn lineIn k p h (d9 ls)=bR p h ls
 |[],0,_,_,_,hk=>by simp at hk|[],k+1,p,h,_,_=>rfl|l::ls,0,_,_,_,hk=>by simp at hk
 |l::ls,k+1,p,h,hn,hk=>by
  have e:d9 (l::ls)=l++10::d9 ls:=by unfold d9;rw[aa_,aal];rfl
  rw[e] at hk ⊢;have ne:¬(l++10::d9 ls).isEmpty=true:=by simp
  show (if (l++10::d9 ls).isEmpty=true then Except.ok h else match upTo (l++10::d9 ls) with
   |none=>_|some (l,r)=>_)=_
  rw[YX ne,qf (hn l (by simp))];dsimp only;unfold bR;cases hb:badByte true 0 l with
  |some i=>rfl
  |none =>
   dsimp only;cases hl:lineIn h ⟨wordsFrom p [] l,p+l.length⟩ with
   |error e=>rfl|ok t =>dsimp only;exact pT ls k (p+l.length+1) t (λm hm=>hn m (by simp[hm])) (by simp only[Zg,Y7] at hk;omega)
theorem qG:∀(k p:Nat) (h h':Option Card) (b:Bytes),b.length < k->linesIn lineIn k p h b=.ok h'->b=[]\/b.getLast?=some 10
 |0,_,_,_,_,hk,_=>by omega
 |k+1,p,h,h',b,hk,q=>by
  by_cases e:b=[]
  . exact .inl e
  right;have ne:¬b.isEmpty=true:=λz=>e (aau.mp z);rw[linesIn,YX ne] at q;cases hu:upTo b with
  |none=>rw[hu] at q;cases q
  |some x =>
   obtain⟨l,r⟩:=x;rw[hu] at q;dsimp only at q;obtain⟨hb,_⟩:=lq hu;cases PU:badByte true 0 l with
   |some i=>rw[PU] at q;cases q
   |none =>
    rw[PU] at q;dsimp only at q;cases hl:lineIn h ⟨wordsFrom p [] l,p+l.length⟩ with
    |error e=>rw[hl] at q;cases q
    |ok t =>
     rw[hl] at q;dsimp only at q;have:=qG k _ t h' r (by rw[hb] at hk;simp only[Zg,Y7] at hk;omega) q;rw[hb];rcases this with z|z
     . subst z;simp
     rw[List.getLast?_append];cases r with
     |nil=>simp at z|cons c r =>rw[List.getLast?_cons_cons,z];rfl
theorem join_split:∀(b w:Bytes),d9 (splitOn 10 w b)=w++b++[10]
 |[],w=>by show d9 [w]=_;unfold d9;simp
 |c::b,w=>by
  show d9 (if c=10 then w::splitOn 10 [] b else splitOn 10 (w++[c]) b)=_;by_cases e:c=10
  . rw[YY e];have:=join_split b [];unfold d9 at this ⊢;rw[aa_,this,e];simp
  rw[YX e,join_split b (w++[c])];simp
theorem lY:∀(b w:Bytes),¬10∈w->∀l∈splitOn 10 w b,¬10∈l
 |[],w,hw,l,hl=>by
  have:l=w:=by simpa [splitOn] using hl
  exact this ▸ hw
 |c::b,w,hw,l,hl=>by
  have hl:l∈(if c=10 then w::splitOn 10 [] b else splitOn 10 (w++[c]) b):=hl;by_cases e:c=10
  . rw[YY e] at hl;rcases Y0.mp hl with rfl|hl
    . exact hw
    exact lY b [] (by simp) l hl
  rw[YX e] at hl;refine lY b (w++[c]) (λm=>?_) l hl;rcases ZJ.mp m with z|z
  . exact hw z
  exact e (by simpa using (Y_.mp z).symm)
structure bO (C:Card):Prop where
 xr:C.races.length<=16
 heads:∀r∈C.races,cK r.heads
 pools:∀p∈C.pools,cS C p
 np:C.pools.length<=64
theorem lU (c:UInt8):∀(l w:Bytes),splitOn c w l≠[]
 |[],_=>by simp[splitOn]
 |x::l,w=>by
  unfold splitOn;by_cases e:x=c
  . rw[YY e];simp
  rw[YX e];exact lU c l _
def jA {l:Bytes}(p:Nat)(h:badByte true 0 l=none):∃w r,wordsFrom p [] l=w::r/\lw l=tx w.w::oz r:=by
 have e:=rO p h;cases hw:wordsFrom p [] l with
 |nil =>exfalso;rw[hw] at e;have e:[]=lw l:=e;rw[BS] at e;exact lU 32 l [] (abn.mp e.symm)|cons w r=>exact⟨w,r,rfl,by rw[<-e,hw];rfl⟩
def sN {D:Card}(h:cS C p)(e:D.races=C.races):cS D p:=by
 have hh:D.headsOf=C.headsOf:=by funext r;unfold Card.headsOf;rw[e]
 exact⟨h.name,h.J2,h.GX,h.Bl,by rw[e];exact h.IY,by rw[e];exact h.legs,by rw[hh];exact h.xr,h.unit,h.Mt⟩
theorem rP:∀(ls:List Bytes) (p:Nat) (C:Card),bO C->C.races≠[]->(C.pools=[]->∀l∈ls.head?,aQ (lw l)=false) ->
  (∀C',bR p (some C) ls=.ok C'->∃D,C'=some D/\bO D/\D.races=C.races/\C.pools.length+ls.length<=64/\b_ (rh C) (C.pools.map (az C)) (ls.map lw)=some (D.pools.map (az D))) /\
  (∀e,bR p (some C) ls=.error e->64 < C.pools.length+ls.length\/b_ (rh C) (C.pools.map (az C)) (ls.map lw)=none)
 |[],p,C,ok,_,_=>⟨λC' h=>by have h:Except.ok (some C)=Except.ok C':=h;injection h with h;subst h;exact⟨C,rfl,ok,rfl,ok.np,rfl⟩,λe h=>nomatch h⟩
 |l::ls,p,C,ok,hr,hf=>by
  have none_of:fm (lw l) (rh C)=none->b_ (rh C) (C.pools.map (az C)) ((l::ls).map lw)=none:=λq=>by rw[Zb];unfold b_;rw[q]
  cases hb:badByte true 0 l with
  |some i =>
   have q:fm (lw l) (rh C)=none:=by
    cases c:fm (lw l) (rh C) with
    |none=>rfl|some z =>have:=ml (sJ c).1;rw[hb] at this;cases this
   have e0:bR p (some C) (l::ls)=.error ⟨2,p+i⟩:=by unfold bR;rw[hb]
   rw[e0];exact⟨λ_ h=>(nomatch h),λ_ _=>.inr (none_of q)⟩
  |none =>
   obtain⟨w,r,hw,Nu⟩:=jA p hb;have e0:bR p (some C) (l::ls)=match lineIn (some C) ⟨w::r,p+l.length⟩ with
     |.error e=>.error e|.ok t=>bR (p+l.length+1) t ls:=by
    conv=>lhs;unfold bR
    rw[hb,hw]
    all_goals rfl
   have nr:¬(w.w=ascii "race"/\C.pools=[]):=λ⟨z1,z2⟩=>by have:=hf z2 l (by simp);unfold aQ at this;rw[Nu] at this;have:(tx w.w==cd "race")=false:=this;rw[Zq] at this;exact this ((bo _ (by decide)).mpr z1)
   have e1:lineIn (some C) ⟨w::r,p+l.length⟩=if w.w=ascii "pool"/\C.races≠[] then (if POOLS<=C.pools.length then .error ⟨6,w.at_⟩ else withPool (p+l.length) C r) else .error ⟨3,w.at_⟩:=by show (if w.w=ascii "race"/\C.pools=[] then _ else _)=_;rw[YX nr]
   rw[e1] at e0;by_cases hp:w.w=ascii "pool"
   . rw[YY ⟨hp,hr⟩] at e0;by_cases Oa:POOLS<=C.pools.length
     . rw[YY Oa] at e0;rw[e0];have Oa:64<=C.pools.length:=Oa;exact⟨λ_ h=>(nomatch h),λ_ _=>.inl (by rw[Y7];omega)⟩
     rw[YX Oa] at e0;have Oa:¬64<=C.pools.length:=Oa;unfold withPool at e0;cases hi:poolIn (p+l.length) C r with
     |error e =>
      rw[hi] at e0;have e0:bR p (some C) (l::ls)=.error e:=e0;rw[e0];refine⟨λ_ h=>(nomatch h),λ_ _=>.inr ?_⟩;cases c:fm (lw l) (rh C) with
      |none=>exact none_of c
      |some q =>
       rw[Zb];unfold b_;rw[c];dsimp only;cases d:((C.pools.map (az C)).map (·.name)).contains q.name with
       |true=>rfl
       |false =>
        exfalso;rw[Nu] at c;have d':(C.pools.map λ(p:Pool)=>tx p.name).contains q.name=false:=by rw[Zk] at d;exact d
        obtain⟨z,hz⟩:=Cm (e:=p+l.length) ok.xr c d' (λp hp=>(ok.pools p hp).name);rw[hi] at hz;cases hz
     |ok q =>
      rw[hi] at e0;have e0:bR p (some C) (l::ls)=bR (p+l.length+1) (some {C with pools:=C.pools++[q]}) ls:=e0;obtain⟨Wg,hn,hm⟩:=CJ (w:=w) ok.xr hp hi;rw[e0];have RW:bO {C with pools:=C.pools++[q]}:=⟨ok.xr,ok.heads,λx hx=>by
        have hx:x∈C.pools++[q]:=hx;rcases ZJ.mp hx with z|z
        . exact sN (ok.pools x z) rfl
        have:x=q:=by simpa using z
        subst this;exact sN Wg rfl,by show (C.pools++[q]).length<=64;rw[Zg,Z7];omega⟩
      have ih:=rP ls (p+l.length+1) {C with pools:=C.pools++[q]} RW hr (λz=>by have z:C.pools++[q]=[]:=z;simp at z)
      have step:b_ (rh C) (C.pools.map (az C)) ((l::ls).map lw)=b_ (rh C) ((C.pools++[q]).map (az C)) (ls.map lw):=by
       rw[Zb]
       conv=>lhs;unfold b_
       have QW:fm (lw l) (rh C)=some (az C q):=by rw[Nu];exact hm
       rw[QW];dsimp only;have:((C.pools.map (az C)).map (·.name)).contains (az C q).name=false:=by
        rw[Zk];cases d:(C.pools.map ((λ(x:aK)=>x.name) ∘ az C)).contains (az C q).name with
        |false=>rfl
        |true =>
         exfalso;have d:(az C q).name∈C.pools.map ((λ(x:aK)=>x.name) ∘ az C):=by simpa using d
         obtain⟨x,hx,ex⟩:=Zr.mp d;have ex:tx x.name=tx q.name:=ex;have nx:=(ok.pools x hx).name;have:q.name=x.name:=by
          have key:∀c∈x.name,vw c.toNat=true:=λc hc=>by have gx:=kJ (by rw[kI];exact nx);have:=gx.2 (sg c.toNat) (Zr.mpr ⟨c,hc,rfl⟩);rw[rH,qy] at this;unfold vw;rw[this];rfl
          have own:tx x.name=x.name.map UInt8.toNat:=(tm key).mpr rfl;exact (tm key).mp (by rw[<-ex,own])
         have NY:¬q.name∈C.pools.map λ(p:Pool)=>p.name:=by simpa using hn
         exact NY (Zr.mpr ⟨x,hx,this.symm⟩)
       rw[YX (by rw[this];decide),Zd];rfl
      have len:(C.pools++[q]).length=C.pools.length+1:=by simp
      rw[step];constructor
      . intro C' h;obtain⟨D,h1,h2,h3,h4,h5⟩:=ih.1 C' h;refine⟨D,h1,h2,h3,?_,h5⟩;have h4:(C.pools++[q]).length+ls.length<=64:=h4;rw[Y7];omega
      intro e h;rcases ih.2 e h with z|z
      . left;have z:64 < (C.pools++[q]).length+ls.length:=z;rw[Y7];omega
      exact .inr z
   rw[YX (λz=>hp z.1)] at e0;rw[e0];refine⟨λ_ h=>(nomatch h),λ_ _=>.inr (none_of ?_)⟩;cases c:fm (lw l) (rh C) with
   |none=>rfl|some q =>exfalso;have:=(sJ c).2;rw[Nu] at this;exact hp ((bo _ (by decide)).mp this)
theorem qD:∀(ls:List Bytes) (p:Nat) (C:Card),bO C->C.pools=[] ->
  (∀C',bR p (some C) ls=.ok C'->∃D,C'=some D/\((D.races=[]/\fj (rh C) (ls.map lw)=none)\/(D.races≠[]/\bO D/\fj (rh C) (ls.map lw)=some (D.pools.map (az D))))) /\
  (∀e,bR p (some C) ls=.error e->fj (rh C) (ls.map lw)=none)
 |[],p,C,ok,hp=>⟨λC' h=>by
   have h:Except.ok (some C)=Except.ok C':=h;injection h with h;subst h;refine⟨C,rfl,?_⟩;by_cases c:C.races=[]
   . left;refine⟨c,?_⟩;show (if rh C=[] then none else some [])=none;rw[YY (by unfold rh;rw[c];rfl)]
   right;refine⟨c,ok,?_⟩;show (if rh C=[] then none else some [])=_;rw[YX (λ(z:rh C=[])=>c (abn.mp z)),hp];rfl,λe h=>nomatch h⟩
 |l::ls,p,C,ok,hp=>by
  have Nl:(rh C).length=C.races.length:=YW ..;by_cases Ox:aQ (lw l)=true
  . have step:fj (rh C) ((l::ls).map lw)=if 16<=C.races.length then none else match bF (lw l) with
      |none=>none|some h=>fj (rh C++[h]) (ls.map lw):=by
     rw[Zb];show (if aQ (lw l)=true then (if 16<=(rh C).length then none else _) else _)=_;rw[YY Ox,Nl]
     all_goals rfl
    rw[step];cases hb:badByte true 0 l with
    |some i =>
     have q:bF (lw l)=none:=by
      cases c:bF (lw l) with
      |none=>rfl|some z =>have:=ml (AN Ox c);rw[hb] at this;cases this
     have e0:bR p (some C) (l::ls)=.error ⟨2,p+i⟩:=by unfold bR;rw[hb]
     rw[e0,q];refine⟨λ_ h=>(nomatch h),λ_ _=>?_⟩;split <;> rfl
    |none =>
     obtain⟨w,r,hw,Nu⟩:=jA p hb;have wr:w.w=ascii "race":=by unfold aQ at Ox;rw[Nu] at Ox;exact (bo _ (by decide)).mp (ZK.mp Ox)
     have e0:bR p (some C) (l::ls)=match lineIn (some C) ⟨w::r,p+l.length⟩ with
       |.error e=>.error e|.ok t=>bR (p+l.length+1) t ls:=by
      conv=>lhs;unfold bR
      rw[hb,hw]
      all_goals rfl
     have e1:lineIn (some C) ⟨w::r,p+l.length⟩=if RACES<=C.races.length then .error ⟨6,w.at_⟩ else withRace (p+l.length) C r:=by show (if w.w=ascii "race"/\C.pools=[] then _ else _)=_;rw[YY ⟨wr,hp⟩]
     rw[e1] at e0;by_cases Ov:RACES<=C.races.length
     . rw[YY Ov] at e0;rw[e0,YY (show 16<=C.races.length from Ov)];exact⟨λ_ h=>(nomatch h),λ_ _=>rfl⟩
     rw[YX Ov] at e0;have Ov:¬16<=C.races.length:=Ov;rw[YX Ov];unfold withRace at e0;cases hi:raceIn (p+l.length) r with
     |error e =>
      rw[hi] at e0;have e0:bR p (some C) (l::ls)=.error e:=e0;rw[e0];refine⟨λ_ h=>(nomatch h),λ_ _=>?_⟩;cases c:bF (lw l) with
      |none=>rfl|some hs =>exfalso;rw[Nu] at c;obtain⟨q,hq,_⟩:=(vU (e:=p+l.length) (w:=w) (l:=r)).2 hs c;rw[hi] at hq;cases hq
     |ok q =>
      rw[hi] at e0;have e0:bR p (some C) (l::ls)=bR (p+l.length+1) (some {C with races:=C.races++[q]}) ls:=e0;have hm:=(vU (e:=p+l.length) (w:=w) (l:=r)).1 q hi;have QW:bF (lw l)=some q.heads:=by rw[Nu];exact hm
      rw[e0,QW];dsimp only;have RW:bO {C with races:=C.races++[q]}:=⟨by show (C.races++[q]).length<=16;rw[Zg,Z7];omega,λx hx=>by
        have hx:x∈C.races++[q]:=hx;rcases ZJ.mp hx with z|z
        . exact ok.heads x z
        . have:x=q:=by simpa using z
          subst this;exact A5 QW,λx hx=>by
        have hx:x∈C.pools:=hx;rw[hp] at hx;simp at hx,ok.np⟩
      have ih:=qD ls (p+l.length+1) {C with races:=C.races++[q]} RW hp;have e2:rh {C with races:=C.races++[q]}=rh C++[q.heads]:=by unfold rh;rw[Zd];rfl
      rw[e2] at ih;exact ih
  have RX:aQ (lw l)=false:=by simpa using Ox
  have step:fj (rh C) ((l::ls).map lw)=if rh C=[] then none else jk ((l::ls).map lw) (rh C):=by rw[Zb];show (if aQ (lw l)=true then _ else _)=_;rw[YX Ox]
  rw[step];by_cases hr:C.races=[]
  . rw[YY (by unfold rh;rw[hr];rfl)];have e0:∃e,bR p (some C) (l::ls)=.error e:=by
     unfold bR;cases hb:badByte true 0 l with
     |some i=>exact⟨_,rfl⟩
     |none =>
      obtain⟨w,r,hw,Nu⟩:=jA p hb;dsimp only;rw[hw];have wr:¬w.w=ascii "race":=λz=>by
       apply Ox
       unfold aQ;rw[Nu];exact ZK.mpr ((bo _ (by decide)).mpr z)
      have e1:lineIn (some C) ⟨w::r,p+l.length⟩=.error ⟨3,w.at_⟩:=by show (if w.w=ascii "race"/\C.pools=[] then _ else if w.w=ascii "pool"/\C.races≠[] then _ else _)=_;rw[YX (λz=>wr z.1),YX (λz=>z.2 hr)]
      rw[e1];exact⟨_,rfl⟩
    obtain⟨e,e0⟩:=e0;rw[e0];exact⟨λ_ h=>(nomatch h),λ_ _=>rfl⟩
  rw[YX (λ(z:rh C=[])=>hr (abn.mp z))];have ih:=rP (l::ls) p C ok hr (λ_ l' PV=>by
   have:l'=l:=by simpa using PV.symm
   subst this;exact RX)
  rw[hp] at ih;have len:((l::ls).map lw).length=(l::ls).length:=YW ..;unfold jk;rw[len];constructor
  . intro C' h;obtain⟨D,h1,h2,h3,h4,h5⟩:=ih.1 C' h;refine⟨D,h1,.inr ⟨by rw[h3];exact hr,h2,?_⟩⟩;rw[YX (by simp only[aas] at h4;omega)];exact h5
  intro e h;by_cases c:64 < (l::ls).length
  . rw[YY c]
  rw[YX c];rcases ih.2 e h with z|z
  . simp only[aas] at z;omega
  exact z
def zT:∀(b:Bytes),(tx b).getLast?=some 10↔b.getLast?=some 10:=λb=>by
 unfold tx;rw[List.getLast?_map];cases b.getLast? with
 |none=>simp
 |some c =>
  show some (sg c.toNat)=some 10↔some c=some 10;constructor
  . intro h;injection h with h;rw[jV (show c.toNat=(10:UInt8).toNat from (wK (by decide)).mp h)]
  intro h;injection h with h;rw[h];rfl
def mP (b:Bytes):(∀C,readCard b=.ok C->bO C/\C.races≠[]/\dU (tx b)=some (C.pools.map (az C)))/\(∀e,readCard b=.error e->dU (tx b)=none):=by
 by_cases hl:b.getLast?=some 10
 . obtain⟨b',rfl⟩:∃b',b=b'++[10]:=by
    have ne:b≠[]:=λe=>by rw[e] at hl;simp at hl
    refine⟨b.dropLast,?_⟩;have:=List.dropLast_concat_getLast ne;rw[List.getLast?_eq_some_getLast ne] at hl;injection hl with hl;rw[hl] at this;exact this.symm
   have hj:d9 (splitOn 10 [] b')=b'++[10]:=by rw[join_split];simp
   have PX:linesIn lineIn ((b'++[10]).length+1) 0 none (b'++[10])=bR 0 none (splitOn 10 [] b'):=by rw[<-hj];exact pT _ _ _ _ (lY b' [] (by simp)) (abg _)
   have Wh:qB (tx (b'++[10]))=(splitOn 10 [] b').map lw:=by
    unfold qB;have e:(tx (b'++[10])).dropLast=tx b':=by rw[t7];show (tx b'++[sg 10]).dropLast=_;rw[List.dropLast_concat]
    have:=i7 (c:=10) (by decide) b' [];rw[BG] at this;rw[e];show (a7 (10:UInt8).toNat [] (tx b')).map _=_;rw[this,Zk];rfl
   have hc:dU (tx (b'++[10]))=match (splitOn 10 [] b').map lw with
     |[]=>none|d::ls=>if iX d=true then fj [] ls else none:=by
    unfold dU;rw[YY ((zT _).mpr hl),Wh]
    all_goals rfl
   rw[hc];unfold readCard;rw[PX];cases hs:splitOn 10 [] b' with
   |nil=>exact absurd hs (lU 10 b' [])
   |cons l ls =>
    rw[Zb];dsimp only;have day:(iX (lw l)=false/\∃e,bR 0 none (l::ls)=.error e)\/(iX (lw l)=true/\∃n,bR 0 none (l::ls)=bR (0+l.length+1) (some {noCard with name:=n}) ls):=by
     cases hb:badByte true 0 l with
     |some i =>
      left;refine⟨?_,⟨2,0+i⟩,by unfold bR;rw[hb]⟩;cases c:iX (lw l) with
      |false=>rfl|true =>have:=ml (CA c);rw[hb] at this;cases this
     |none =>
      obtain⟨w,r,hw,Nu⟩:=jA 0 hb;have e0:bR 0 none (l::ls)=match lineIn none ⟨w::r,0+l.length⟩ with
        |.error e=>.error e|.ok t=>bR (0+l.length+1) t ls:=by
       conv=>lhs;unfold bR
       rw[hb,hw]
       all_goals rfl
      have e1:lineIn none ⟨w::r,0+l.length⟩=if w.w=ascii "day" then dayIn (0+l.length) r else .error ⟨3,w.at_⟩:=rfl;rw[e1] at e0;by_cases hd:w.w=ascii "day"
      . rw[YY hd] at e0;cases hi:dayIn (0+l.length) r with
        |error e =>
         left;rw[hi] at e0;refine⟨?_,e,e0⟩;cases c:iX (lw l) with
         |false=>rfl
         |true =>
          exfalso;unfold iX at c;rw[Nu] at c;simp only[Y3,ZK] at c
          match r,c,hi with
          |[wn],c,hi =>
           have nm:isName wn.w=true:=by rw[<-kI];exact c.2
           have:dayIn (0+l.length) [wn]=.ok (some {noCard with name:=wn.w}):=by unfold dayIn;refine aE.mpr ⟨(wn.w,[]),jo.mpr ⟨wn,rfl,nm,rfl,rfl⟩,?_⟩;exact aE.mpr ⟨(),la.mpr rfl,rfl⟩
           rw[this] at hi;cases hi
          |[],c,_=>have:=c.1.1;simp[oz] at this|_::_::_,c,_=>have:=c.1.1;simp[oz] at this
        |ok t =>right;rw[hi] at e0;unfold dayIn at hi;obtain⟨n,x1,h1⟩:=aE.mp hi;obtain⟨wn,er,n1,n2,n3⟩:=jo.mp x1;obtain⟨_,x2,h2⟩:=aE.mp h1;have y2:=la.mp x2;injection h2 with h2;subst h2;refine⟨?_,n.1,e0⟩;unfold iX;rw[Nu,er,y2];have a1:(tx w.w==cd "day")=true:=ZK.mpr ((bo _ (by decide)).mpr hd);show ((2==2)&&(tx w.w==cd "day")&&eW (tx wn.w))=true;rw[a1,kI,n1];rfl
      rw[YX hd] at e0;left;refine⟨?_,_,e0⟩;cases c:iX (lw l) with
      |false=>rfl|true =>exfalso;unfold iX at c;rw[Nu] at c;simp only[Y3,ZK] at c;exact hd ((bo _ (by decide)).mp c.1.2)
    rcases day with ⟨d,e,h⟩|⟨d,n,h⟩
    . rw[d,h];exact⟨λ_ q=>(nomatch q),λ_ _=>rfl⟩
    rw[YY d,h];have Ln:bO {noCard with name:=n}:=⟨Zo _,λr hr=>by
      have hr:r∈([]:List Race):=hr;simp at hr,λp hp=>by
      have hp:p∈([]:List Pool):=hp;simp at hp,Zo _⟩
    have ih:=qD ls (0+l.length+1) {noCard with name:=n} Ln rfl;have e2:rh {noCard with name:=n}=[]:=rfl;rw[e2] at ih;cases hf:bR (0+l.length+1) (some {noCard with name:=n}) ls with
    |error e =>dsimp only;exact⟨λ_ q=>(nomatch q),λ_ _=>ih.2 e hf⟩
    |ok C' =>
     obtain⟨D,rfl,q⟩:=ih.1 C' hf;dsimp only;rcases q with ⟨q1,q2⟩|⟨q1,q2,q3⟩
     . rw[YY q1];exact⟨λ_ q=>(nomatch q),λ_ _=>q2⟩
     rw[YX q1];exact⟨λC q=>by injection q with q;subst q;exact⟨q2,q1,q3⟩,λ_ q=>nomatch q⟩
 have hn:dU (tx b)=none:=by unfold dU;rw[YX (λz=>hl ((zT b).mp z))]
 rw[hn];refine⟨λC h=>?_,λ_ _=>rfl⟩;exfalso;unfold readCard at h;cases q:linesIn lineIn (b.length+1) 0 none b with
 |error e=>rw[q] at h;cases h
 |ok h' =>
  rcases qG _ _ _ _ _ (abg _) q with z|z
  . subst z;have q':linesIn lineIn 1 0 none []=.ok h':=q;have q':(Except.ok none:Except Fault (Option Card))=.ok h':=q';injection q' with q';subst q';rw[q] at h;cases h
  exact hl z
def Fits (fd acc:abA)(p:W):Prop:=∃n:Nat,ay p=(n:Int)/\n∈fd/\∀x,acc.getLast?=some x->x < n
def Ck {acc:abA}{p:W}:Fits fd acc p↔0<=ay p/\(ay p).toNat∈fd/\∀x∈acc.getLast?,x < (ay p).toNat:=by
 constructor
 . rintro⟨n,e,h1,h2⟩;have en:(ay p).toNat=n:=by omega
   rw[en];exact⟨by omega,h1,λx hx=>h2 x hx⟩
 rintro⟨h0,h1,h2⟩;exact⟨_,by omega,h1,λx hx=>h2 x hx⟩
instance {fd acc:abA}{p:W}:Decidable (Fits fd acc p):=decidable_of_iff _ Ck.symm
def jP (fd:abA):List W->abA->Option (abA)
 |[],acc=>some acc|p::r,acc=>if Fits fd acc p then jP fd r (acc++[(ay p).toNat]) else none
def setM (fd:abA)(w:W):Option (abA):=jP fd (a7 44 [] w) []
def lQ {x:Nat}{l:abA}:risesN (x::l)=true↔(∀y,l.head?=some y->x < y)/\risesN l=true:=by
 cases l with
 |nil=>exact⟨λ_=>⟨λ_ z=>(by cases z),rfl⟩,λ_=>rfl⟩|cons y r =>show (decide (x < y)&&risesN (y::r))=true↔_;rw[Y3,Y4];exact⟨λ⟨a,b⟩=>⟨λz e=>by injection e with e;omega,b⟩,λ⟨a,b⟩=>⟨a y rfl,b⟩⟩
def mapM_some {β:Type}{f:α->Option β}{x:α}{r:List α}{t:List β}:(x::r).mapM f=some t↔∃b s,f x=some b/\r.mapM f=some s/\t=b::s:=by
 rw[List.mapM_cons];cases h:f x with
 |none =>
  constructor
  . intro z;cases z
  rintro⟨b,s,e,_⟩;cases e
 |some b =>
  cases h2:r.mapM f with
  |none =>
   constructor
   . intro z;rw[show ((some b:Option β) >>= λb=>(none:Option (List β)) >>= λs=>pure (b::s))=none from rfl] at z;cases z
   rintro⟨b,s,_,e,_⟩;cases e
  |some s =>
   constructor
   . intro z;have z:some (b::s)=some t:=z;injection z with z;exact⟨b,s,rfl,rfl,z.symm⟩
   rintro⟨b',s',e1,e2,rfl⟩;injection e1 with e1;injection e2 with e2;subst e1 e2;rfl
theorem iY {fd:abA}(hf:∀x∈fd,x<=24):∀(ps:List Bytes) (acc s:abA),jP fd (ps.map tx) acc=some s↔∃t,ps.mapM numberOf=some t/\s=acc++t/\(∀x y,acc.getLast?=some x->t.head?=some y->x < y)/\risesN t=true/\∀x∈t,x∈fd
 |[],acc,s=>by
  show some acc=some s↔_;constructor
  . intro e;injection e with e;exact⟨[],rfl,by simp[e],λ_ _ _ z=>(by cases z),rfl,λ_ z=>(by cases z)⟩
  rintro⟨t,e,rfl,_⟩;have e:some []=some t:=e;injection e with e;subst e;simp
 |p::r,acc,s=>by
  show (if Fits fd acc (tx p) then jP fd (r.map tx) (acc++[(ay (tx p)).toNat]) else none)=some s↔_;constructor
  . intro h;split at h
    . rename_i hn;obtain⟨n,e1,e2,e3⟩:=hn;have RY:=hf n e2;have e4:=(eN (w:=p) (m:=n) (by omega)).mp e1;obtain⟨t,a1,a2,a3,a4,a5⟩:=(iY hf r _ s).mp h;have en:(ay (tx p)).toNat=n:=by omega
      rw[en] at a2 a3;refine⟨n::t,mapM_some.mpr ⟨n,t,e4,a1,rfl⟩,by rw[a2,aal];rfl,λx y hx hy=>?_,lQ.mpr ⟨λy hy=>a3 n y (by rw[List.getLast?_append];rfl) hy,a4⟩,λx hx=>?_⟩
      . injection hy with hy;subst hy;exact e3 x hx
      rcases Y0.mp hx with rfl|hx
      . exact e2
      exact a5 x hx
    cases h
  rintro⟨t,a1,a2,a3,a4,a5⟩;obtain⟨n,t',e4,Wi,rfl⟩:=mapM_some.mp a1;have e2:=a5 n (by simp);have RY:=hf n e2;have e1:=(eN (w:=p) (m:=n) (by omega)).mpr e4;rw[YY ⟨n,e1,e2,λx hx=>a3 x n hx rfl⟩];have en:(ay (tx p)).toNat=n:=by omega
  rw[en];obtain⟨r1,r2⟩:=lQ.mp a4;refine (iY hf r _ s).mpr ⟨t',Wi,by rw[a2,aal];rfl,λx y hx hy=>?_,r2,λx hx=>a5 x (by simp[hx])⟩;rw[List.getLast?_append] at hx;have hx:some n=some x:=hx;injection hx with hx;subst hx;exact r1 y hy
def Li {t:abA}(h:∀x∈t,x∈fd):t.all fd.contains=true:=by rw[Zn];intro x hx;rw[Z1];exact Zy (h x hx)
def Mr {t:abA}(h:t.all fd.contains=true):∀x∈t,x∈fd:=λx hx=>by have:=(Zn.mp h) x hx;rw[Z1] at this;exact Ze this
def Bq:setIn e fd []=.error ⟨3,e⟩:=rfl
def pU (hf:∀x∈fd,x<=24){w:Word}{r:List Word}:setIn e fd (w::r)=match setM fd (tx w.w) with
  |none=>.error ⟨4,w.at_⟩|some s=>.ok ((s,w.at_),r):=by
 have sp:a7 44 [] (tx w.w)=(splitOn 44 [] w.w).map tx:=i7 (c:=44) (by decide) w.w [];show (match (splitOn 44 [] w.w).mapM numberOf with
 |none=>(Except.error ⟨4,w.at_⟩:Except Fault ((abA×Nat)×List Word))|some s=>if risesN s=true/\s.all fd.contains=true then (pure ((s,w.at_),r):Except Fault _) else .error ⟨4,w.at_⟩)=_
 unfold setM;rw[sp];generalize splitOn 44 [] w.w=ps;cases h:jP fd (ps.map tx) [] with
 |some s =>obtain⟨t,a1,a2,_,a4,a5⟩:=(iY hf ps [] s).mp h;rw[ZP] at a2;subst a2;rw[a1];show (if risesN s=true/\s.all fd.contains=true then (pure ((s,w.at_),r):Except Fault _) else .error ⟨4,w.at_⟩)=_;rw[YY ⟨a4,Li a5⟩];rfl
 |none =>
  cases h1:ps.mapM numberOf with
  |none=>rfl|some t =>show (if risesN t=true/\t.all fd.contains=true then (pure ((t,w.at_),r):Except Fault _) else .error ⟨4,w.at_⟩)=_;rw[YX];rintro⟨b1,b2⟩;have:=(iY hf ps [] t).mpr ⟨t,h1,by simp,λ_ _ z=>(by cases z),b1,Mr b2⟩;rw[this] at h;cases h
theorem pP {fd:abA}:∀(ps:List W) (acc s:abA),jP fd ps acc=some s->ps≠[]\/acc≠[]->s≠[]
 |[],acc,s,h,hn=>by have h:some acc=some s:=h;injection h with h;subst h;simpa using hn
 |p::r,acc,s,h,_=>by
  have h:(if Fits fd acc p then jP fd r (acc++[(ay p).toNat]) else none)=some s:=h;split at h
  . exact pP r _ s h (.inr (by simp))
  cases h
theorem vL {c:Nat}:∀(l w:W),a7 c w l≠[]
 |[],w=>by show [w]≠[];simp
 |x::r,w=>by
  unfold a7;split
  . simp
  exact vL r _
def DK {l:abA}(h:risesN l=true):bS l:=by
 induction l with
 |nil=>exact List.Pairwise.nil
 |cons x r ih =>
  obtain⟨h1,h2⟩:=lQ.mp h;have ih:=ih h2;refine List.Pairwise.cons (λy hy=>?_) ih;cases r with
  |nil=>cases hy
  |cons z r =>
   have h1:=h1 z rfl;rcases Y0.mp hy with rfl|hy
   . exact h1
   have:=(aab.mp ih).1 y hy;omega
def dD (hf:∀x∈fd,x<=24){l:List Word}{x:(abA×Nat)×List Word}(h:setIn e fd l=.ok x):bz fd x.1.1/\x.1.1≠[]/\∃w,l=w::x.2/\x.1.2=w.at_/\setM fd (tx w.w)=some x.1.1:=by
 cases l with
 |nil=>cases h
 |cons w r =>
  rw[pU hf] at h;cases hs:setM fd (tx w.w) with
  |none=>rw[hs] at h;cases h|some s =>rw[hs] at h;injection h with h;subst h;have sp:a7 44 [] (tx w.w)=(splitOn 44 [] w.w).map tx:=i7 (c:=44) (by decide) w.w [];have QX:=hs;unfold setM at QX;have ne:s≠[]:=pP _ _ _ QX (.inl (vL _ _));rw[sp] at QX;obtain⟨t,_,a2,_,a4,a5⟩:=(iY hf _ _ s).mp QX;rw[ZP] at a2;subst a2;exact⟨⟨DK a4,a5⟩,ne,w,rfl,rfl,hs⟩
def CS {s:String}:must e s []=.error ⟨3,e⟩:=rfl
def tR {s:String}{w:Word}{r:List Word}:must e s (w::r)=if w.w=ascii s then .ok r else .error ⟨3,w.at_⟩:=rfl
abbrev Got:=Except Fault (abz×List Word)
def jR (e:Nat):abz->abz->List Word->Got
 |[],acc,l=>.ok (acc,l)
 |h::t,acc,l=>match (if 0 < acc.length then must e "/" l else .ok l) with
  |.error x=>.error x
  |.ok m=>match setIn e h m with
   |.error x=>.error x|.ok s=>jR e t (acc++[s.1.1]) s.2
def xG (e k:Nat)(heads:abA)(l:List Word):Got:=match setIn e heads l with
 |.error x=>.error x|.ok s=>if k<=s.1.1.length then .ok ([s.1.1],s.2) else .error ⟨4,s.1.2⟩
def sX (e k:Nat)(heads sa:abA)(m:List Word):Got:=match setIn e heads m with
 |.error x=>.error x|.ok b=>if (∀x∈b.1.1,¬x∈sa)/\k<=sa.length+b.1.1.length then .ok ([sa,b.1.1],b.2) else .error ⟨4,b.1.2⟩
def tY (e k:Nat)(heads sa:abA)(p:Nat)(r:List Word):Got:=if sa.length < k then (match must e "with" r with
  |.error x=>.error x|.ok m=>sX e k heads sa m) else .error ⟨4,p⟩
def xZ (e k:Nat)(heads:abA)(l:List Word):Got:=match setIn e heads l with
 |.error x=>.error x|.ok a=>tY e k heads a.1.1 a.1.2 a.2
def jf (x:Got):Except Fault (abz):=match x with
 |.error t=>.error t
 |.ok y=>match y.2 with
  |[]=>.ok y.1|w::_=>.error ⟨3,w.at_⟩
def Ik:boxIn e p heads l=jf (xG e p.k heads l):=by
 unfold boxIn xG;cases h:setIn e heads l with
 |error x=>rfl
 |ok s =>
  by_cases hk:p.k<=s.1.1.length
  . show (holds (decide (p.k<=s.1.1.length)) 4 s.1.2 >>= λ_=>closed s.2 >>= λ_=>pure [s.1.1])=jf (if p.k<=s.1.1.length then .ok ([s.1.1],s.2) else .error ⟨4,s.1.2⟩);rw[YY hk];unfold holds;rw[YY (Zy hk)];show (closed s.2 >>= λ_=>pure [s.1.1])=jf (.ok ([s.1.1],s.2));unfold jf;show _=(match s.2 with
     |[]=>(Except.ok [s.1.1]:Except Fault _)|w::_=>.error ⟨3,w.at_⟩)
    cases s.2 <;> rfl
  show (holds (decide (p.k<=s.1.1.length)) 4 s.1.2 >>= λ_=>closed s.2 >>= λ_=>pure [s.1.1])=jf (if p.k<=s.1.1.length then .ok ([s.1.1],s.2) else .error ⟨4,s.1.2⟩);rw[YX hk];unfold holds;rw[YX (by simpa using hk)];rfl
def Gs {a b:abA}{k:Nat}:(!(b.any λ(x:Nat)=>a.contains x)&&decide (k<=a.length+b.length))=decide ((∀x∈b,¬x∈a)/\k<=a.length+b.length):=by rw[Zx];simp
def Ip:keyIn e p heads l=jf (xZ e p.k heads l):=by
 unfold keyIn xZ;cases h:setIn e heads l with
 |error x=>rfl
 |ok a =>
  show (holds (decide (a.1.1.length < p.k)) 4 a.1.2 >>= λ_=>must e "with" a.2 >>= λm=>setIn e heads m >>= λb=>holds (!(b.1.1.any λ(x:Nat)=>a.1.1.contains x)&&decide (p.k<=a.1.1.length+b.1.1.length)) 4 b.1.2 >>= λ_=>closed b.2 >>= λ_=>pure [a.1.1,b.1.1])
   = jf (if a.1.1.length < p.k then (match must e "with" a.2 with
    |.error x=>.error x
    |.ok m=>match setIn e heads m with
     |.error x=>.error x|.ok b=>if (∀x∈b.1.1,¬x∈a.1.1)/\p.k<=a.1.1.length+b.1.1.length then .ok ([a.1.1,b.1.1],b.2) else .error ⟨4,b.1.2⟩) else .error ⟨4,a.1.2⟩)
  by_cases hk:a.1.1.length < p.k
  . rw[YY hk];unfold holds;rw[YY (Zy hk)];cases hm:must e "with" a.2 with
    |error x=>rfl
    |ok m =>
     show (setIn e heads m >>= λb=>(if (!(b.1.1.any λ(x:Nat)=>a.1.1.contains x)&&decide (p.k<=a.1.1.length+b.1.1.length))=true then Except.ok () else .error ⟨4,b.1.2⟩) >>= λ_=>closed b.2 >>= λ_=>pure [a.1.1,b.1.1])=jf (match setIn e heads m with
      |.error x=>.error x|.ok b=>if (∀x∈b.1.1,¬x∈a.1.1)/\p.k<=a.1.1.length+b.1.1.length then .ok ([a.1.1,b.1.1],b.2) else .error ⟨4,b.1.2⟩)
     cases hb:setIn e heads m with
     |error x=>rfl
     |ok b =>
      show ((if (!(b.1.1.any λ(x:Nat)=>a.1.1.contains x)&&decide (p.k<=a.1.1.length+b.1.1.length))=true then Except.ok () else .error ⟨4,b.1.2⟩) >>= λ_=>closed b.2 >>= λ_=>pure [a.1.1,b.1.1])=jf (if (∀x∈b.1.1,¬x∈a.1.1)/\p.k<=a.1.1.length+b.1.1.length then .ok ([a.1.1,b.1.1],b.2) else .error ⟨4,b.1.2⟩);rw[Gs];by_cases hq:(∀x∈b.1.1,¬x∈a.1.1)/\p.k<=a.1.1.length+b.1.1.length
      . rw[YY hq,YY (Zy hq)];show (closed b.2 >>= λ_=>pure [a.1.1,b.1.1])=(match b.2 with
         |[]=>Except.ok [a.1.1,b.1.1]|w::_=>.error ⟨3,w.at_⟩)
        cases b.2 <;> rfl
      rw[YX hq,YX (by rw[Y4];exact hq)];rfl
  rw[YX hk];unfold holds;rw[YX (by simpa using hk)];rfl
def my (acc:abz)(x:Except Fault (abz)):Except Fault (abz):=match x with
 |.error t=>.error t|.ok y=>.ok (acc++y)
theorem Ce {e:Nat}:∀(fs acc:abz) (l:List Word),acc≠[]->fs≠[]->jf (jR e fs acc l)=my acc (must e "/" l >>= λm=>setsIn e fs m)
 |[],_,_,_,h=>absurd rfl h
 |h::t,acc,l,ha,_=>by
  have hl:0 < acc.length:=ZY.mpr ha;unfold jR;rw[YY hl];cases hm:must e "/" l with
  |error x=>rfl
  |ok m =>
   show jf (match setIn e h m with
    |.error x=>.error x|.ok s=>jR e t (acc++[s.1.1]) s.2)=my acc (setsIn e (h::t) m)
   cases t with
   |nil =>
    show _=my acc (setIn e h m >>= λs=>closed s.2 >>= λ_=>pure [s.1.1]);cases hs:setIn e h m with
    |error x=>rfl
    |ok s =>
     show jf (.ok (acc++[s.1.1],s.2))=my acc (closed s.2 >>= λ_=>pure [s.1.1]);unfold jf;show (match s.2 with
      |[]=>(Except.ok (acc++[s.1.1]):Except Fault _)|w::_=>.error ⟨3,w.at_⟩)=_
     cases s.2 <;> rfl
   |cons h2 t2 =>
    show _=my acc (setIn e h m >>= λs=>must e "/" s.2 >>= λm=>setsIn e (h2::t2) m >>= λr=>pure (s.1.1::r));cases hs:setIn e h m with
    |error x=>rfl
    |ok s =>
     show jf (jR e (h2::t2) (acc++[s.1.1]) s.2)=my acc (must e "/" s.2 >>= λm=>setsIn e (h2::t2) m >>= λr=>pure (s.1.1::r));rw[Ce (h2::t2) (acc++[s.1.1]) s.2 (by simp) (by simp)];cases must e "/" s.2 with
     |error x=>rfl
     |ok m2 =>
      show my _ (setsIn e (h2::t2) m2)=my acc (setsIn e (h2::t2) m2 >>= λr=>pure (s.1.1::r));cases setsIn e (h2::t2) m2 with
      |error x=>rfl|ok r =>show Except.ok (acc++[s.1.1]++r)=Except.ok (acc++(s.1.1::r));rw[aal];rfl
def Kn {fs:abz}:setsIn e fs l=jf (jR e fs [] l):=by
 cases fs with
 |nil =>
  show (closed l).map (λ(_:Unit)=>[])=(match l with
   |[]=>Except.ok []|w::_=>.error ⟨3,w.at_⟩)
  cases l <;> rfl
 |cons h t =>
  show _=jf (match setIn e h l with
   |.error x=>.error x|.ok s=>jR e t ([]++[s.1.1]) s.2)
  cases t with
  |nil =>
   show (setIn e h l >>= λs=>closed s.2 >>= λ_=>pure [s.1.1])=_;cases hs:setIn e h l with
   |error x=>rfl
   |ok s =>
    show (closed s.2 >>= λ_=>pure [s.1.1])=(match s.2 with
     |[]=>Except.ok ([]++[s.1.1])|w::_=>.error ⟨3,w.at_⟩)
    cases s.2 <;> rfl
  |cons h2 t2 =>
   show (setIn e h l >>= λs=>must e "/" s.2 >>= λm=>setsIn e (h2::t2) m >>= λr=>pure (s.1.1::r))=_;cases hs:setIn e h l with
   |error x=>rfl
   |ok s =>
    show (must e "/" s.2 >>= λm=>setsIn e (h2::t2) m >>= λr=>pure (s.1.1::r))=jf (jR e (h2::t2) ([]++[s.1.1]) s.2);rw[Ce (h2::t2) ([]++[s.1.1]) s.2 (by simp) (by simp)];cases must e "/" s.2 with
    |error x=>rfl
    |ok m2 =>
     show (setsIn e (h2::t2) m2 >>= λr=>pure (s.1.1::r))=my _ (setsIn e (h2::t2) m2);cases setsIn e (h2::t2) m2 with
     |error x=>rfl|ok r=>rfl
structure CQ (p:aK):Prop where
 ne:p.fields≠[]
 len:p.fields.length<=24
 hi:∀fd∈p.fields,∀x∈fd,x<=24
 unit:1<=p.unit
 six:p.fields.length<=6
 BM:p.kind=.any->p.fields.length<=3
 lo:∀fd∈p.fields,∀x∈fd,1<=x
 LC:p.kind=.order->p.fields.length<=4
 LN:p.kind≠.legs->∀fd∈p.fields,fd≠[]
 rise:∀fd∈p.fields,bS fd
def fW (e:Nat)(p:aK)(how:Nat)(l:List Word):Got:=if how=0 then jR e p.fields [] l else if how=1 then xG e p.fields.length (p.fields.getD 0 []) l else xZ e p.fields.length (p.fields.getD 0 []) l
def cX (p:aK):Bool:=p.kind==.order||p.kind==.any
def jO (p:aK)(w:Bytes):Option Nat:=if w=ascii "on" then some 0 else if w=ascii "box"/\cX p=true then some 1 else if w=ascii "key"/\cX p=true then some 2 else none
def ej (ps:List aK)(w:W):Option Nat:=ps.findIdx? λp=>p.name==w
def cb (n:Nat):How:=if n=0 then .on else if n=1 then .box else .key
structure bQ where
 pool:Nat
 how:Nat
 stake:Nat
 sets:abz
structure sy (p:aK)(how:Nat)(sets:abz):Prop where
 ok:CQ p
 way:how=0\/cX p=true
 read:∃e l r,fW e p how l=.ok (sets,r)
def fg (u:Nat)(w:W):Prop:=1<=ay w/\ay w<=1000000/\ay w % (u:Int)=0
instance {u:Nat}{w:W}:Decidable (fg u w):=by unfold fg;exact inferInstance
def Hw (i how stake hp sp:Nat)(p:aK)(sets:abz):Except Fault bQ :=
 if countM p.kind (cb how) p.fields.length sets=0 then .error ⟨6,hp⟩ else if 2147483647 < stake*countM p.kind (cb how) p.fields.length sets then .error ⟨7,sp⟩ else .ok ⟨i,how,stake,sets⟩
def xu (e i how stake hp sp:Nat)(p:aK)(x:Got):Except Fault bQ:=match jf x with
 |.error t=>.error t|.ok sets=>Hw i how stake hp sp p sets
def Kw (e i:Nat)(p:aK)(stake sp:Nat):List Word->Except Fault bQ
 |[]=>.error ⟨3,e⟩
 |hw::r=>match jO p hw.w with
  |none=>.error ⟨3,hw.at_⟩|some how=>xu e i how stake hw.at_ sp p (fW e p how r)
def JP (e i:Nat)(p:aK):List Word->Except Fault bQ
 |[]=>.error ⟨3,e⟩|sw::r=>if fg p.unit (tx sw.w) then Kw e i p (ay (tx sw.w)).toNat sw.at_ r else .error ⟨4,sw.at_⟩
def Df (e i:Nat)(p:aK)(l:List Word):Except Fault bQ:=match must e "for" l with
 |.error t=>.error t|.ok m=>JP e i p m
def KP (e:Nat)(ps:List aK):List Word->Except Fault bQ
 |[]=>.error ⟨3,e⟩
 |n::r=>match ej ps (tx n.w) with
  |none=>.error ⟨5,n.at_⟩
  |some i=>match ps[i]? with
   |none=>.error ⟨5,n.at_⟩|some p=>Df e i p r
def Ct (e:Nat)(ps:List aK)(l:List Word):Except Fault bQ:=match must e "bet" l with
 |.error t=>.error t|.ok m=>KP e ps m
def yY {ps:List aK}{w:W}(h:ej ps w=some i):i < ps.length:=by unfold ej at h;rw[aa5] at h;exact h.1
def wZ {v:Bytes}(h:isName v=true):∀c∈v,vw c.toNat=true:=λc hc=>by rw[<-kI] at h;have h2:=kJ h;have:sg c.toNat∈tx v:=Zr.mpr ⟨c,hc,rfl⟩;have h3:=h2.2 _ this;rw[rH,qy] at h3;unfold vw;rw[h3];rfl
def Gz (o:bO C)(v:Bytes):ej (C.pools.map (az C)) (tx v)=C.pools.findIdx? λp=>p.name==v:=by
 unfold ej;rw[List.findIdx?_map];have:∀(l:List Pool),(∀p∈l,isName p.name=true)->List.findIdx? ((λp=>p.name==tx v) ∘ az C) l=l.findIdx? λp=>p.name==v:=λl=>by
  induction l with
  |nil=>intro _;rfl
  |cons p r ih =>
   intro hn;rw[List.findIdx?_cons,List.findIdx?_cons,ih λq hq=>hn q (by simp[hq])];have e:((λp=>p.name==tx v) ∘ az C) p=(p.name==v):=by
    show (tx p.name==tx v)=_;rw[Zx,ZK,ZK];constructor
    . intro z;have:=(tm (v:=p.name) (w:=v) (wZ (hn p (by simp)))).mp;have e2:tx p.name=p.name.map UInt8.toNat:=(tm (v:=p.name) (w:=p.name) (wZ (hn p (by simp)))).mpr rfl;exact (this (by rw[<-z,e2])).symm
    intro z;rw[z]
   rw[e]
 exact this C.pools λp hp=>(o.pools p hp).name
def fD (o:bO C){r:Nat}(h1:1<=r)(h2:r<=C.races.length):cK (C.headsOf r):=by unfold Card.headsOf;rw[Y6 (by omega)];exact o.heads _ (aaJ _)
def eT (h:p.kind=.order\/p.kind=.any):p.places=p.k:=by unfold Pool.places;rw[YX];rcases h with h|h <;> rw[h] <;> decide
def cP (h:cS C p)(hk:p.kind≠.legs):fieldsOf C p=List.replicate p.places (C.headsOf p.race):=by unfold fieldsOf;rw[YX hk]
def ue {k:Kind}:mostK k<=6:=by cases k <;> decide
def lP (h:cS C p):1<=p.places:=by
 unfold Pool.places;split
 . exact Y5 _
 have:=h.J2;have:1<=leastK p.kind:=by cases p.kind <;> decide
 omega
def Bs (h:cS C p):p.places<=6:=by
 unfold Pool.places;split
 . decide
 have:=h.GX;have:=ue (k:=p.kind);omega
def Mq (o:bO C){p:Pool}(h:cS C p):CQ (az C p):=by
 have hu:=h.unit;by_cases hk:p.kind=.legs
 . have e:(az C p).fields=((rh C).drop (p.race - 1)).take p.k:=by
    show fieldsOf C p=_;unfold fieldsOf;rw[YY hk];exact tG C p hk h.Bl (h.legs hk)
   have hl:=h.legs hk;have hr:=h.Bl;have RZ:=h.J2;have hm:2<=p.k:=by rw[hk] at RZ;exact RZ
   have hn:(rh C).length=C.races.length:=by unfold rh;rw[YW]
   have hlen:(az C p).fields.length=p.k:=by rw[e,Zh,ZM];omega
   have of:∀fd∈(az C p).fields,cK fd:=λfd hf=>by rw[e] at hf;have:fd∈rh C:=aar (aaz hf);unfold rh at this;obtain⟨r,hr,rfl⟩:=Zr.mp this;exact o.heads r hr
   refine⟨λz=>by rw[z] at hlen;simp at hlen;omega,by have:=h.GX;have:=ue (k:=p.kind);omega,λfd hf x hx=>?_,hu,by have:=h.GX;have:=ue (k:=p.kind);omega,λz=>(by have z:p.kind=.any:=z;rw[hk] at z;cases z),λfd hf x hx=>(of fd hf).lo x hx,λz=>(by have z:p.kind=.order:=z;rw[hk] at z;cases z),λz=>absurd hk z,λfd hf=>(of fd hf).rise⟩;exact (of fd hf).hi x hx
 have e:(az C p).fields=List.replicate p.places (C.headsOf p.race):=cP h hk;have p1:=lP h;have p2:=Bs h;have of:∀fd∈(az C p).fields,cK fd:=λfd hf=>by rw[e] at hf;rw[ZV hf];exact fD o h.Bl h.IY
 refine⟨λz=>by rw[z] at e;have:=Z0 List.length e;simp at this;omega,by rw[e,Zs];omega,λfd hf x hx=>?_,hu,by rw[e,Zs];omega,λz=>by
  have z:p.kind=.any:=z;rw[e,Zs,eT (.inr z)];have:=h.GX;rw[z] at this;exact this,λfd hf x hx=>(of fd hf).lo x hx,λz=>by
  have z:p.kind=.order:=z;rw[e,Zs,eT (.inl z)];have:=h.GX;rw[z] at this;exact this,λ_ fd hf z=>by
  rw[e] at hf;rw[ZV hf] at z;have f:=h.xr hk;rw[z] at f;have l:=h.J2;have:1<=leastK p.kind:=by cases p.kind <;> decide
  have f:p.k<=0:=f;omega,λfd hf=>(of fd hf).rise⟩
 exact (of fd hf).hi x hx
theorem qM {e:Nat}:∀(fs acc:abz) (l:List Word) (s:abz) (r:List Word),(∀fd∈fs,∀x∈fd,x<=24)->jR e fs acc l=.ok (s,r)->s.length=acc.length+fs.length/\(∀x∈s,x∈acc\/∃fd∈fs,bz fd x/\x≠[])/\(∀x∈acc,x∈s)/\∀fd∈fs,∃x∈s,bz fd x/\x≠[]
 |[],acc,l,s,r,_,h=>by have h:(Except.ok (acc,l):Got)=.ok (s,r):=h;injection h with h;injection h with h1 h2;subst h1;exact⟨rfl,λx hx=>.inl hx,λx hx=>hx,λfd hf=>by cases hf⟩
 |f::fs,acc,l,s,r,hf,h=>by
  have h:(match (if 0 < acc.length then must e "/" l else .ok l) with
   |.error x=>(Except.error x:Got)
   |.ok m=>match setIn e f m with
    |.error x=>.error x|.ok s=>jR e fs (acc++[s.1.1]) s.2)=.ok (s,r):=h
  cases hm:(if 0 < acc.length then must e "/" l else .ok l) with
  |error x=>rw[hm] at h;cases h
  |ok m =>
   rw[hm] at h;have h:(match setIn e f m with
    |.error x=>(Except.error x:Got)|.ok s=>jR e fs (acc++[s.1.1]) s.2)=.ok (s,r):=h
   have ef:=hf f (by simp);cases hs:setIn e f m with
   |error x=>rw[hs] at h;cases h
   |ok y =>
    rw[hs] at h;obtain⟨g,ne,_⟩:=dD ef hs;obtain⟨i1,i2,i3,i4⟩:=qM fs (acc++[y.1.1]) y.2 s r (λfd NO=>hf fd (by simp[NO])) h;refine⟨by rw[i1];simp;omega,λx hx=>?_,λx hx=>i3 x (by simp[hx]),λfd NO=>?_⟩
    . rcases i2 x hx with z|⟨fd,NO,z⟩
      . rcases ZJ.mp z with z|z
        . exact .inl z
        rw[Y_] at z;subst z;exact .inr ⟨f,by simp,g,ne⟩
      exact .inr ⟨fd,by simp[NO],z⟩
    rcases Y0.mp NO with rfl|NO
    . exact⟨y.1.1,i3 _ (by simp),g,ne⟩
    exact i4 fd NO
def Eb (Ob:∀x∈heads,x<=24)(fs acc:abz)(l:List Word)(s:abz)(r:List Word)(hf:∀fd∈fs,fd=heads)(h:jR e fs acc l=.ok (s,r)):s.length=acc.length+fs.length/\∀x∈s,x∈acc\/bz heads x:=by obtain⟨h1,h2,_⟩:=qM fs acc l s r (λfd NO=>by rw[hf fd NO];exact Ob) h;exact⟨h1,λx hx=>(h2 x hx).imp id λ⟨fd,NO,g,_⟩=>by rwa [hf fd NO] at g⟩
def ze {k:Nat}(Ob:∀x∈heads,x<=24){l r:List Word}{s:abz}(h:xG e k heads l=.ok (s,r)):∃t,s=[t]/\k<=t.length/\bz heads t:=by
 unfold xG at h;cases hs:setIn e heads l with
 |error x=>rw[hs] at h;cases h
 |ok y =>
  rw[hs] at h;have h:(if k<=y.1.1.length then (Except.ok ([y.1.1],y.2):Got) else .error ⟨4,y.1.2⟩)=.ok (s,r):=h;split at h
  . rename_i hk;injection h with h;injection h with h1 h2;exact⟨_,h1.symm,hk,(dD Ob hs).1⟩
  cases h
def zx {k:Nat}(Ob:∀x∈heads,x<=24){l r:List Word}{s:abz}(h:xZ e k heads l=.ok (s,r)):∃a b,s=[a,b]/\a.length < k/\(∀x∈b,¬x∈a)/\k<=a.length+b.length/\bz heads a/\bz heads b/\a≠[]:=by
 unfold xZ at h;cases hs:setIn e heads l with
 |error x=>rw[hs] at h;cases h
 |ok y =>
  rw[hs] at h;have h:tY e k heads y.1.1 y.1.2 y.2=.ok (s,r):=h;unfold tY at h;split at h
  . rename_i hk;cases hm:must e "with" y.2 with
    |error x=>rw[hm] at h;cases h
    |ok m =>
     rw[hm] at h;have h:sX e k heads y.1.1 m=.ok (s,r):=h;unfold sX at h;cases hb:setIn e heads m with
     |error x=>rw[hb] at h;cases h
     |ok z =>
      rw[hb] at h;have h:(if (∀x∈z.1.1,¬x∈y.1.1)/\k<=y.1.1.length+z.1.1.length then (Except.ok ([y.1.1,z.1.1],z.2):Got) else .error ⟨4,z.1.2⟩)=.ok (s,r):=h;split at h
      . rename_i hq;injection h with h;injection h with h1 h2;exact⟨_,_,h1.symm,hk,hq.1,hq.2,(dD Ob hs).1,(dD Ob hb).1,(dD Ob hs).2.1⟩
      cases h
  cases h
def nI (h:bS s)(Ob:∀x∈s,x<=24):s.length<=25:=by have:=fM (m:=List.range 25) h.nodup λx hx=>aaG.mpr (by have:=Ob x hx;omega);simpa using this
structure D5 (ss:abz):Prop where
 len:ss.length<=6
 good:∀s∈ss,bS s/\∀x∈s,x<=24
 lo:∀s∈ss,∀x∈s,1<=x
structure oZ (kd:Kind)(gs:List (abz)):Prop where
 ne:gs≠[]
 xr:gs.length<=4096
 ok:∀g∈gs,D5 g
 any:kd=.any->∀g∈gs,g.length<=3
def vt {p:aK}(o:CQ p):p.fields.getD 0 []∈p.fields:=by
 have hl:0 < p.fields.length:=ZY.mpr o.ne;have eg:p.fields.getD 0 []=p.fields[0]:=by rw[ZD,Y6 hl];rfl
 rw[eg];exact aaJ hl
def sy.all {p:aK}(m:sy p how sets):(∀s∈sets,s≠[]/\∃fd∈p.fields,bz fd s)/\(how=0->sets.length=p.fields.length/\∀fd∈p.fields,fd≠[])/\(how=1->∃t,sets=[t]/\p.fields.length<=t.length)/\(how≠0->how≠1->∃a b,sets=[a,b]/\a.length < p.fields.length/\(∀x∈b,¬x∈a)/\p.fields.length<=a.length+b.length):=by
 obtain⟨e,l,r,hr⟩:=m.read;unfold fW at hr;by_cases h0:how=0
 . rw[YY h0] at hr;obtain⟨h1,h2,_,h4⟩:=qM _ [] l sets r m.ok.hi hr;refine⟨λs hs=>?_,λ_=>⟨by simpa using h1,λfd hf z=>?_⟩,λz=>by omega,λz=>absurd h0 z⟩
   . obtain⟨fd,hf,g,ne⟩:=(h2 s hs).resolve_left (by simp);exact⟨ne,fd,hf,g⟩
   obtain⟨s,_,g,ne⟩:=h4 fd hf;obtain⟨x,hx⟩:=List.exists_mem_of_ne_nil s ne;have:=g.sub x hx;rw[z] at this;cases this
 rw[YX h0] at hr;have f:=m.ok.hi _ (vt m.ok);by_cases h1:how=1
 . rw[YY h1] at hr;obtain⟨t,rfl,h2,g⟩:=ze f hr;have pos:0 < p.fields.length:=ZY.mpr m.ok.ne;exact⟨λs hs=>by rw[Y_.mp hs];exact⟨λz=>by rw[z] at h2;have h2:p.fields.length<=0:=h2;omega,_,vt m.ok,g⟩,λz=>absurd z h0,λ_=>⟨t,rfl,h2⟩,λ_ z=>absurd h1 z⟩
 rw[YX h1] at hr;obtain⟨a,b,rfl,z2,z3,z4,g1,g2,g3⟩:=zx f hr;refine⟨λs hs=>?_,λz=>absurd z h0,λz=>absurd z h1,λ_ _=>⟨a,b,rfl,z2,z3,z4⟩⟩;rcases Y0.mp hs with e|e
 . rw[e];exact⟨g3,_,vt m.ok,g1⟩
 rw[Y_.mp e];exact⟨λz=>by rw[z] at z4;simp at z4;omega,_,vt m.ok,g2⟩
def sy.good {p:aK}(m:sy p how sets):∀s∈sets,bS s/\(∀x∈s,x<=24)/\∀x∈s,1<=x:=λs hs=>by obtain⟨_,fd,hf,g⟩:=m.all.1 s hs;exact⟨g.rise,λx hx=>m.ok.hi fd hf x (g.sub x hx),λx hx=>m.ok.lo fd hf x (g.sub x hx)⟩
theorem uE {a:Nat}{B:abA}:∀g:abz,(jS a B g).length<=g.length
 |[]=>Y5 _
 |s::g=>by
  have:=uE (a:=a) (B:=B) g;show ((if s==B then [[a]::g] else [])++(jS a B g).map λr=>s::r).length<=_;rw[Zg,YW,Y7];split
  . show 1+_<=_;omega
  show 0+_<=_;omega
theorem rq {α β:Type}{f:α->List β}{c:Nat}:∀{l:List α},(∀x∈l,(f x).length<=c)->(l.flatMap f).length<=l.length*c
 |[],_=>Zo _|x::l,h=>by rw[aa_,Zg,Y7,Nat.succ_mul];have:=h x (by simp);have:=rq (l:=l) λy hy=>h y (by simp[hy]);omega
theorem nZ {B:abA}{k:Nat}:∀{A:abA} {gs:List (abz)},(∀g∈gs,g.length=k)->(bA B A gs).length<=gs.length*k ^ A.length
 |[],gs,_=>by simp[bA]
 |a::A,gs,h=>by
  have ih:=nZ (B:=B) (A:=A) (gs:=gs.flatMap (jS a B)) (k:=k) λg hg=>by obtain⟨g0,h0,hr⟩:=aaW.mp hg;rw[(pz hr).1,h g0 h0]
  have l1:(gs.flatMap (jS a B)).length<=gs.length*k:=rq λg hg=>by rw[<-h g hg];exact uE g
  show (bA B A (gs.flatMap (jS a B))).length<=_;rw[Y7,aaV,aa6 (k ^ A.length) k,<-Nat.mul_assoc];exact ZH ih (Nat.mul_le_mul_right _ l1)
def EA {t:abA}{k:Nat}(h6:k<=6)(g:bS t/\(∀x∈t,x<=24)/\∀x∈t,1<=x):D5 (List.replicate k t) :=
 ⟨by rw[Zs];exact h6,λs hs=>by rw[ZV hs];exact⟨g.1,g.2.1⟩,λs hs=>by rw[ZV hs];exact g.2.2⟩
theorem oZ.bA {kd:Kind}{A B:abA}{k:Nat}(gA:bS A/\(∀x∈A,x<=24)/\∀x∈A,1<=x)(gB:bS B/\(∀x∈B,x<=24)/\∀x∈B,1<=x)(Na:∀x∈B,¬x∈A)(hA:A.length < k)(h4:k<=4)(h3:kd=.any->k<=3):oZ kd (bA B A [List.replicate k B]):=by
 obtain⟨h1,h2⟩:=jg (B:=B) (k:=k) (A:=A) (had:=[]) (gs:=[List.replicate k B]) (λx hx m=>Na x m (by simpa using hx)) (by simpa using gA.1.nodup) (by simp) (λg hg=>by rw[Y_] at hg;subst hg;exact⟨by simp,λs hs=>.inl (ZV hs),by simp⟩)
 obtain⟨q,e⟩:=md (B:=B) (A:=A) (P:=[]) (j:=k) (rest:=[]) (λx hx m=>Na x m (by simpa using hx)) (by omega);rw[aah,ZP,ZP] at e;rw[ZP] at h2;have len:=nZ (B:=B) (A:=A) (k:=k) (gs:=[List.replicate k B]) (λg hg=>by rw[Y_.mp hg,Zs]);have pw:k ^ A.length<=4 ^ 3:=ZH (Nat.pow_le_pow_left h4 _) (aaT (by decide) (by omega));have is:∀g∈Bw.bA B A [List.replicate k B],∀s∈g,bS s/\(∀x∈s,x<=24)/\∀x∈s,1<=x:=λg hg s hs=>by
  rcases (h2 g hg).are s hs with rfl|⟨a,ha,rfl⟩
  . exact gB
  exact⟨by simp,λx hx=>by rw[Y_.mp hx];exact gA.2.1 a ha,λx hx=>by rw[Y_.mp hx];exact gA.2.2 a ha⟩
 refine⟨by rw[e];simp,by rw[Z7,Nat.one_mul] at len;omega,λg hg=>⟨by rw[(h2 g hg).len];omega,λs hs=>⟨(is g hg s hs).1,(is g hg s hs).2.1⟩,λs hs=>(is g hg s hs).2.2⟩,λz g hg=>by rw[(h2 g hg).len];exact h3 z⟩
def sy.k4 {p:aK}(m:sy p how sets)(h0:how≠0):p.fields.length<=4:=by
 have w:=m.way.resolve_left h0;unfold cX at w;rw[ZU] at w;rcases w with w|w
 . exact m.ok.LC (aam w)
 exact Nat.le_succ_of_le (m.ok.BM (aam w))
def oZ.cut (o:oZ kd gs):oZ kd (gs.take 1) :=
 ⟨λz=>o.ne (by simpa using z),by have:=o.xr;rw[Zh];omega,λg hg=>o.ok g (aaz hg),λz g hg=>o.any z g (aaz hg)⟩
def sy.Ha {p:aK}(m:sy p how sets):oZ p.kind (dY p.kind (cb how) p.fields.length sets):=by
 obtain⟨_,h0,h1,h2⟩:=m.all;have good:=m.good;have one:∀{ss:abz},D5 ss->(p.kind=.any->ss.length<=3)->oZ p.kind [ss]:=λo h=>⟨by simp,by show 1<=4096;decide,λg hg=>by rw[Y_.mp hg];exact o,λz g hg=>by rw[Y_.mp hg];exact h z⟩;unfold cb;by_cases z0:how=0
 . rw[YY z0];have hl:=(h0 z0).1;exact one ⟨by rw[hl];exact m.ok.six,λs hs=>⟨(good s hs).1,(good s hs).2.1⟩,λs hs=>(good s hs).2.2⟩ λz=>by rw[hl];exact m.ok.BM z
 rw[YX z0];have k4:=m.k4 z0;by_cases z1:how=1
 . rw[YY z1];obtain⟨t,rfl,_⟩:=h1 z1;exact one (EA m.ok.six (good t (by simp))) λz=>by rw[Zs];exact m.ok.BM z
 rw[YX z1];obtain⟨a,b,rfl,q1,q2,q3⟩:=h2 z0 z1;have G:oZ p.kind (Bw.bA b a [List.replicate p.fields.length b]):=oZ.bA (good a (by simp)) (good b (by simp)) q2 q1 k4 m.ok.BM;show oZ p.kind (if p.kind=.any then (Bw.bA b a [List.replicate p.fields.length b]).take 1 else Bw.bA b a [List.replicate p.fields.length b]);split
 . exact G.cut
 exact G
theorem sy.LN {p:aK}{how:Nat}{sets:abz}(m:sy p how sets):∀fd∈p.fields,fd≠[]:=by
 by_cases hk:p.kind=.legs
 . refine (m.all.2.1 (m.way.resolve_right λw=>?_)).2;unfold cX at w;rw[hk] at w;cases w
 exact m.ok.LN hk
def sy.Mv {p:aK}(m:sy p how sets):∀g∈dY p.kind (cb how) p.fields.length sets,g≠[]/\∀s∈g,s≠[]:=by
 obtain⟨ha,h0,h1,h2⟩:=m.all;have pos:0 < p.fields.length:=ZY.mpr m.ok.ne;unfold cb;intro g hg;by_cases z0:how=0
 . rw[YY z0] at hg;have e:g=sets:=Y_.mp hg;subst e;exact⟨λz=>by have:=(h0 z0).1;rw[z] at this;simp at this;omega,λs hs=>(ha s hs).1⟩
 rw[YX z0] at hg;by_cases z1:how=1
 . rw[YY z1] at hg;obtain⟨t,rfl,_⟩:=h1 z1;have e:g=List.replicate p.fields.length t:=Y_.mp hg;subst e;exact⟨λz=>by have:=Z0 List.length z;rw[Zs] at this;have:p.fields.length=0:=this;omega,λs hs=>by rw[ZV hs];exact (ha t (by simp)).1⟩
 rw[YX z1] at hg;obtain⟨a,b,rfl,q1,q2,q3⟩:=h2 z0 z1;have hg:g∈Bw.bA b a [List.replicate p.fields.length b]:=by
  have hg:g∈(if p.kind=.any then (Bw.bA b a [List.replicate p.fields.length b]).take 1 else Bw.bA b a [List.replicate p.fields.length b]):=hg;split at hg
  . exact aaz hg
  exact hg
 have G:=(jg (B:=b) (k:=p.fields.length) (A:=a) (had:=[]) (gs:=[List.replicate p.fields.length b]) (λx hx m=>q2 x m (by simpa using hx)) (by simpa using (m.good a (by simp)).1.nodup) (by simp) (λg hg=>by rw[Y_] at hg;subst hg;exact⟨by simp,λs hs=>.inl (ZV hs),by simp⟩)).2 g hg
 refine⟨λz=>by have:=G.len;rw[z] at this;simp at this;omega,λs hs=>?_⟩;rcases G.are s hs with rfl|⟨x,_,rfl⟩
 . exact (ha s (by simp)).1
 simp
def C8:cb h=.box↔h=1:=by
 unfold cb;by_cases h0:h=0
 . rw[YY h0];constructor
   . intro z;cases z
   intro z;omega
 rw[YX h0];by_cases h1:h=1
 . rw[YY h1];simp[h1]
 rw[YX h1];constructor
 . intro z;cases z
 intro z;exact absurd z h1
def s_:cb h=.on↔h=0:=by
 unfold cb;by_cases h0:h=0
 . rw[YY h0];simp[h0]
 rw[YX h0];by_cases h1:h=1
 . rw[YY h1];constructor
   . intro z;cases z
   intro z;omega
 rw[YX h1];constructor
 . intro z;cases z
 intro z;exact absurd z h0
def CT:cb h=.key↔h≠0/\h≠1:=by
 unfold cb;by_cases h0:h=0
 . rw[YY h0];constructor
   . intro z;cases z
   intro z;exact absurd h0 z.1
 rw[YX h0];by_cases h1:h=1
 . rw[YY h1];constructor
   . intro z;cases z
   intro z;exact absurd h1 z.2
 rw[YX h1];simp[h0,h1]
def gM:cX (az C p)=true↔p.kind=.order\/p.kind=.any:=by show (p.kind==.order||p.kind==.any)=true↔_;cases p.kind <;> decide
def vI {x d:α}(h:1<=n):(List.replicate n x).getD 0 d=x:=by
 cases n with
 |zero=>omega|succ n=>rfl
def wF (o:bO C){i:Nat}{p:Pool}(hi:C.pool i=p)(hP:cS C p){how stake e:Nat}{l r:List Word}{sets:abz}(way:how=0\/cX (az C p)=true)(h:fW e (az C p) how l=.ok (sets,r)):oJ C ⟨i,cb how,sets,stake⟩ p:=by
 have nm:p.kind≠.legs->fieldsOf C p=List.replicate p.places (C.headsOf p.race):=cP hP;have gh:=fD o hP.Bl hP.IY;unfold fW at h;have PY:p.kind=.place\/p.kind=.legs->how=0:=λz=>by
  rcases way with w|w
  . exact w
  rw[gM] at w;rcases z with z|z <;> rcases w with w|w <;> rw[z] at w <;> cases w
 have PZ:how≠0->(az C p).fields.getD 0 []=C.headsOf p.race/\(az C p).fields.length=p.k:=λhn=>by
  have w:p.kind=.order\/p.kind=.any:=by
   rcases way with w|w
   . exact absurd w hn
   exact gM.mp w
  have hl:p.kind≠.legs:=by rcases w with w|w <;> rw[w] <;> decide
  have e:(az C p).fields=List.replicate p.places (C.headsOf p.race):=nm hl;rw[e,Zs];exact⟨vI (lP hP),eT w⟩
 have OU:how=0->p.kind≠.legs->sets.length=p.places/\∀s∈sets,bz (C.headsOf p.race) s:=λhz hl=>by rw[YY hz] at h;have e:(az C p).fields=List.replicate p.places (C.headsOf p.race):=nm hl;rw[e] at h;obtain⟨h1,h2⟩:=Eb gh.hi _ [] l sets r (λfd hf=>ZV hf) h;rw[Zs] at h1;exact⟨by simpa using h1,λs hs=>(h2 s hs).resolve_left (by simp)⟩
 have Oy:how=1->∃t,sets=[t]/\p.k<=t.length/\bz (C.headsOf p.race) t:=λhz=>by obtain⟨f1,f2⟩:=PZ (by omega);rw[YX (by omega),YY hz,f1,f2] at h;exact ze gh.hi h
 have keyOk:how≠0->how≠1->∃a b,sets=[a,b]/\a.length < p.k/\(∀x∈b,¬x∈a)/\p.k<=a.length+b.length/\bz (C.headsOf p.race) a/\bz (C.headsOf p.race) b:=λh0 h1=>by obtain⟨f1,f2⟩:=PZ h0;rw[YX h0,YX h1,f1,f2] at h;obtain⟨a,b,z1,z2,z3,z4,z5,z6,_⟩:=zx gh.hi h;exact⟨a,b,z1,z2,z3,z4,z5,z6⟩
 refine⟨hi,λ_=>gh,λh1 h2=>?_,λh1 s hs=>?_,λh1=>?_,λh1=>s_.mpr (PY (.inr h1)),λh1 h2 h3=>?_,λh1=>?_,λh1=>?_⟩
 . refine⟨?_,hP.GX⟩;have:=hP.J2;have e2:leastK p.kind=2:=by
    cases hk:p.kind with
    |place=>exact absurd hk h2|order=>rfl|any=>rfl|legs=>exact absurd hk h1
   omega
 . by_cases z0:how=0
   . exact (OU z0 h1).2 s hs
   by_cases z1:how=1
   . obtain⟨t,e,_,g⟩:=Oy z1;have hs:s∈sets:=hs;rw[e,Y_] at hs;subst hs;exact g
   obtain⟨a,b,e,_,_,_,g1,g2⟩:=keyOk z0 z1;have hs:s∈sets:=hs;rw[e] at hs;rcases Y0.mp hs with rfl|hs
   . exact g1
   rw[Y_] at hs;subst hs;exact g2
 . have z0:=PY (.inl h1);refine⟨s_.mpr z0,?_⟩;have:=(OU z0 (by rw[h1];decide)).1;rw[show p.places=1 by unfold Pool.places;rw[YY h1]] at this;exact this
 . have z0:=s_.mp h3;have:=(OU z0 h1).1;rw[show p.places=p.k by unfold Pool.places;rw[YX h2]] at this;exact this
 . obtain⟨t,e,hk,_⟩:=Oy (C8.mp h1);exact⟨t,e,hk⟩
 obtain⟨z0,z1⟩:=CT.mp h1;obtain⟨a,b,e,h2,h3,h4,_⟩:=keyOk z0 z1;exact⟨a,b,e,h2,h3,h4⟩
def Fm (o:bO C){i:Nat}{p:Pool}(hi:C.pool i=p)(hP:cS C p){how stake e:Nat}{l r:List Word}{sets:abz}(way:how=0\/cX (az C p)=true)(h:fW e (az C p) how l=.ok (sets,r)) :
  countM p.kind (cb how) (az C p).fields.length sets=C.manyOf ⟨i,cb how,sets,stake⟩:=by
 rw[uL (wF o hi hP way h)];show _=countM p.kind (cb how) p.k sets;by_cases h0:how=0
 . rw[s_.mpr h0];rfl
 have w:p.kind=.order\/p.kind=.any:=by
  rcases way with w|w
  . exact absurd w h0
  exact gM.mp w
 have hl:p.kind≠.legs:=by rcases w with w|w <;> rw[w] <;> decide
 have e:(az C p).fields=List.replicate p.places (C.headsOf p.race):=cP hP hl;rw[e,Zs,eT w]
def o7 (h:How):Nat:=match h with
 |.on=>0|.box=>1|.key=>2
def EF (h2:h<=2):o7 (cb h)=h:=by
 have:h=0\/h=1\/h=2:=by omega
 rcases this with rfl|rfl|rfl <;> rfl
def vh (x:Except Fault Bet):Except Fault bQ:=match x with
 |.error t=>.error t|.ok b=>.ok ⟨b.pool,o7 b.how,b.stake,b.sets⟩
def jN (C:Card)(hp sp:Nat)(b:Bet):Except Fault Bet:=holds (decide (0 < C.manyOf b)) 6 hp >>= λ_=>holds (decide (b.stake*C.manyOf b<=COST)) 7 sp >>= λ_=>pure b
def Fy {stake hp sp:Nat}(h2:how<=2)(hm:countM p.kind (cb how) (az C p).fields.length sets=C.manyOf ⟨i,cb how,sets,stake⟩) :
  Hw i how stake hp sp (az C p) sets=vh (jN C hp sp ⟨i,cb how,sets,stake⟩):=by
 have hm:countM (az C p).kind (cb how) (az C p).fields.length sets=C.manyOf ⟨i,cb how,sets,stake⟩:=hm;unfold Hw jN;rw[hm];generalize C.manyOf ⟨i,cb how,sets,stake⟩=m;by_cases h0:m=0
 . rw[YY h0];unfold holds;rw[YX (by simp[h0])];rfl
 rw[YX h0];unfold holds;rw[YY (show decide (0 < m)=true from Zy (by omega))];by_cases h1:2147483647 < stake*m
 . rw[YY h1];show _=vh ((if decide (stake*m<=COST)=true then Except.ok () else .error ⟨7,sp⟩) >>= λ_=>pure _);rw[YX (by rw[Y4];unfold COST;omega)];rfl
 rw[YX h1];show _=vh ((if decide (stake*m<=COST)=true then Except.ok () else .error ⟨7,sp⟩) >>= λ_=>pure _);rw[YY (by rw[Y4];unfold COST;omega)];show _=Except.ok (⟨i,o7 (cb how),stake,sets⟩:bQ);rw[EF h2]
def sU (C:Card)(e i:Nat)(p:Pool)(stake sp:Nat)(l:List Word):Except Fault Bet:=next e l >>= λw =>
 if w.1.w=ascii "on" then (setsIn e (if p.kind=.legs then C.sets p else List.replicate p.places (C.headsOf p.race)) w.2).map (λ(q:abz)=>(⟨i,.on,q,stake⟩:Bet)) >>= λb=>jN C w.1.at_ sp b
 else if w.1.w=ascii "box"/\(p.kind==.order||p.kind==.any)=true then (boxIn e p (C.headsOf p.race) w.2).map (λ(q:abz)=>(⟨i,.box,q,stake⟩:Bet)) >>= λb=>jN C w.1.at_ sp b
 else if w.1.w=ascii "key"/\(p.kind==.order||p.kind==.any)=true then (keyIn e p (C.headsOf p.race) w.2).map (λ(q:abz)=>(⟨i,.key,q,stake⟩:Bet)) >>= λb=>jN C w.1.at_ sp b
 else (.error ⟨3,w.1.at_⟩:Except Fault Bet) >>= λb=>jN C w.1.at_ sp b
def pL (o:bO C){i:Nat}{p:Pool}(hi:C.pool i=p)(hP:cS C p){e how stake hp sp:Nat}(h2:how<=2)(way:how=0\/cX (az C p)=true){r:List Word}{x:Except Fault (abz)}(hx:x=jf (fW e (az C p) how r)) :
  xu e i how stake hp sp (az C p) (fW e (az C p) how r)=vh ((x.map λ(q:abz)=>(⟨i,cb how,q,stake⟩:Bet)) >>= λb=>jN C hp sp b):=by
 subst hx;unfold xu;cases hs:fW e (az C p) how r with
 |error t=>rfl
 |ok y =>
  obtain⟨sets,r'⟩:=y;cases r' with
  |nil =>show Hw i how stake hp sp (az C p) sets=vh (jN C hp sp ⟨i,cb how,sets,stake⟩);exact Fy h2 (Fm o hi hP way hs)|cons w r'=>rfl
def Dv (o:bO C){i:Nat}{p:Pool}(hi:C.pool i=p)(hP:cS C p){e stake sp:Nat}{l:List Word}:Kw e i (az C p) stake sp l=vh (sU C e i p stake sp l):=by
 cases l with
 |nil=>rfl
 |cons w r =>
  show (match jO (az C p) w.w with
   |none=>(Except.error ⟨3,w.at_⟩:Except Fault bQ)|some how=>xu e i how stake w.at_ sp (az C p) (fW e (az C p) how r))=vh (if w.w=ascii "on" then (setsIn e (if p.kind=.legs then C.sets p else List.replicate p.places (C.headsOf p.race)) r).map (λ(q:abz)=>(⟨i,.on,q,stake⟩:Bet)) >>= λb=>jN C w.at_ sp b
   else if w.w=ascii "box"/\cX (az C p)=true then (boxIn e p (C.headsOf p.race) r).map (λ(q:abz)=>(⟨i,.box,q,stake⟩:Bet)) >>= λb=>jN C w.at_ sp b
   else if w.w=ascii "key"/\cX (az C p)=true then (keyIn e p (C.headsOf p.race) r).map (λ(q:abz)=>(⟨i,.key,q,stake⟩:Bet)) >>= λb=>jN C w.at_ sp b
   else (.error ⟨3,w.at_⟩:Except Fault Bet) >>= λb=>jN C w.at_ sp b)
  have fld:cX (az C p)=true->(az C p).fields.getD 0 []=C.headsOf p.race/\(az C p).fields.length=p.k:=λhw=>by
   have w:=gM.mp hw;have hl:p.kind≠.legs:=by rcases w with w|w <;> rw[w] <;> decide
   have e:(az C p).fields=List.replicate p.places (C.headsOf p.race):=cP hP hl;rw[e,Zs];exact⟨vI (lP hP),eT w⟩
  unfold jO;by_cases c0:w.w=ascii "on"
  . rw[YY c0,YY c0];refine pL o hi hP (by decide) (.inl rfl) ?_;rw[Kn];rfl
  rw[YX c0,YX c0];by_cases c1:w.w=ascii "box"/\cX (az C p)=true
  . rw[YY c1,YY c1];refine pL (how:=1) o hi hP (by decide) (.inr c1.2) ?_;obtain⟨f1,f2⟩:=fld c1.2;rw[Ik];unfold fW;rw[YX (by decide),YY rfl,f1,f2]
  rw[YX c1,YX c1];by_cases c2:w.w=ascii "key"/\cX (az C p)=true
  . rw[YY c2,YY c2];refine pL (how:=2) o hi hP (by decide) (.inr c2.2) ?_;obtain⟨f1,f2⟩:=fld c2.2;rw[Ip];unfold fW;rw[YX (by decide),YX (by decide),f1,f2]
  rw[YX c2,YX c2];rfl
def tail3 (C:Card)(e i:Nat)(p:Pool)(l:List Word):Except Fault Bet:=must e "for" l >>= λm=>number e 1 STAKE m >>= λs=>holds (s.1.1 % p.unit==0) 4 s.1.2 >>= λ_=>sU C e i p s.1.1 s.1.2 s.2
def An {u:Nat}(hu:1<=u){v:Bytes}:fg u (tx v)↔∃n,numberOf v=some n/\1<=n/\n<=1000000/\n % u=0/\(ay (tx v)).toNat=n:=by
 unfold fg;constructor
 . rintro⟨h1,h2,h3⟩;obtain⟨n,e,a,b,c⟩:=(fA (w:=v) (lo:=1) (hi:=1000000) (by decide)).mp ⟨h1,h2⟩;refine⟨n,e,a,b,?_,by omega⟩;rw[c] at h3;have:((n % u:Nat):Int)=0:=by rw[Int.natCast_emod];exact h3
   omega
 rintro⟨n,e,a,b,c,d⟩;obtain⟨h1,h2⟩:=(fA (w:=v) (lo:=1) (hi:=1000000) (by decide)).mpr ⟨n,e,a,b,by rw[(eN (w:=v) (m:=n) (by omega)).mpr e]⟩;refine⟨h1,h2,?_⟩;rw[(eN (w:=v) (m:=n) (by omega)).mpr e,<-Int.natCast_emod,c];rfl
def BD (o:bO C){i:Nat}{p:Pool}(hi:C.pool i=p)(hP:cS C p){e:Nat}{l:List Word}:Df e i (az C p) l=vh (tail3 C e i p l):=by
 unfold Df tail3;cases hm:must e "for" l with
 |error t=>rfl
 |ok m =>
  show JP e i (az C p) m=vh (number e 1 STAKE m >>= λs=>holds (s.1.1 % p.unit==0) 4 s.1.2 >>= λ_=>sU C e i p s.1.1 s.1.2 s.2);cases m with
  |nil=>rfl
  |cons w r =>
   show (if fg p.unit (tx w.w) then Kw e i (az C p) (ay (tx w.w)).toNat w.at_ r else .error ⟨4,w.at_⟩)=vh ((match numberOf w.w with
    |none=>.error ⟨4,w.at_⟩|some n=>if n < 1\/STAKE < n then .error ⟨4,w.at_⟩ else pure ((n,w.at_),r)) >>= λs=>holds (s.1.1 % p.unit==0) 4 s.1.2 >>= λ_=>sU C e i p s.1.1 s.1.2 s.2)
   have key:=An hP.unit (v:=w.w);cases hn:numberOf w.w with
   |none =>rw[YX (λz=>by obtain⟨n,e,_⟩:=key.mp z;rw[hn] at e;cases e)];rfl
   |some n =>
    show _=vh ((if n < 1\/STAKE < n then .error ⟨4,w.at_⟩ else pure ((n,w.at_),r)) >>= λs=>holds (s.1.1 % p.unit==0) 4 s.1.2 >>= λ_=>sU C e i p s.1.1 s.1.2 s.2);by_cases c:n < 1\/STAKE < n
    . rw[YY c,YX (λz=>by
       obtain⟨n',e,a,b,_⟩:=key.mp z;rw[hn] at e;injection e with e;unfold STAKE at c;omega)]
      rfl
    rw[YX c];show _=vh (holds (n % p.unit==0) 4 w.at_ >>= λ_=>sU C e i p n w.at_ r);unfold holds;by_cases d:n % p.unit=0
    . have hs:fg p.unit (tx w.w):=key.mpr ⟨n,hn,by omega,by unfold STAKE at c;omega,d,by
       rw[(eN (w:=w.w) (m:=n) (by unfold STAKE at c;omega)).mpr hn];rfl⟩
      rw[YY hs,YY (by rw[d];rfl)];have en:(ay (tx w.w)).toNat=n:=by rw[(eN (w:=w.w) (m:=n) (by unfold STAKE at c;omega)).mpr hn];rfl
      rw[en];exact Dv o hi hP
    rw[YX (λz=>by obtain⟨n',e,_,_,h,_⟩:=key.mp z;rw[hn] at e;injection e with e;subst e;exact d h),YX (by simpa using d)]
    rfl
def DW (o:bO C){e:Nat}{l:List Word}:Ct e (C.pools.map (az C)) l=vh (C.betIn ⟨l,e⟩):=by
 have eb:C.betIn ⟨l,e⟩=(must e "bet" l >>= λm=>next e m >>= λn=>match C.pools.findIdx? λ(p:Pool)=>p.name==n.1.w with
  |none=>.error ⟨5,n.1.at_⟩|some i=>tail3 C e i (C.pool i) n.2):=rfl
 rw[eb];unfold Ct;cases hm:must e "bet" l with
 |error t=>rfl
 |ok m =>
  show KP e (C.pools.map (az C)) m=vh (next e m >>= λn=>match C.pools.findIdx? λ(p:Pool)=>p.name==n.1.w with
   |none=>.error ⟨5,n.1.at_⟩|some i=>tail3 C e i (C.pool i) n.2)
  cases m with
  |nil=>rfl
  |cons n r =>
   show (match ej (C.pools.map (az C)) (tx n.w) with
    |none=>(Except.error ⟨5,n.at_⟩:Except Fault bQ)
    |some i=>match (C.pools.map (az C))[i]? with
     |none=>.error ⟨5,n.at_⟩|some p=>Df e i p r)=vh (match C.pools.findIdx? λ(p:Pool)=>p.name==n.w with
    |none=>.error ⟨5,n.at_⟩|some i=>tail3 C e i (C.pool i) r)
   rw[Gz o];cases hf:C.pools.findIdx? λ(p:Pool)=>p.name==n.w with
   |none=>rfl
   |some i =>
    have MQ:i < C.pools.length:=by rw[aa5] at hf;exact hf.1
    have hg:(C.pools.map (az C))[i]?=some (az C C.pools[i]):=by rw[Y1,Y6 MQ];rfl
    have hp:C.pool i=C.pools[i]:=by unfold Card.pool;rw[Y6 MQ];rfl
    show (match (C.pools.map (az C))[i]? with
     |none=>(Except.error ⟨5,n.at_⟩:Except Fault bQ)|some p=>Df e i p r)=vh (tail3 C e i (C.pool i) r)
    rw[hg];show Df e i (az C C.pools[i]) r=_;rw[BD o hp (o.pools _ (aaJ MQ)),hp]
def dF (ps:List aK)(b:Bytes):Except Fault bQ:=match upTo b with
 |none=>.error ⟨1,b.length⟩
 |some (l,r)=>match badByte true 0 l with
  |some i=>.error ⟨2,i⟩
  |none=>match Ct l.length ps (wordsFrom 0 [] l) with
   |.error t=>.error t|.ok x=>if r=[] then .ok x else .error ⟨8,l.length+1⟩
def Hd (ps:List aK)(l r:Bytes):Except Fault bQ:=match badByte true 0 l with
  |some i=>.error ⟨2,i⟩
  |none=>match Ct l.length ps (wordsFrom 0 [] l) with
   |.error t=>.error t|.ok x=>if r=[] then .ok x else .error ⟨8,l.length+1⟩
def yL {ps:List aK}{b:Bytes}(h:upTo b=none):dF ps b=.error ⟨1,b.length⟩:=by unfold dF;rw[h]
def xS {ps:List aK}{b l r:Bytes}(h:upTo b=some (l,r)):dF ps b=Hd ps l r:=by unfold dF;rw[h];rfl
def gf (t b:Bytes):Except (List Int) bQ:=if 65536 < t.length\/4096 < b.length then .error [-2] else match dU (tx t) with
 |none=>.error [-8]
 |some ps=>match dF ps b with
  |.error f=>.error [-6,(f.kind:Nat),(f.place:Nat)]|.ok y=>.ok y
def Ep (o:bO C)(b:Bytes):dF (C.pools.map (az C)) b=vh (C.readBet b):=by
 unfold dF Card.readBet;cases upTo b with
 |none=>rfl
 |some x =>
  obtain⟨l,r⟩:=x;show (match badByte true 0 l with
   |some i=>(Except.error ⟨2,i⟩:Except Fault bQ)
   |none=>match Ct l.length (C.pools.map (az C)) (wordsFrom 0 [] l) with
    |.error t=>.error t|.ok x=>if r=[] then .ok x else .error ⟨8,l.length+1⟩)=vh (match badByte true 0 l with
   |some i=>.error ⟨2,i⟩
   |none=>match C.betIn ⟨wordsFrom 0 [] l,l.length⟩ with
    |.error e=>.error e|.ok x=>if r.isEmpty=true then .ok x else .error ⟨8,l.length+1⟩)
  cases badByte true 0 l with
  |some i=>rfl
  |none =>
   show (match Ct l.length (C.pools.map (az C)) (wordsFrom 0 [] l) with
    |.error t=>(Except.error t:Except Fault bQ)|.ok x=>if r=[] then .ok x else .error ⟨8,l.length+1⟩)=vh (match C.betIn ⟨wordsFrom 0 [] l,l.length⟩ with
    |.error e=>.error e|.ok x=>if r.isEmpty=true then .ok x else .error ⟨8,l.length+1⟩)
   rw[DW o];cases C.betIn ⟨wordsFrom 0 [] l,l.length⟩ with
   |error t=>rfl
   |ok x =>
    cases r with
    |nil=>rfl|cons c r=>rfl
def CL (t:Bytes)(ps:List aK)(h:dU (tx t)=some ps):∀p∈ps,CQ p:=by
 cases hc:readCard t with
 |error e=>rw[(mP t).2 e hc] at h;cases h|ok C =>obtain⟨o,_,h2⟩:=(mP t).1 C hc;rw[h2] at h;injection h with h;subst h;intro p hp;obtain⟨q,hq,rfl⟩:=Zr.mp hp;exact Mq o (o.pools q hq)
def Fj (a:Ans):List Int:=a.code::a.nums
def vm (h:How):cb (o7 h)=h:=by cases h <;> rfl
def GA (t b:Bytes):(∃z:Int,gf t b=.error [z]/\∀G,ToteBetCalls.ofBet t b G=says z)\/(∃k p:Int,gf t b=.error [-6,k,p]/\∀G,ToteBetCalls.ofBet t b G=says (-6)) \/
  ∃(C:Card) (x:Bet),bO C/\dU (tx t)=some (C.pools.map (az C))/\gf t b=.ok ⟨x.pool,o7 x.how,x.stake,x.sets⟩/\∀G,ToteBetCalls.ofBet t b G=G C x:=by
 by_cases hb:4096 < b.length
 . left;refine⟨-2,?_,λG=>YY (show ToteBetCalls.LOOKED < b.length from hb)⟩;unfold gf;exact YY (.inr hb)
 have eO:∀G,ToteBetCalls.ofBet t b G=ofCard t λC=>match C.readBet b with
  |.error _=>says (-6)|.ok x=>G C x:=λG=>YX (show ¬ToteBetCalls.LOOKED < b.length from hb)
 by_cases ht:65536 < t.length
 . left;refine⟨-2,?_,λG=>(eO G).trans (YY (show TEXT < t.length from ht))⟩;unfold gf;exact YY (.inl ht)
 have eL:gf t b=match dU (tx t) with
  |none=>.error [-8]
  |some ps=>match dF ps b with
   |.error f=>.error [-6,(f.kind:Nat),(f.place:Nat)]|.ok y=>.ok y:=by
  unfold gf;exact YX (by omega)
 have eC:∀G,ToteBetCalls.ofBet t b G=match readCard t with
  |.error _=>says (-8)
  |.ok C=>match C.readBet b with
   |.error _=>says (-6)|.ok x=>G C x:=λG=>(eO G).trans (YX (show ¬TEXT < t.length from ht))
 cases hc:readCard t with
 |error e =>
  left;refine⟨-8,?_,λG=>?_⟩
  . rw[eL,(mP t).2 e hc]
  rw[eC,hc]
 |ok C =>
  right;obtain⟨o,_,h2⟩:=(mP t).1 C hc;have eR:gf t b=match dF (C.pools.map (az C)) b with
   |.error f=>.error [-6,(f.kind:Nat),(f.place:Nat)]|.ok y=>.ok y:=by rw[eL,h2]
  rw[Ep o] at eR;cases hr:C.readBet b with
  |error e =>left;rw[hr] at eR;exact⟨(e.kind:Nat),(e.place:Nat),eR,λG=>by rw[eC,hc];show (match C.readBet b with|.error _=>_|.ok x=>_)=_;rw[hr]⟩
  |ok x =>right;rw[hr] at eR;exact⟨C,x,o,h2,eR,λG=>by rw[eC,hc];show (match C.readBet b with|.error _=>_|.ok x=>_)=_;rw[hr]⟩
theorem tO (x:Nat):∀(ss:abz) (b:Nat) (s:abA),bitsOf x b (ss++[s])=bitsOf x b ss++(if s.contains x=true then [b*2 ^ ss.length] else [])
 |[],b,s=>by show (if s.contains x=true then [b] else [])++[]=[]++(if s.contains x=true then [b*2 ^ 0] else []);simp
 |t::ss,b,s=>by
  show (if t.contains x=true then [b] else [])++bitsOf x (2*b) (ss++[s])=((if t.contains x=true then [b] else [])++bitsOf x (2*b) ss)++_;rw[tO x ss (2*b) s,aal];have e:2*b*2 ^ ss.length=b*2 ^ (t::ss).length:=by rw[Y7,aaV,aa6 2 b,Nat.mul_assoc,aa6 2]
  rw[e]
theorem wQ (x:Nat):∀(ss:abz) (b:Nat),∀c∈bitsOf x b ss,∃p,p < ss.length/\c=b*2 ^ p
 |[],b,c,h=>by cases h
 |t::ss,b,c,h=>by
  have h:c∈(if t.contains x=true then [b] else [])++bitsOf x (2*b) ss:=h;rcases ZJ.mp h with h|h
  . split at h
    . rw[Y_] at h;exact⟨0,by simp,by simp[h]⟩
    cases h
  obtain⟨p,h1,h2⟩:=wQ x ss (2*b) c h;exact⟨p+1,by simp;omega,by rw[h2,aaV,aa6 2 b,Nat.mul_assoc,aa6 2]⟩
theorem pY (x:Nat):∀(ss:abz) (b:Nat),(bitsOf x b ss).length<=ss.length
 |[],b=>Y5 _
 |t::ss,b=>by
  show ((if t.contains x=true then [b] else [])++bitsOf x (2*b) ss).length<=_;rw[Zg,Y7];have:=pY x ss (2*b);split
  . simp;omega
  simp;omega
def FG {p:Nat}:(m &&& 2 ^ p≠0)↔bH m (2 ^ p)=true:=by
 unfold bH;have e:(m / 2 ^ p % 2==1)=m.testBit p:=by rw[Nat.testBit_eq_decide_div_mod_eq,Zx,ZK,Y4]
 rw[e];constructor
 . intro h;cases ht:m.testBit p with
   |true=>rfl
   |false =>
    refine absurd (Nat.eq_of_testBit_eq λi=>?_) h;rw[Nat.testBit_and,Nat.testBit_two_pow,Nat.zero_testBit];by_cases c:p=i
    . subst c;rw[ht];rfl
    rw[ZI c,Bool.and_false]
 intro h z;have:=Z0 (λn=>Nat.testBit n p) z;simp only[Nat.testBit_and,Nat.testBit_two_pow,Nat.zero_testBit,h] at this;simp at this
def Hs {b:Nat}(h:bH m b=true)(hb:0 < b):b<=m:=by
 unfold bH at h;rw[ZK] at h;by_cases z:b<=m
 . exact z
 rw[Nat.div_eq_of_lt (by omega)] at h;cases h
theorem Cu:∀(ss:abz) (m:Nat),1<=m->m < 2 ^ ss.length->sel m ss≠[]
 |[],m,h1,h2=>by simp at h2;omega
 |s::ss,m,h1,h2=>by
  rw[rA];by_cases h:m % 2=1
  . rw[YY h];simp
  rw[YX h];have:=Cu ss (m / 2) (by omega) (by rw[Y7,aaV] at h2;omega);simpa using this
def pB (x:Nat)(z:Nat):Bool:=decide (1<=z)&&decide (z < x)
def Ge {x:Nat}(hx:1<=x):(λz=>pB x z||z==x)=pB (x+1):=by funext z;unfold pB;rw[Zx];simp;omega
def J1 (x:Nat):pB x x=false:=by unfold pB;simp
def Iq:pB 1=λ_=>false:=by funext z;unfold pB;rw[Bool.eq_false_iff];simp;omega
def Iu:pB 25=mq:=by funext z;unfold pB mq;rw[Zx];simp;omega
def cI (ss:abz)(x m:Nat):Nat:=dz (sel m ss) (pB x)
def qh (ss:abz)(x:Nat):cI ss x 0=1:=by unfold cI;rw[vP];rfl
def Gp (h1:1<=m)(h2:m < 2 ^ ss.length):cI ss 1 m=0:=by
 unfold cI;rw[Iq];have:=Cu ss m h1 h2;cases hs:sel m ss with
 |nil=>exact absurd hs this
 |cons s r =>
  unfold dz;have e:s.filter (λ_=>false)=[]:=by rw[List.filter_eq_nil_iff];intro _ _ z;cases z
  rw[e];rfl
def DP (nd:∀s∈ss,s.Nodup){x m:Nat}(hx:1<=x):cI ss (x+1) m=cI ss x m+(((bitsOf x 1 ss).filter (bH m)).map λb=>cI ss x (m - b)).sum:=by unfold cI;rw[<-Ge hx];exact Ax x m ss (pB x) nd (J1 x)
def BN:cI ss 25 (2 ^ ss.length - 1)=dz ss mq:=by unfold cI;rw[wR,Iu]
def kj (ss:abz)(x f i:Nat):abA:=(List.range (f+1)).map λm=>if f - i < m then cI ss (x+1) m else cI ss x m
def tab (ss:abz)(x f:Nat):abA:=(List.range (f+1)).map λm=>cI ss x m
def BX (ss:abz)(x f:Nat):kj ss x f 0=tab ss x f:=by unfold kj tab;refine ZN λm hm=>?_;have:=aaG.mp hm;rw[YX (by omega)]
def CV (ss:abz)(x f:Nat):kj ss x f f=tab ss (x+1) f:=by
 unfold kj tab;refine ZN λm hm=>?_;by_cases h:m=0
 . subst h;rw[YX (by omega),qh,qh]
 rw[YY (by omega)]
def vD {x:Nat}(h:m<=f):(kj ss x f i)[m]?=some (if f - i < m then cI ss (x+1) m else cI ss x m):=by unfold kj;rw[Y1,aaC (by omega)];rfl
def Bz {x:Nat}(h:m<=f):(tab ss x f)[m]?=some (cI ss x m):=by unfold tab;rw[Y1,aaC (by omega)];rfl
def Dt {x:Nat}(hi:i < f):(kj ss x f i).set (f - i) (cI ss (x+1) (f - i))=kj ss x f (i+1):=by
 refine aba λm=>?_;rw[List.getElem?_set];have hl:(kj ss x f i).length=f+1:=by unfold kj;rw[YW,aa7]
 by_cases hm:m<=f
 . rw[vD (i:=i+1) hm];by_cases e:f - i=m
   . rw[YY e,YY (by omega),YY (by omega),e]
   rw[YX e,vD hm];congr 1;by_cases h2:f - i < m
   . rw[YY h2,YY (by omega)]
   rw[YX h2,YX (by omega)]
 have Wj:(kj ss x f (i+1)).length=f+1:=by unfold kj;rw[YW,aa7]
 rw[YX (by omega),ZX (by omega),ZX (by omega)]
def AV:[1]++List.replicate (2 ^ ss.length - 1) 0=tab ss 1 (2 ^ ss.length - 1):=by
 have hp:0 < 2 ^ ss.length:=Nat.pow_pos (by decide);refine aba λm=>?_;by_cases hm:m<=2 ^ ss.length - 1
 . rw[Bz hm];cases m with
   |zero=>rw[qh];rfl|succ m =>rw[Gp (by omega) (by omega)];show (List.replicate (2 ^ ss.length - 1) 0)[m]?=some 0;rw[List.getElem?_replicate,YY (by omega)]
 unfold tab;rw[ZX (by simp;omega),ZX (by simp;omega)]
def i6 (g:abz)(s:abA):Bool:=(s.zip g).all λz=>z.2.contains z.1
def lD (g:abz)(s:abA):Nat:=if i6 g s=true then product ((g.drop s.length).map List.length) else 0
def gQ (s t:abA):abA:=t.filter λx=>!s.contains x
def uq (g:abz)(s:abA):Nat:=if i6 g s=true/\s.Nodup then dz ((g.drop s.length).map (gQ s)) mq else 0
def pre (R:abz)(s:abA):Nat:=R.countP λr=>s.isPrefixOf r
def jr {p q:Prop}[Decidable p] [Decidable q] {a b:α}(h:p↔q):(if p then a else b)=if q then a else b:=by
 by_cases z:p
 . rw[YY z,YY (h.mp z)]
 rw[YX z,YX λy=>z (h.mpr y)]
def jD (R:abz):pre R []=R.length:=by unfold pre;rw[List.countP_eq_length];intro r _;simp
def BB {x:Nat}(R:abz):pre (R.map λr=>y::r) (x::s)=if (y==x)=true then pre R s else 0:=by
 unfold pre;rw[List.countP_map];by_cases e:y=x
 . rw[YY (by simpa using e)];congr 1;funext r;simp[e]
 rw[YX (by simpa using e),List.countP_eq_zero];intro r _;have:¬x=y:=λz=>e z.symm;simp[this]
def vY {x:Nat}{t:abA}(nd:t.Nodup)(f:Nat->abz):pre (t.flatMap λy=>(f y).map λr=>y::r) (x::s)=if t.contains x=true then pre (f x) s else 0:=by
 have e:pre (t.flatMap λy=>(f y).map λr=>y::r) (x::s)=(t.map λy=>if (y==x)=true then pre (f x) s else 0).sum:=by
  unfold pre;rw[List.countP_flatMap];refine Z0 List.sum (ZN λy _=>?_);show pre ((f y).map λr=>y::r) (x::s)=_;rw[BB];by_cases z:y=x
  . subst z;rfl
  rw[YX (by simpa using z),YX (by simpa using z)]
 rw[e,oR,ma nd];split <;> simp
theorem vM:∀(g:abz) (s:abA),(∀t∈g,t.Nodup)->s.length<=g.length->lD g s=pre (rowsOf g) s
 |g,[],_,_=>by rw[jD,fU];unfold lD i6;simp|[],x::s,_,h=>by simp at h
 |t::g,x::s,nd,h=>by
  have ih:=vM g s (λu hu=>nd u (by simp[hu])) (by simpa using h);unfold rowsOf;rw[vY (nd t (by simp)) λ_=>rowsOf g,<-ih];unfold lD i6;simp only[List.zip_cons_cons,aa2,Y7,List.drop_succ_cons,Y3];by_cases c:t.contains x=true
  . rw[YY c];by_cases d:((s.zip g).all λz=>z.2.contains z.1)=true
    . rw[YY d,YY ⟨c,d⟩]
    rw[YX d,YX λz=>d z.2]
  rw[YX c,YX λz=>c z.1]
theorem vG:∀(g:abz) (s had:abA),(∀t∈g,t.Nodup)->s.length<=g.length->pre (apartRows g had) s=if i6 g s=true/\s.Nodup/\∀x∈s,¬x∈had then dz (g.drop s.length) (λz=>!had.contains z&&!s.contains z) else 0
 |g,[],had,_,_=>by rw[jD,sF,YY ⟨by simp[i6],by simp,by simp⟩];simp|[],x::s,_,_,h=>by simp at h
 |t::g,x::s,had,nd,h=>by
  have ih:=vG g s (x::had) (λu hu=>nd u (by simp[hu])) (by simpa using h);unfold apartRows;rw[vY ((nd t (by simp)).filter _) λy=>apartRows g (y::had),ih];have ep:(λz=>!(x::had).contains z&&!s.contains z)=λz=>!had.contains z&&!(x::s).contains z:=by funext z;simp only[List.contains_cons];cases (z==x) <;> cases had.contains z <;> cases s.contains z <;> rfl
  rw[ep];have eC:(i6 (t::g) (x::s)=true/\(x::s).Nodup/\∀y∈x::s,¬y∈had)↔(t.filter λy=>!had.contains y).contains x=true/\(i6 g s=true/\s.Nodup/\∀y∈s,¬y∈x::had):=by
   have ei:i6 (t::g) (x::s)=true↔x∈t/\i6 g s=true:=by unfold i6;simp
   rw[ei,Z5,abk,Z1,Y4,Z3];simp only[Y0,not_or,ZL,Z1,ZC];constructor
   . rintro⟨⟨a,b⟩,⟨n,c⟩,d,e⟩;exact⟨⟨a,d⟩,b,c,λy hy=>⟨λz=>n (z ▸ hy),e y hy⟩⟩
   rintro⟨⟨a,d⟩,b,c,e⟩;exact⟨⟨a,b⟩,⟨λm=>(e x m).1 rfl,c⟩,d,λy hy=>(e y hy).2⟩
  rw[jr eC];by_cases c:(t.filter λy=>!had.contains y).contains x=true
  . rw[YY c];exact jr ⟨λz=>⟨c,z⟩,λz=>z.2⟩
  rw[YX c,YX λz=>c z.1]
theorem xc {s:abA}:∀(ss:abz) (p:Nat->Bool),dz (ss.map (gQ s)) p=dz ss λz=>p z&&!s.contains z
 |[],_=>rfl|t::ss,p=>by rw[Zb];unfold dz gQ;rw[List.filter_filter];refine Z0 List.sum (ZN λy _=>?_);have:=xc (s:=s) ss λz=>p z&&z != y;unfold gQ at this;rw[this];congr 1;funext z;dsimp only;cases p z <;> cases s.contains z <;> cases (z != y) <;> rfl
def E3 (o:D5 g)(h:s.length<=g.length):uq g s=pre (apartRows g []) s:=by rw[vG g s [] (λt ht=>(o.good t ht).1.nodup) h];unfold uq;rw[jr (p:=i6 g s=true/\s.Nodup) (q:=i6 g s=true/\s.Nodup/\∀x∈s,¬x∈[]) ⟨λ⟨a,b⟩=>⟨a,b,by simp⟩,λ⟨a,b,_⟩=>⟨a,b⟩⟩,xc];congr 1;refine gR _ λt ht y hy=>?_;have m:=aar ht;have:=(o.good t m).2 y hy;have:=o.lo t m y hy;unfold mq;simp[*]
def Ar (o:oZ .order gs)(h:∀g∈gs,s.length<=g.length):(gs.map λg=>uq g s).sum=pre (fc .order gs) s:=by show _=pre (gs.flatMap λg=>apartRows g []) s;unfold pre;rw[List.countP_flatMap];exact Z0 List.sum (ZN λg hg=>E3 (o.ok g hg) (h g hg))
def Cj (h1:kd≠.order)(h2:kd≠.any)(o:oZ kd gs)(h:∀g∈gs,s.length<=g.length):(gs.map λg=>lD g s).sum=pre (fc kd gs) s:=by
 have e:fc kd gs=gs.flatMap rowsOf:=by
  cases kd with
  |order=>exact absurd rfl h1|any=>exact absurd rfl h2|place=>rfl|legs=>rfl
 rw[e];unfold pre;rw[List.countP_flatMap];exact Z0 List.sum (ZN λg hg=>vM g s (λt ht=>((o.ok g hg).good t ht).1.nodup) (h g hg))
def lL (a:Nat)(B:abA)(g:abz)(j:Nat):List (abz):=((List.range j).filter λi=>g.getD i []==B).map λi=>g.take i++[[a]]++g.drop (i+1)
def yS (a:Nat)(B:abA)(g:abz)(j:Nat):lL a B g (j+1)=lL a B g j++if (g.getD j []==B)=true then [g.take j++[[a]]++g.drop (j+1)] else []:=by
 unfold lL;rw[List.range_succ,aaM,Zd];congr 1;by_cases h:(g.getD j []==B)=true
 . rw[YY h,Z6,YY h];rfl
 rw[YX h,Z6,YX h];rfl
theorem tT (a:Nat)(B:abA):∀g:abz,lL a B g g.length=jS a B g
 |[]=>rfl
 |s::g=>by
  have ih:=tT a B g;unfold lL at ih ⊢;unfold jS;rw[Y7,List.range_succ_eq_map,<-ih,Zk];have e:((List.range g.length).map Nat.succ).filter (λi=>(s::g).getD i []==B)=((List.range g.length).filter λi=>g.getD i []==B).map Nat.succ:=by rw[List.filter_map];rfl
  by_cases h:(s==B)=true
  . rw[List.filter_cons_of_pos (by simpa using h),YY h,e,Zb,Zk];rfl
  rw[List.filter_cons_of_neg (by simpa using h),YX h,e,Zk];rfl
def yA {A:abA}:bA B (A++[a]) gs=(bA B A gs).flatMap (jS a B):=by unfold bA;rw[List.foldl_append];rfl
theorem vq {B:abA}{k:Nat}:∀{A:abA} {gs:List (abz)},(∀g∈gs,g.length=k)->∀g∈bA B A gs,g.length=k
 |[],_,h=>h|a::A,gs,h=>vq (A:=A) (gs:=gs.flatMap (jS a B)) λg hg=>by obtain⟨g0,h0,hr⟩:=aaW.mp hg;rw[(pz hr).1,h g0 h0]
def AQ {j:Nat}:(lL a B g j).length<=j:=by unfold lL;rw[YW];exact ZH (abe ..) (by rw[aa7];exact Y5 _)
def ie {x:Nat}{l m:abA}:x::l < y::m↔x < y\/x=y/\l < m:=List.cons_lt_cons_iff
theorem yI {l m:abA}:∀s:abA,s++l < s++m↔l < m
 |[]=>Iff.rfl|x::s=>by rw[aaX,aaX,ie,yI s];exact⟨λh=>h.elim (λz=>absurd z (aad _)) λz=>z.2,λh=>.inr ⟨rfl,h⟩⟩
def iw (l:abA):¬l < l:=List.lt_irrefl l
theorem vS:∀{L:abz} {i:Nat} {r:abA},L.Pairwise (· < ·)->L[i]?=some r->L.countP (λx=>decide (x < r))=i
 |[],i,r,_,h=>by simp at h
 |a::L,0,r,hp,h=>by
  have e:a=r:=by simpa using h
  subst e;rw[List.countP_eq_zero];intro x hx;simp only[Y4];rcases Y0.mp hx with rfl|hx
  . exact iw x
  exact λz=>iw _ (List.lt_trans ((aab.mp hp).1 x hx) z)
 |a::L,i+1,r,hp,h=>by
  have h:L[i]?=some r:=by simpa using h
  obtain⟨h1,h2⟩:=aab.mp hp;rw[List.countP_cons_of_pos (by simpa using h1 r (Zm h)),vS h2 h]
theorem oj {α:Type}{p q:α->Bool}:∀{R:List α},(∀r∈R,¬(p r=true/\q r=true))->R.countP (λr=>p r||q r)=R.countP p+R.countP q
 |[],_=>rfl|a::R,h=>by have ih:=oj (R:=R) λr hr=>h r (by simp[hr]);have ha:=h a (by simp);rw[List.countP_cons,List.countP_cons,List.countP_cons,ih];cases hp:p a <;> cases hq:q a <;> simp_all <;> omega
def fN {p q:α->Bool}{R:List α}(h:∀r∈R,p r=q r):R.countP p=R.countP q:=List.countP_congr λr hr=>by rw[h r hr]
def rk (R:abz):abA->abA->Nat
 |_,[]=>0|s,x::t=>((List.range (x - 1)).map λm=>pre R (s++[m+1])).sum+rk R (s++[x]) t
def dZ:(s++[m]).isPrefixOf r=true↔∃u,r=s++m::u:=by
 rw[abw];constructor
 . rintro⟨u,rfl⟩;exact⟨u,by simp⟩
 rintro⟨u,rfl⟩;exact⟨u,by simp⟩
theorem l_ {R:abz}{s:abA}:∀n:Nat,R.countP (λr=>(List.range n).any λm=>(s++[m+1]).isPrefixOf r)=((List.range n).map λm=>pre R (s++[m+1])).sum
 |0=>by simp
 |n+1=>by
  rw[List.range_succ,Zd,List.sum_append_nat,<-l_ n];have e:R.countP (λr=>(List.range n++[n]).any λm=>(s++[m+1]).isPrefixOf r)=R.countP λr=>((List.range n).any λm=>(s++[m+1]).isPrefixOf r)||(s++[n+1]).isPrefixOf r:=fN λr _=>by rw[List.any_append];simp
  rw[e,oj]
  . simp[pre]
  rintro r _ ⟨h1,h2⟩;obtain⟨m,hm,h1⟩:=aav.mp h1;obtain⟨u,rfl⟩:=dZ.mp h1;obtain⟨v,e⟩:=dZ.mp h2;have:=List.append_cancel_left e;have:=(List.cons.inj this).1;have:=aaG.mp hm;omega
theorem xa {R:abz}{k:Nat}(hR:∀r∈R,r.length=k/\∀y∈r,1<=y):∀t s:abA,s.length+t.length=k->R.countP (λr=>s.isPrefixOf r&&decide (r < s++t))=rk R s t
 |[],s,hl=>by rw[ZW,rk,List.countP_eq_zero];intro r hr;simp only[Y3,Y4];rintro⟨h1,h2⟩;have e:=(abw.mp h1).eq_of_length (by rw[(hR r hr).1];simpa using hl);rw[e] at h2;exact iw r h2
 |x::t,s,hl=>by
  have ih:=xa hR t (s++[x]) (by rw[Zg];simp at hl ⊢;omega);rw[rk,<-ih,<-l_];have e:R.countP (λr=>s.isPrefixOf r&&decide (r < s++x::t))=R.countP λr=>((List.range (x - 1)).any λm=>(s++[m+1]).isPrefixOf r)||((s++[x]).isPrefixOf r&&decide (r < s++[x]++t)):=by
   refine fN λr hr=>?_;obtain⟨l1,l2⟩:=hR r hr;rw[Zx,ZU,Y3,Y3,aav,Y4,Y4,abw];constructor
   . rintro⟨⟨v,rfl⟩,h⟩;cases v with
     |nil=>simp at l1 hl;omega
     |cons y u =>
      rcases ie.mp ((yI s).mp h) with z|⟨rfl,z⟩
      . have y1:=l2 y (by simp);exact .inl ⟨y - 1,aaG.mpr (by omega),dZ.mpr ⟨u,by rw[show y - 1+1=y by omega]⟩⟩
      refine .inr ⟨dZ.mpr ⟨u,rfl⟩,?_⟩;rw[aal];exact h
   rintro (⟨m,hm,h⟩|⟨h1,h2⟩)
   . obtain⟨u,rfl⟩:=dZ.mp h;have:=aaG.mp hm;exact⟨⟨_,rfl⟩,(yI s).mpr (ie.mpr (.inl (by omega)))⟩
   obtain⟨u,rfl⟩:=dZ.mp h1;rw[aal] at h2;exact⟨⟨_,rfl⟩,h2⟩
  rw[e,oj];rintro r _ ⟨h1,h2⟩;obtain⟨m,hm,h1⟩:=aav.mp h1;obtain⟨u,rfl⟩:=dZ.mp h1;rw[Y3] at h2;obtain⟨v,e⟩:=dZ.mp h2.1;have:=(List.cons.inj (List.append_cancel_left e)).1;have:=aaG.mp hm;omega
def Jn {R L:abz}{k:Nat}(hR:∀r∈R,r.length=k/\∀y∈r,1<=y)(hL:L.Pairwise (· < ·))(hp:R.Perm L)(hr:r∈R)(hi:rk R [] r=i):L[i]?=some r:=by
 have c:=xa hR r [] (by simpa using (hR r hr).1);rw[hi] at c;have c2:R.countP (λx=>decide (x < r))=i:=by rw[<-c];exact fN λx _=>by simp
 obtain⟨j,hj⟩:=List.mem_iff_getElem?.mp (hp.mem_iff.mp hr);have c3:=vS hL hj;rw[<-hp.countP_eq,c2] at c3;rw[c3];exact hj
def rQ {f:Nat->abz}(hs:bS s)(h:∀x∈s,(f x).Pairwise (· < ·)):(s.flatMap λx=>(f x).map λr=>x::r).Pairwise (· < ·):=by refine List.pairwise_flatMap.mpr ⟨λx hx=>List.pairwise_map.mpr ((h x hx).imp λz=>ie.mpr (.inr ⟨rfl,z⟩)),hs.imp λz a ha b hb=>?_⟩;obtain⟨p,_,rfl⟩:=Zr.mp ha;obtain⟨q,_,rfl⟩:=Zr.mp hb;exact ie.mpr (.inl z)
theorem jU:∀{g:abz},(∀s∈g,bS s)->(rowsOf g).Pairwise (· < ·)
 |[],_=>by simp[rowsOf]|s::g,h=>rQ (h s (by simp)) λ_ _=>jU λt ht=>h t (by simp[ht])
theorem jI:∀{g:abz} {had:abA},(∀s∈g,bS s)->(apartRows g had).Pairwise (· < ·)
 |[],_,_=>by simp[apartRows]|s::g,had,h=>rQ (List.Pairwise.filter _ (h s (by simp))) λ_ _=>jI λt ht=>h t (by simp[ht])
theorem iI:∀{k:Nat} {l:abA},bS l->(risingRows k l).Pairwise (· < ·)
 |0,_,_=>by simp[risingRows]|k+1,[],_=>by simp[risingRows]
 |k+1,x::l,h=>by
  obtain⟨h1,h2⟩:=aab.mp h;rw[risingRows];refine List.pairwise_append.mpr ⟨List.pairwise_map.mpr ((iI h2).imp λz=>ie.mpr (.inr ⟨rfl,z⟩)),iI h2,λa ha b hb=>?_⟩;obtain⟨p,_,rfl⟩:=Zr.mp ha;have hs:=dv _ _ _ hb;have hl:=fC _ _ _ hb
  match b,hl,hs with
  |y::b,_,hs=>exact ie.mpr (.inl (h1 y (hs.subset (by simp))))
theorem nM {α:Type}{f:Nat->List α}{z:Nat}:∀{l:abA} {n:Nat},(∀x∈l,(f x).length=z)->0 < z->(l.flatMap f)[n]?=(l[n / z]?).bind λx=>(f x)[n % z]?
 |[],n,_,_=>by simp
 |x::l,n,h,hz=>by
  have hx:=h x (by simp);rw[aa_];by_cases c:n < z
  . rw[List.getElem?_append_left (by omega),Nat.div_eq_of_lt c,Nat.mod_eq_of_lt c];rfl
  rw[abx (by omega),hx,nM (λy hy=>h y (by simp[hy])) hz];have e1:n / z=(n - z) / z+1:=by rw[Nat.div_eq n z,YY ⟨hz,by omega⟩]
  have e2:n % z=(n - z) % z:=Nat.mod_eq_sub_mod (by omega);rw[e1,e2];rfl
def mK {f:Nat->abz}{z:Nat}{l:abA}(h:∀x∈l,(f x).length=z)(hn:n < l.length*z):∃x,l[n / z]?=some x/\x=l.getD (n / z) 0/\n % z < z/\(l.flatMap λx=>(f x).map λr=>x::r)[n]?=((f x)[n % z]?).map λr=>x::r:=by
 have hz:0 < z:=by
  rcases Nat.eq_zero_or_pos z with e|e
  . rw[e] at hn;simp at hn
  exact e
 have hd:n / z < l.length:=Nat.div_lt_of_lt_mul (by rw[aa6];exact hn);refine⟨l[n / z],Y6 hd,by rw[ZD,Y6 hd];rfl,Nat.mod_lt _ hz,?_⟩;rw[nM (z:=z) (λx hx=>by rw[YW];exact h x hx) hz,Y6 hd];show ((f l[n / z]).map λr=>l[n / z]::r)[n % z]?=_;rw[Y1]
def uu (x:Nat)(l:abA):product (x::l)=x*product l:=by
 have fold:∀(l:abA) (a:Nat),l.foldl (λa b=>a*b) a=a*product l:=by
  intro l
  induction l with
  |nil=>intro a;simp[product]|cons x l ih=>intro a;unfold product;rw[aan,aan,ih,ih (1*x)];simp[Nat.mul_assoc]
 show l.foldl (λa b=>a*b) (1*x)=_;rw[fold,Nat.one_mul]
theorem zy:∀{g:abz} {n:Nat},n < product (g.map List.length)->(rowsOf g)[n]?=some (rowLegs g n)
 |[],n,h=>by
  have:n=0:=by simp[product] at h;exact h
  subst this;rfl
 |s::g,n,h=>by rw[Zb,uu] at h;unfold rowsOf;obtain⟨x,h1,h2,h3,h4⟩:=mK (f:=λ_=>rowsOf g) (λ_ _=>fU g) h;rw[h4,zy h3,h2];rfl
def perms:Nat->abA->abz
 |0,_=>[[]]|k+1,av=>av.flatMap λx=>(perms k (av.erase x)).map λr=>x::r
theorem kP:∀(k:Nat) (av:abA),(perms k av).length=orders av.length k
 |0,av=>by cases av <;> rfl|k+1,[]=>rfl
 |k+1,a::av=>by
  have ih:=λx=>kP k ((a::av).erase x);unfold perms;rw[eh,sum_map_congr (g:=λ_=>orders av.length k) λx hx=>?_,sum_map_const]
  . rfl
  rw[YW,ih,aaA hx];rfl
theorem pZ {α:Type}{f g:Nat->List α}:∀{l:abA},(∀x∈l,f x=g x)->l.flatMap f=l.flatMap g
 |[],_=>rfl|x::l,h=>by rw[aa_,aa_,h x (by simp),pZ λy hy=>h y (by simp[hy])]
theorem ir {H:abA}(nd:H.Nodup):∀(k:Nat) (had:abA),apartRows (List.replicate k H) had=perms k (H.filter λx=>!had.contains x)
 |0,_=>rfl|k+1,had=>by rw[abm];unfold apartRows perms;refine pZ λx hx=>?_;rw[ir nd k (x::had)];congr 2;have Wk:(H.filter λy=>!had.contains y).Nodup:=nd.filter _;rw[Wk.erase_eq_filter,List.filter_filter];refine List.filter_congr λy _=>?_;rw[List.contains_cons];cases had.contains y <;> cases h:(y==x) <;> simp_all
theorem qt:∀{k:Nat} {av:abA} {n:Nat},n < orders av.length k->(perms k av)[n]?=some (rowOrder k av n)
 |0,av,n,h=>by
  have:n=0:=by cases av <;> simp[orders] at h <;> exact h
  subst this;rfl
 |k+1,[],n,h=>by simp[orders] at h
 |k+1,a::av,n,h=>by
  have h:n < (a::av).length*orders av.length k:=h;unfold perms;obtain⟨x,h1,h2,h3,h4⟩:=mK (f:=λx=>perms k ((a::av).erase x)) (z:=orders av.length k) (λx hx=>by rw[kP,aaA hx];rfl) h;have hl:((a::av).erase x).length=av.length:=by rw[aaA (Zm h1)];rfl
  rw[h4,qt (by rw[hl];exact h3)];show some (x::rowOrder k ((a::av).erase x) (n % orders av.length k))=some (rowOrder (k+1) (a::av) n);rw[rowOrder];simp only[Y7,Nat.add_sub_cancel];rw[<-h2]
theorem eU:∀(k:Nat) (l:abA),(risingRows k l).length=lF l.length k
 |0,l=>by cases l <;> rfl|k+1,[]=>rfl|k+1,x::l=>by rw[risingRows,Zg,YW,eU k l,eU (k+1) l];rfl
def mT:∀n < 25,∀k < 4,lF n k=choose n k:=by decide +kernel
theorem xF:∀{f k:Nat} {av:abA} {n:Nat},av.length < f->av.length < 25->k < 4->n < lF av.length k->(risingRows k av)[n]?=some (rowAny f k av n)
 |0,_,_,_,h,_,_,_=>by omega
 |f+1,0,av,n,_,_,_,h=>by
  have:n=0:=by cases av <;> simp[lF] at h <;> exact h
  subst this;cases av <;> rfl
 |f+1,k+1,[],n,_,_,_,h=>by simp[lF] at h
 |f+1,k+1,x::av,n,hf,P0,h4,h=>by
  have h:n < lF av.length k+lF av.length (k+1):=h;have hf:av.length < f:=by simpa using hf
  have P0:av.length < 25:=by simp at P0;omega
  have ec:=mT av.length P0 k (by omega);rw[risingRows];show _=some (if n < choose av.length k then x::rowAny f k av n else rowAny f (k+1) av (n - choose av.length k));rw[<-ec];by_cases c:n < lF av.length k
  . rw[YY c,List.getElem?_append_left (by rw[YW,eU];exact c),Y1,xF hf P0 (by omega) c];rfl
  rw[YX c,abx (by rw[YW,eU];omega),YW,eU,xF hf P0 h4 (by omega)]
def allR (C:Card)(p:Pool):abz:=match p.kind with
 |.legs=>rowsOf (C.sets p)|.any=>risingRows p.k (C.headsOf p.race)|.order=>perms p.k (C.headsOf p.race)|.place=>perms 1 (C.headsOf p.race)
section
variable {C:Card}{p:Pool}
def oZ.whole {p:aK}(o:CQ p):oZ p.kind [p.fields] :=
 ⟨by simp,by show 1<=4096;decide,λg hg=>by rw[Y_.mp hg];exact⟨o.six,λs hs=>⟨o.rise s hs,o.hi s hs⟩,o.lo⟩,λz g hg=>by rw[Y_.mp hg];exact o.BM z⟩
def xQ (o:bO C)(h:cS C p):(fc p.kind [fieldsOf C p]).Perm (allR C p):=by
 have gh:=fD o h.Bl h.IY;unfold allR;cases hk:p.kind with
 |legs =>
  have e:fieldsOf C p=C.sets p:=by unfold fieldsOf;rw[YY hk]
  rw[e];show ([C.sets p].flatMap rowsOf).Perm _;simp
 |place =>
  have e:fieldsOf C p=[C.headsOf p.race]:=by rw[cP h (by rw[hk];decide)];unfold Pool.places;rw[YY hk];rfl
  rw[e];show ([[C.headsOf p.race]].flatMap rowsOf).Perm _;simp[rowsOf,perms]
 |order =>
  have e:fieldsOf C p=List.replicate p.k (C.headsOf p.race):=by rw[cP h (by rw[hk];decide),eT (.inl hk)]
  rw[e];show ([List.replicate p.k (C.headsOf p.race)].flatMap λg=>apartRows g []).Perm _;have e2:=ir gh.rise.nodup p.k [];rw[show (C.headsOf p.race).filter (λx=>!([]:abA).contains x)=C.headsOf p.race from List.filter_eq_self.mpr λ_ _=>by simp] at e2;rw[<-e2];simp
 |any =>
  have e:fieldsOf C p=List.replicate p.k (C.headsOf p.race):=by rw[cP h (by rw[hk];decide),eT (.inr hk)]
  rw[e];show (bp (List.replicate p.k (C.headsOf p.race))).Perm _;refine (abv (oP _) (gp _ _ gh.rise.nodup)).mpr λr=>?_;rw[gK,jm];exact⟨λ⟨a,b,c⟩=>fu (dO gh.rise a c) b,λz=>⟨List.Pairwise.sublist (dv _ _ _ z) gh.rise,fC _ _ _ z,λx hx=>(dv _ _ _ z).subset hx⟩⟩
def v_ (o:bO C)(h:cS C p)(f:CQ (az C p)):(allR C p).Pairwise (· < ·):=by
 have gh:=fD o h.Bl h.IY;have pr:∀k,(perms k (C.headsOf p.race)).Pairwise (· < ·):=λk=>by have e2:=ir gh.rise.nodup k [];rw[show (C.headsOf p.race).filter (λx=>!([]:abA).contains x)=C.headsOf p.race from List.filter_eq_self.mpr λ_ _=>by simp] at e2;rw[<-e2];exact jI λs hs=>by rw[ZV hs];exact gh.rise
 unfold allR;cases hk:p.kind with
 |legs =>
  have e:(az C p).fields=C.sets p:=by show fieldsOf C p=_;unfold fieldsOf;rw[YY hk]
  exact jU λs hs=>f.rise s (by rw[e];exact hs)
 |place=>exact pr 1|order=>exact pr p.k|any=>exact iI gh.rise
def Ig (o:bO C)(h:cS C p):(allR C p).length=C.many p/\∀n < C.many p,(allR C p)[n]?=some (C.comboOf p n):=by
 have gh:=fD o h.Bl h.IY;have R0:(C.headsOf p.race).length < 25:=by have:=bz.len (heads:=C.headsOf p.race) ⟨gh.rise,λ_ z=>z⟩ gh;omega
 unfold allR Card.many Card.comboOf;cases hk:p.kind with
 |legs=>exact⟨fU _,λn hn=>zy hn⟩
 |place =>
  dsimp only;rw[iV (by rw[hk];decide)];have l1:orders (C.headsOf p.race).length 1=(C.headsOf p.race).length:=by cases (C.headsOf p.race).length <;> simp[orders]
  exact⟨by rw[kP,l1],λn hn=>qt (by rw[l1];exact hn)⟩
 |order =>dsimp only;rw[iV (by rw[hk];decide)];exact⟨kP _ _,λn hn=>qt hn⟩
 |any =>
  dsimp only;rw[iV (by rw[hk];decide)];have k3:p.k < 4:=by have:=h.GX;rw[hk] at this;exact Nat.lt_succ_of_le this
  rw[<-mT _ R0 _ k3];exact⟨eU _ _,λn hn=>xF (by show _ < 25;exact R0) R0 k3 hn⟩
def A6 (o:bO C)(h:cS C p){r:abA}(hr:r∈allR C p):C.isCombo p r=true:=by
 have gh:=fD o h.Bl h.IY;have pm:∀{k:Nat} {r:abA},r∈perms k (C.headsOf p.race)->r.length=k/\r.Nodup/\∀x∈r,x∈C.headsOf p.race:=λ{k r} hm=>by have e2:=ir gh.rise.nodup k [];rw[show (C.headsOf p.race).filter (λx=>!([]:abA).contains x)=C.headsOf p.race from List.filter_eq_self.mpr λ_ _=>by simp] at e2;rw[<-e2,cM,mD] at hm;exact⟨hm.1.1,hm.2.1,hm.1.2⟩
 unfold allR at hr;cases hk:p.kind with
 |legs =>
  rw[hk] at hr;unfold Card.isCombo;rw[hk];dsimp only;have f:=hZ.mp hr;rw[Y3,ZK];refine⟨mQ f,?_⟩;clear hr;generalize C.sets p=g at f
  induction g generalizing r with
  |nil=>cases r <;> simp
  |cons s g ih =>
   cases r with
   |nil=>simp|cons x r=>simp only[List.zip_cons_cons,aa2,Y3];exact⟨by simpa using f.1,ih f.2⟩
 |place =>rw[hk] at hr;obtain⟨h1,_,h3⟩:=pm hr;unfold Card.isCombo;rw[hk];dsimp only;rw[iV (by rw[hk];decide),Y3,ZK,Zn];exact⟨h1,λx hx=>by simpa using h3 x hx⟩
 |order =>rw[hk] at hr;obtain⟨h1,h2,h3⟩:=pm hr;rw[ko hk,Y3,Y3,ZK,Zn,Y4];exact⟨h1,h2,λx hx=>by simpa using h3 x hx⟩
 |any =>rw[hk] at hr;have hr:r∈risingRows p.k (C.headsOf p.race):=hr;have hs:=dv _ _ _ hr;rw[kN hk,Y3,Y3,ZK,Zn];exact⟨fC _ _ _ hr,(gL r).mpr (List.Pairwise.sublist hs gh.rise),λx hx=>by simpa using hs.subset hx⟩
end
section
variable {C:Card}{b:Bet}{p:Pool}
theorem qz:∀{r:abA} {g:abz},r.length=g.length->(fits r g↔((r.zip g).all λz=>z.2.contains z.1)=true)
 |[],[],_=>by simp[fits]|x::r,s::g,h=>by show x∈s/\fits r g↔_;rw[qz (by simpa using h)];simp|[],_::_,h=>by simp at h|_::_,[],h=>by simp at h
def Cv (v:oJ C b p)(hn:b.how≠.on\/p.kind=.any)(nl:p.kind≠.legs){r:abA}(h:C.has b r=true):∀x∈r,x∈together b.sets:=by
 have gh:=v.heads nl;unfold Card.has at h;rw[v.pool] at h;intro x hx;cases hh:b.how with
 |on =>have hk:p.kind=.any:=hn.resolve_left λz=>z hh;rw[hh] at h;have h:(C.isCombo p r&&if p.kind=.any then fillsSets r b.sets else _)=true:=h;rw[YY hk,Y3] at h;obtain⟨s,hs,Nr⟩:=(gO h.2).2 x hx;exact cR gh (v.good nl) hs x Nr
 |box =>rw[hh] at h;obtain⟨s,hs,_⟩:=v.box hh;have h:(C.isCombo p r&&r.all λx=>(b.sets.headD []).contains x)=true:=h;rw[Y3,Zn] at h;refine cR gh (v.good nl) (s:=s) (by rw[hs];simp) x ?_;have:=h.2 x hx;rw[hs] at this;simpa using this
 |key =>
  rw[hh] at h;obtain⟨s,t,hs,_⟩:=v.key hh;have h:(C.isCombo p r&&((b.sets.headD []).all (λx=>r.contains x)&&r.all λx=>(b.sets.headD []).contains x||(b.sets.getD 1 []).contains x))=true:=h;rw[Y3,Y3,Zn,Zn] at h;have:=h.2.2 x hx;rw[hs] at this;have z:x∈s\/x∈t:=by simpa using this
  rcases z with z|z
  . exact cR gh (v.good nl) (s:=s) (by rw[hs];simp) x z
  exact cR gh (v.good nl) (s:=t) (by rw[hs];simp) x z
def ET (v:oJ C b p)(hl:p.kind=.legs->b.sets.length=(C.sets p).length){r:abA}(hc:C.isCombo p r=true):r∈C.rows b↔C.has b r=true:=by
 have hp:=v.pool;have R1:b.how=.on->p.kind≠.any->C.has b r=(r.zip b.sets).all λz=>z.2.contains z.1:=λh hk=>by unfold Card.has;rw[hp,h];show (C.isCombo p r&&if p.kind=.any then _ else _)=_;rw[YX hk,hc,Bool.true_and]
 have flt:∀{L:abz},(C.has b r=true->r∈L)->(r∈L.filter (C.has b)↔C.has b r=true):=λh=>by rw[Z3];exact⟨λz=>z.2,λz=>⟨h z,z⟩⟩
 cases hk:p.kind with
 |legs =>
  have len:r.length=b.sets.length:=by unfold Card.isCombo at hc;rw[hk] at hc;dsimp only at hc;rw[Y3,ZK] at hc;rw[hl hk];exact hc.1
  rw[R1 (v.legs hk) (by rw[hk];decide),<-qz len,<-hZ];unfold Card.rows;rw[hp];dsimp only;rw[hk]
 |place =>
  obtain⟨h1,h2⟩:=v.place hk;have len:r.length=1:=by unfold Card.isCombo at hc;rw[hk] at hc;dsimp only at hc;rw[Y3,ZK] at hc;exact hc.1
  rw[R1 h1 (by rw[hk];decide)];unfold Card.rows;rw[hp];dsimp only;rw[hk]
  match hs:b.sets,h2,r,len with
  |[s],_,[x],_=>simp
 |order =>
  have nl:p.kind≠.legs:=by rw[hk];decide
  have np:p.kind≠.place:=by rw[hk];decide
  rw[ko hk,Y3,Y3,ZK,Y4] at hc;by_cases hh:b.how=.on
  . rw[R1 hh (by rw[hk];decide),<-qz (by rw[hc.1,v.on nl np hh])];unfold Card.rows;rw[hp];dsimp only;rw[hk,hh];show r∈apartRows b.sets []↔_;rw[cM];exact⟨λz=>z.1,λz=>⟨z,hc.2.1,by simp⟩⟩
  rw[rG hp hk hh];exact flt λz=>cM.mpr ⟨mD.mpr ⟨hc.1,Cv v (.inl hh) nl z⟩,hc.2.1,by simp⟩
 |any =>
  have nl:p.kind≠.legs:=by rw[hk];decide
  rw[kN hk,Y3,Y3,ZK,gL] at hc;unfold Card.rows;rw[hp];dsimp only;rw[hk];exact flt λz=>fu (dO (b8 _) hc.2.1 (Cv v (.inr hk) nl z)) hc.1
end
def Bf (o:oZ kd gs){r:abA}(h:r∈fc kd gs):∃g∈gs,r.length=g.length/\∀x∈r,∃s∈g,x∈s:=by
 have fl:∀{f:abz->abz},(∀g,r∈f g->fits r g)->r∈gs.flatMap f->∃g∈gs,r.length=g.length/\∀x∈r,∃s∈g,x∈s:=λhf h=>by obtain⟨g,hg,hr⟩:=aaW.mp h;exact⟨g,hg,mQ (hf g hr),(qE (hf g hr)).1⟩
 cases kd with
 |order=>exact fl (λg z=>(cM.mp z).1) h
 |any =>
  have h:r∈bp (gs.headD []):=h;obtain⟨l1,l2⟩:=gO ((gK _ r).mp h).2;cases gs with
  |nil=>exact absurd rfl o.ne|cons g gs=>exact⟨g,by simp,l1,l2⟩
 |place=>exact fl (λg z=>hZ.mp z) h|legs=>exact fl (λg z=>hZ.mp z) h
def p9 {k:Nat}(o:oZ kd gs)(hk:∀g∈gs,g.length=k):∀r∈fc kd gs,r.length=k/\∀y∈r,1<=y/\y<=24:=λr hr=>by obtain⟨g,hg,h1,h2⟩:=Bf o hr;refine⟨h1.trans (hk g hg),λy hy=>?_⟩;obtain⟨s,hs,Ul⟩:=h2 y hy;exact⟨(o.ok g hg).lo s hs y Ul,((o.ok g hg).good s hs).2 y Ul⟩
def sy.Kj {p:aK}(m:sy p how sets):∀g∈dY p.kind (cb how) p.fields.length sets,g.length=p.fields.length:=by
 obtain⟨_,h0,h1,h2⟩:=m.all;unfold cb;intro g hg;by_cases z0:how=0
 . rw[YY z0] at hg;rw[Y_.mp hg,(h0 z0).1]
 rw[YX z0] at hg;by_cases z1:how=1
 . rw[YY z1] at hg;rw[Y_.mp hg,Zs]
 rw[YX z1] at hg;have hg:g∈Bw.bA (sets.getD 1 []) (sets.headD []) [List.replicate p.fields.length (sets.getD 1 [])]:=by
  have hg:g∈(if p.kind=.any then (Bw.bA (sets.getD 1 []) (sets.headD []) [List.replicate p.fields.length (sets.getD 1 [])]).take 1 else Bw.bA (sets.getD 1 []) (sets.headD []) [List.replicate p.fields.length (sets.getD 1 [])]):=hg;split at hg
  . exact aaz hg
  exact hg
 exact vq (λg hg=>by rw[Y_.mp hg,Zs]) g hg
section
variable {C:Card}{x:Bet}{p:Pool}
def Au (v:oJ C x p) (hs:∀s∈x.sets,bS s):(C.rows x).Pairwise (· < ·):=by
 unfold Card.rows;rw[v.pool];dsimp only;have ur:=b8 x.sets;cases hk:p.kind with
 |legs=>exact jU hs|any=>exact List.Pairwise.filter _ (iI ur)
 |place =>
  obtain⟨_,h2⟩:=v.place hk
  match hq:x.sets,h2 with
  |[s],_ =>show (s.map λx=>[x]).Pairwise (· < ·);exact List.pairwise_map.mpr ((hs s (by rw[hq];simp)).imp λz=>ie.mpr (.inl z))
 |order =>
  have fr:∀f,((apartRows (List.replicate p.k (together x.sets)) []).filter f).Pairwise (· < ·):=λf=>List.Pairwise.filter _ (jI λs h=>by rw[ZV h];exact ur);cases x.how with
  |on=>exact jI hs|box=>exact fr _|key=>exact fr _
def CZ (o:bO C)(hp:p∈C.pools)(hi:C.pool x.pool=p)(m:sy (az C p) (o7 x.how) x.sets):oJ C x p:=by obtain⟨e,l,r,hr⟩:=m.read;have v:=wF (stake:=x.stake) o hi (o.pools p hp) m.way hr;rw[vm] at v;exact v
def F5 (o:bO C)(hp:p∈C.pools)(hi:C.pool x.pool=p)(m:sy (az C p) (o7 x.how) x.sets):(fc (az C p).kind (dY (az C p).kind (cb (o7 x.how)) (az C p).fields.length x.sets)).Perm (C.rows x):=by
 have v:=CZ o hp hi m;have hP:=o.pools p hp;rw[vm];have e:dY (az C p).kind x.how (az C p).fields.length x.sets=dY p.kind x.how p.k x.sets:=by
  show dY p.kind x.how (fieldsOf C p).length x.sets=_;by_cases h0:x.how=.on
  . rw[h0];rfl
  have w:p.kind=.order\/p.kind=.any:=by
   rcases m.way with w|w
   . exact absurd (by rw[<-vm x.how,s_];exact w) h0
   exact gM.mp w
  have hl:p.kind≠.legs:=by rcases w with w|w <;> rw[w] <;> decide
  rw[cP hP hl,Zs,eT w]
 rw[e];exact tH v
def zY {R:abz}{k:Nat}(hR:∀r∈R,r.length=k)(nd:R.Nodup){r:abA}(hr:r.length=k):pre R r=if r∈R then 1 else 0:=by rw[<-nd.count];unfold pre List.count;refine List.countP_congr λq hq=>?_;rw[abw,ZK];exact⟨λz=>(z.eq_of_length (by rw[hr,hR q hq])).symm,λz=>by rw[z];exact List.prefix_refl _⟩
end
def Rr (t b:Bytes)(g:bQ->aK->List Int->Prop)(zs:List Int):Prop :=
 (∃xs,gf t b=.error xs/\zs=xs.take 1)\/∃y ps p,gf t b=.ok y/\dU (tx t)=some ps/\ps[y.pool]?=some p/\sy p y.how y.sets/\g y p zs
def AG {t b:Bytes}{g:bQ->aK->List Int->Prop}{G:Card->Bet->Ans}{zs:List Int}(h:Rr t b g zs)
  (hg:∀(C:Card) (x:Bet),bO C->∀p∈C.pools,C.pool x.pool=p->sy (az C p) (o7 x.how) x.sets->g ⟨x.pool,o7 x.how,x.stake,x.sets⟩ (az C p) zs->zs=Fj (G C x)):zs=Fj (ToteBetCalls.ofBet t b G):=by
 rcases GA t b with ⟨z,h1,h2⟩|⟨k,p,h1,h2⟩|⟨C,x,o,h0,h1,h2⟩
 . rw[h2];rcases h with ⟨xs,e,rfl⟩|⟨y,ps,p,e,_⟩ <;> rw[h1] at e <;> cases e
   rfl
 . rw[h2];rcases h with ⟨xs,e,rfl⟩|⟨y,ps,p,e,_⟩ <;> rw[h1] at e <;> cases e
   rfl
 rw[h2];rcases h with ⟨xs,e,rfl⟩|⟨y,ps,p,e,e1,e2,m,hz⟩
 . rw[h1] at e;cases e
 rw[h1] at e;cases e;rw[h0] at e1;cases e1;rw[Y1] at e2;obtain⟨q,hq,rfl⟩:=Zu.mp e2;exact hg C x o q (Zm hq) (by unfold Card.pool;rw[hq];rfl) m hz
def zG (R:abz)(i:Nat)(r:abA):Prop:=r∈R/\∃l,rk R [] r+l=i/\l < pre R r
theorem zG.rk {R:abz}{i k:Nat}{r:abA}(h:zG R i r)(hR:∀r∈R,r.length=k)(nd:R.Nodup):Bw.rk R [] r=i:=by obtain⟨hr,l,h1,h2⟩:=h;rw[zY hR nd (hR r hr),YY hr] at h2;omega
def p_ {L:abz}(h:L.Pairwise (· < ·)):L.Nodup:=h.imp (S:=(·≠·)) λ{a b} (z:a < b) (e:a=b)=>iw _ (e ▸ z)
def E6 (n:Nat)(y:bQ)(p:aK)(zs:List Int):Prop :=
 ((fc p.kind [p.fields]).length<=n/\zs=[-1])\/∃r,zG (fc p.kind [p.fields]) n r/\zs=[0,((pre (fc p.kind (dY p.kind (cb y.how) p.fields.length y.sets)) r:Nat):Int)]
def Gd {t b:Bytes}{zs:List Int}(h:Rr t b (E6 n) zs):zs=Fj (ToteBetCalls.answer (.has t b n)):=by
 refine AG h λC x o p hp hi m hz=>?_;have hP:=o.pools p hp;have wp:=xQ o hP;obtain⟨a1,a2⟩:=Ig o hP;have go:oZ p.kind [(az C p).fields]:=oZ.whole m.ok;have hW:=p9 (k:=(az C p).fields.length) go λg hg=>by rw[Y_.mp hg]
 dsimp only;rw[hi];rcases hz with ⟨h1,rfl⟩|⟨r,N0,rfl⟩
 . have h1:C.many p<=n:=by rw[<-a1,<-wp.length_eq];exact h1
   rw[YY h1];rfl
 have hr:=N0.1;have h1:=N0.rk (λr hr=>(hW r hr).1) (wp.nodup_iff.mpr (p_ (v_ o hP m.ok)));have P1:=Jn (λr hr=>⟨(hW r hr).1,λy hy=>((hW r hr).2 y hy).1⟩) (v_ o hP m.ok) wp hr h1;have hn:n < C.many p:=by rw[<-a1];exact (Y9.mp P1).1
 rw[YX (by omega)];have er:C.comboOf p n=r:=by rw[a2 n hn] at P1;exact Zw P1
 rw[er];have pm:=F5 o hp hi m;have v:=CZ o hp hi m;have nd:(C.rows x).Nodup:=p_ (Au v λs hs=>(m.good s hs).1);have pr:=zY (k:=(az C p).fields.length) (λr hr=>(p9 m.Ha m.Kj r hr).1) (pm.nodup_iff.mpr nd) (hW r hr).1;have Wl:=ET v (λhk=>by
  have e:(az C p).fields=C.sets p:=by show fieldsOf C p=_;unfold fieldsOf;rw[YY hk]
  rw[<-e];refine (m.all.2.1 (m.way.resolve_right λw=>?_)).1;have w:=gM.mp w;rw[hk] at w;rcases w with w|w <;> cases w) (A6 o hP (wp.mem_iff.mp hr))
 have pr:pre (fc (az C p).kind (dY (az C p).kind (cb (o7 x.how)) (az C p).fields.length x.sets)) r=if C.has x r=true then 1 else 0:=by rw[pr];exact jr (pm.mem_iff.trans Wl)
 show [(0:Int),((pre (fc (az C p).kind (dY (az C p).kind (cb (o7 x.how)) (az C p).fields.length x.sets)) r:Nat):Int)]=Fj (tells [if C.has x r=true then 1 else 0]);rw[pr];rfl
def below (R:abz)(s:abA)(n:Nat):Nat:=((List.range n).map λm=>pre R (s++[m+1])).sum
section
variable {R:abz}{k:Nat}{s:abA}
def rF (n:Nat):below R s (n+1)=below R s n+pre R (s++[n+1]):=by unfold below;rw[List.range_succ,Zd,List.sum_append_nat];simp
def DN (h:n<=m):below R s n<=below R s m:=by
 induction h with
 |refl=>exact Y5 _|step _ ih=>rw[rF];omega
theorem zQ:∀(t s:abA) (y:Nat),rk R s (t++[y])=rk R s t+below R (s++t) (y - 1)
 |[],s,y=>by show below R s (y - 1)+rk R (s++[y]) []=rk R s []+_;rw[ZW,rk,rk];omega|x::t,s,y=>by rw[aaX,rk,rk,zQ t,aal];exact (Nat.add_assoc _ _ _).symm
def E4 (hR:∀r∈R,r.length=k/\∀y∈r,1<=y/\y<=24)(hs:s.length < k):pre R s=below R s 24:=by
 unfold below;rw[<-l_];refine fN λr hr=>?_;obtain⟨h1,h2⟩:=hR r hr;rw[Zx,aav];constructor
 . intro h;obtain⟨u,rfl⟩:=abw.mp h;cases u with
   |nil=>simp at h1;omega|cons x u =>have:=h2 x (by simp);exact⟨x - 1,aaG.mpr (by omega),dZ.mpr ⟨u,by rw[show x - 1+1=x by omega]⟩⟩
 rintro⟨m,_,h⟩;obtain⟨u,rfl⟩:=dZ.mp h;exact abw.mpr ⟨_,rfl⟩
def HV (hR:∀r∈R,r.length=k)(hs:s.length=k)(h:0 < pre R s):s∈R:=by obtain⟨r,hr,h⟩:=List.countP_pos_iff.mp h;obtain⟨u,rfl⟩:=abw.mp h;have:=hR _ hr;rw[Zg] at this;have:u=[]:=aaI.mp (by omega);subst this;simpa using hr
end
end Bw
end
end
section
set_option Elab.async false
set_option linter.all false
set_option maxRecDepth 100000
namespace L2
open PySem PySem.Spec PyProof.Rows
abbrev Key:=Sum Int Str
def qI:Key->Value->Bool
 |.inl k,v=>Value.isInt k v|.inr x,v=>Value.isStrOf x v
def Ky (w:World):Key->Int
 |.inl k=>hashInt k|.inr x=>hashStr w x
def cw:∀{k:Key} {v:Value},qI k v=true->(∃i t,k=Sum.inl i/\v=Value.int i t)\/(∃x t,k=Sum.inr x/\v=Value.str x t)
 |.inl i,v,h=>by obtain⟨t,e⟩:=Value.isInt_shape (k:=i) (v:=v) h;exact .inl ⟨i,t,rfl,e⟩
 |.inr x,v,h=>by obtain⟨t,e⟩:=Value.isStrOf_shape (x:=x) (v:=v) h;exact .inr ⟨x,t,rfl,e⟩
def AJ (i:Int)(t:Tok):qI (.inl i) (.int i t)=true:=by simp[qI,Value.isInt]
def sH (x:Str)(t:Tok):qI (.inr x) (.str x t)=true:=by simp[qI,Value.isStrOf]
def Jt (a b:Int):decide ((Sum.inl a:Key)=Sum.inl b)=(a==b):=by
 by_cases e:a=b
 . subst e;simp
 have h:¬(Sum.inl a:Key)=Sum.inl b:=λq=>e (Sum.inl.inj q);rw[ZI h];exact (Zq.mpr e).symm
def Hi (a b:Str):decide ((Sum.inr a:Key)=Sum.inr b)=decide (a=b):=by
 by_cases e:a=b
 . subst e;simp
 have h:¬(Sum.inr a:Key)=Sum.inr b:=λq=>e (Sum.inr.inj q);rw[ZI h,ZI e]
def Jh (a:Int)(b:Str):decide ((Sum.inl a:Key)=Sum.inr b)=false:=ZI (λq=>nomatch q)
def IU (a:Str)(b:Int):decide ((Sum.inr a:Key)=Sum.inl b)=false:=ZI (λq=>nomatch q)
def cA (prog:Program)(w:World):PySem.KeyKind prog w Key where
 is:=qI
 hash:=Ky w
 inj:=λv a b ha hb=>by
  rcases cw ha with ⟨i,t,rfl,rfl⟩|⟨x,t,rfl,rfl⟩
  . rcases cw hb with ⟨j,u,rfl,e⟩|⟨y,u,rfl,e⟩
    . injection e with e1 _;rw[e1]
    exact nomatch e
  rcases cw hb with ⟨j,u,rfl,e⟩|⟨y,u,rfl,e⟩
  . exact nomatch e
  injection e with e1 _;rw[e1]
 byValue:=λk v h=>by rcases cw h with ⟨i,t,rfl,rfl⟩|⟨x,t,rfl,rfl⟩ <;> rfl
 pyHash:=λhv h=>by
  rcases cw hv with ⟨i,t,rfl,rfl⟩|⟨x,t,rfl,rfl⟩
  . exact wpAny_pyHash_int h
  exact wpAny_pyHash_str h
 eqBool:=λhu hv h=>by
  rcases cw hu with ⟨i,t,rfl,rfl⟩|⟨x,t,rfl,rfl⟩
  . rcases cw hv with ⟨j,u,rfl,rfl⟩|⟨y,u,rfl,rfl⟩
    . rw[Jt] at h;exact wpAny_eqBool_int h
    rw[Jh] at h;exact SeqAt.EqAt.int_str i t y u _ _ _ _ h
  rcases cw hv with ⟨j,u,rfl,rfl⟩|⟨y,u,rfl,rfl⟩
  . rw[IU] at h;exact SeqAt.EqAt.str_int x t j u _ _ _ _ h
  rw[Hi] at h;exact wpAny_eqBool_str h
 «strs»:=λk x t v h=>by
  rcases cw h with ⟨i,u,rfl,e⟩|⟨y,u,rfl,e⟩
  . exact nomatch e
  injection e with e1 _;subst e1;cases v <;> rfl
def wq (prog:Program)(w:World)(i:Int)(t:Tok):(cA prog w).is (.inl i) (.int i t)=true:=AJ i t
def wO (prog:Program)(w:World)(x:Str)(t:Tok):(cA prog w).is (.inr x) (.str x t)=true:=sH x t
inductive V where
 |cv|bl (b:Bool)|int (i:Int)|str (x:Str)|xq (b:Array UInt8)|flt (b:UInt64)|ref (a:Addr)|ty (n:String)
 deriving DecidableEq
def RelV:V->Value->Prop
 |.cv,u=>u=Value.none|.bl b,u=>u=Value.bool b|.int i,u=>∃t,u=Value.int i t|.str x,u=>∃t,u=Value.str x t|.xq b,u=>∃t,u=Value.bytes b t|.flt b,u=>∃t,u=Value.float b t|.ref a,u=>u=Value.ref a|.ty n,u=>u=Value.type n
abbrev Vals:List V->abF->Prop:=Paired RelV
theorem Vals.length {xs:List V}{us:abF}(r:Vals xs us):xs.length=us.length:=Paired.length r
theorem Vals.get:∀{xs:List V} {us:abF} {i:Nat} {x:V},Vals xs us->xs[i]?=some x->∃u,us[i]?=some u/\RelV x u
 |_,_,_,_,.nil,e=>by simp at e|_,_,0,_,.cons r _,e=>by simp at e;subst e;exact⟨_,rfl,r⟩|_,_,i+1,x,.cons _ t,e=>by obtain⟨u,h1,h2⟩:=Vals.get (i:=i) (x:=x) t (by simpa using e);exact⟨u,by simpa using h1,h2⟩
theorem Vals.set {x:V}{u:Value}(r:RelV x u):∀{xs:List V} {us:abF} (i:Nat),Vals xs us->Vals (xs.set i x) (us.set i u)
 |_,_,_,.nil=>.nil|_,_,0,.cons _ t=>.cons r t|_,_,i+1,.cons q t=>.cons q (Vals.set r i t)
theorem Vals.append:∀{xs ys:List V} {us ws:abF},Vals xs us->Vals ys ws->Vals (xs++ys) (us++ws)
 |_,_,_,_,.nil,s=>s|_,_,_,_,.cons r t,s=>.cons r (Vals.append t s)
theorem Vals.take:∀{xs:List V} {us:abF} (n:Nat),Vals xs us->Vals (xs.take n) (us.take n)
 |_,_,0,_=>.nil|_,_,_+1,.nil=>.nil|_,_,n+1,.cons r t=>.cons r (Vals.take n t)
theorem Vals.drop:∀{xs:List V} {us:abF} (n:Nat),Vals xs us->Vals (xs.drop n) (us.drop n)
 |_,_,0,r=>r|_,_,_+1,.nil=>.nil|_,_,n+1,.cons _ t=>Vals.drop n t
def jt:Option V->Option Value->Prop
 |some v,some u=>RelV v u|none,none=>True|_,_=>False
def KV {κ:Type}:List (κ×V)->List (κ×Value)->Prop:=Paired λ(p:κ×V) (q:κ×Value)=>p.1=q.1/\RelV p.2 q.2
def kV:Key->V
 |.inl i=>.int i|.inr x=>.str x
inductive HO where
 |lst (xs:List V)|tup (xs:List V)|dK (MI:List (Key×V))|dT (MI:List (List Key×V))|set (S:Int->Bool) (n:Nat)|ins (C dx:Addr) (fs:List (Str×V))|own (x:Addr)|xd (fs:List (Str×V))|met (f x:Addr)|rng (lo hi:Int)|frz (o:Obj) (u:HO)|tbl (ps:Array Value)|ext (φ:Heap->Prop)
abbrev Hp:=Addr->Option HO
variable{H:Hp}{a b:Addr}{t':Nat}{ch:List Addr}{o u:HO}{h:Heap}
def upd (H:Hp)(a:Addr)(o:HO):Hp:=λb=>if b=a then some o else H b
def ae:upd H a o a=some o:=by unfold upd;rw[YY rfl]
def aq (h:b≠a):upd H a o b=H b:=by unfold upd;rw[YX h]
def cQ:upd (upd H a o) a u=upd H a u:=by funext b;unfold upd;split <;> rfl
def dQ (h:H a=some o)(h':H b=some u)(d:o≠u):a≠b:=by intro e;subst e;rw[h] at h';exact d (Zw h')
def ao (h:H a=some o)(h':H b=none):a≠b:=by intro e;subst e;rw[h] at h';cases h'
section
variable (P:Program)(w:World)
def bL (H:Hp) (h:Heap) (a:Addr):HO->Prop
 |.lst xs=>xs.length<=sizeLine/\∃(MJ:abF) (n:Nat),Vals xs MJ/\h.get? a=some {cls:=.type "list",data:=.seq MJ.toArray n}|.tup xs=>xs.length<=sizeLine/\∃MJ:abF,Vals xs MJ/\IsTup h a MJ.toArray|.dK MI=>MI.length<=sizeLine/\(a==sysModules)=false/\∃vs,KV MI vs/\h.DictOf (cA P w) a vs
 |.dT MI=>MI.length<=sizeLine/\(a==sysModules)=false/\∃xs:List (List Key×Addr×Value),
   Paired (λ(p:List Key×V) (q:List Key×Addr×Value)=>p.1=q.1/\H q.2.1=some (.tup (p.1.map kV))/\RelV p.2 q.2.2) MI xs /\
   ∃o es ep,h.get? a=some o/\o.ExactDict/\o.data=.dict es ep/\es.toList=xs.map (entryOfKey (tupleKind (cA P w)))/\(xs.map (·.1)).Nodup
 |.set S n=>h.SetOf (intKind P w) a S n
 |.ins C dx fs=>H dx=some (.own a)/\fs.length<=1000/\dx≠a/\h.get? a=some (PySem.W.instObj C dx) /\
   ∃mA,h.Ns1 dx mA/\(∀f,jt (fs.lookup f) (mA f))/\PySem.Within mA (fs.map (·.1))
 |.own _=>∃o,h.get? a=some o|.xd fs=>∃mA,h.Ns1 a mA/\∀f,jt (fs.lookup f) (mA f)|.rng lo hi=>∃t u v,h.get? a=some {cls:=.type "range",data:=.fields #[.int lo t,.int hi u,.int 1 v]}|.frz o u=>h.get? a=some o/\bL H h a u|.tbl ps=>h.get? a=some {cls:=.none,data:=.fields ps}|.met f x=>h.get? a=some (PySem.W.methodObj (.ref f) (.ref x))|.ext φ=>φ h/\(∃o,h.get? a=some o)/\∀h1 h2:Heap,φ h1->(∀o,h1.get? a=some o->h2.get? a=some o)->φ h2
def iO (H:Hp)(h:Heap):Prop:=∀a o,H a=some o->bL P w H h a o
end
section
variable {P:Program}{w:World}{H H':Hp}{h h':Heap}{a:Addr}{o:HO}
theorem bL.lt (x:bL P w H h a o):a < h.objs.size:=by
 cases o with
 |lst xs=>obtain⟨_,_,_,_,e⟩:=x;exact Y8 e
 |tup xs=>obtain⟨_,_,_,p⟩:=x;exact p.lt
 |dK MI=>obtain⟨_,_,_,_,o,_,_,e,_⟩:=x;exact Y8 e
 |dT MI=>obtain⟨_,_,_,_,o,_,_,e,_⟩:=x;exact Y8 e
 |set S n=>obtain⟨o,_,_,_,e,_⟩:=x;exact Y8 e
 |ins C dx fs=>obtain⟨_,_,_,e,_⟩:=x;exact Y8 e
 |own y=>obtain⟨_,e⟩:=x;exact Y8 e
 |xd fs=>obtain⟨_,⟨_,_,_,e,_⟩,_⟩:=x;exact Y8 e
 |rng lo hi=>obtain⟨_,_,_,e⟩:=x;exact Y8 e
 |frz ob u=>obtain⟨e,_⟩:=x;exact Y8 e
 |tbl ps=>exact Y8 (show h.get? a=some _ from x)|met f y=>exact Y8 (show h.get? a=some _ from x)|ext φ=>obtain⟨_,⟨_,e⟩,_⟩:=x;exact Y8 e
theorem Paired.eV {α β:Type}{F G:α->β->Prop}:∀{l₁:List α} {l₂:List β},Paired F l₁ l₂->(∀a b,F a b->G a b)->Paired G l₁ l₂
 |_,_,.nil,_=>.nil|_,_,.cons r t,f=>.cons (f _ _ r) (Paired.eV t f)
def bL.ly (x:bL P w H h a o)(k:∀b u,(b=a\/H b=some (.own a))->h.get? b=some u->h'.get? b=some u)
  (ho:∀b,H b=some (.own a)->H' b=some (.own a))(ht:∀b xs,H b=some (.tup xs)->H' b=some (.tup xs)):bL P w H' h' a o:=by
 induction o with
 |lst xs=>obtain⟨z,MJ,n,r,e⟩:=x;exact⟨z,MJ,n,r,k _ _ (.inl rfl) e⟩
 |tup xs=>obtain⟨z,MJ,r,ob,e,c⟩:=x;exact⟨z,MJ,r,ob,k _ _ (.inl rfl) e,c⟩
 |dK MI=>obtain⟨z,y,vs,r,ob,es,ep,e,c⟩:=x;exact⟨z,y,vs,r,ob,es,ep,k _ _ (.inl rfl) e,c⟩
 |dT MI =>obtain⟨z,y,xs,r,ob,es,ep,e,c⟩:=x;exact⟨z,y,xs,Paired.eV r λp q z=>⟨z.1,ht _ _ z.2.1,z.2.2⟩,ob,es,ep,k _ _ (.inl rfl) e,c⟩
 |set S n=>obtain⟨ob,es,ep,t,e,c⟩:=x;exact⟨ob,es,ep,t,k _ _ (.inl rfl) e,c⟩
 |ins C dx fs =>obtain⟨d,z,ne,e,mA,⟨od,es,ep,e2,c⟩,r⟩:=x;exact⟨ho _ d,z,ne,k _ _ (.inl rfl) e,mA,⟨od,es,ep,k _ _ (.inr d) e2,c⟩,r⟩
 |own y=>obtain⟨ob,e⟩:=x;exact⟨ob,k _ _ (.inl rfl) e⟩
 |xd fs=>obtain⟨mA,⟨od,es,ep,e,c⟩,r⟩:=x;exact⟨mA,⟨od,es,ep,k _ _ (.inl rfl) e,c⟩,r⟩
 |rng lo hi=>obtain⟨t,u,v,e⟩:=x;exact⟨t,u,v,k _ _ (.inl rfl) e⟩
 |frz ob u ih=>obtain⟨e,q⟩:=x;exact⟨k _ _ (.inl rfl) e,ih q⟩
 |tbl ps =>have e:h.get? a=some {cls:=.none,data:=.fields ps}:=x;show h'.get? a=some {cls:=.none,data:=.fields ps};exact k a _ (.inl rfl) e|met f y =>have e:h.get? a=some (PySem.W.methodObj (.ref f) (.ref y)):=x;show h'.get? a=some (PySem.W.methodObj (.ref f) (.ref y));exact k a _ (.inl rfl) e|ext φ=>obtain⟨p,⟨o,e⟩,st⟩:=x;exact⟨st _ _ p λo q=>k _ _ (.inl rfl) q,⟨o,k _ _ (.inl rfl) e⟩,st⟩
theorem iO.lt (x:iO P w H h)(e:H a=some o):a < h.objs.size:=(x a o e).lt
def iO.fresh (x:iO P w H h)(e:h.objs.size<=a):H a=none:=by
 cases q:H a with
 |none=>rfl|some u=>exact absurd (Zz (x.lt q) e) (aad _)
def iO.kept (x:iO P w H h)(k:∀b u,h.get? b=some u->h'.get? b=some u):iO P w H h':=λa o e =>(x a o e).ly (λb u _ q=>k b u q) (λ_ q=>q) λ_ _ q=>q
def iO.laid (x:iO P w H h)(k:∀b u,h.get? b=some u->h'.get? b=some u)(hp:h.objs.size<=a)(new:bL P w (upd H a o) h' a o):iO P w (upd H a o) h':=λb u e=>by
 have hn:=x.fresh hp;by_cases hb:b=a
 . subst hb;rw[ae] at e;cases e;exact new
 rw[aq hb] at e;exact (x b u e).ly (λc v _ q=>k c v q) (λc q=>by rw[aq (ao q hn)];exact q) λc xs q=>by rw[aq (ao q hn)];exact q
end
def Rd (H:Hp)(a:Addr)(u:HO):Prop:=H a=some u\/∃o,H a=some (.frz o u)
def Rd.ok {P:Program}{w:World}(r:Rd H a u)(x:iO P w H h):bL P w H h a u:=by
 rcases r with r|⟨o,r⟩
 . exact x a u r
 obtain⟨_,q⟩:=x a _ r;exact q
def JE:Option HO->Prop
 |some (.lst _)=>True|some (.dK _)=>True|some (.dT _)=>True|some (.set _ _)=>True|some (.ins _ _ _)=>True|some (.ext _)=>True|_=>False
section
variable {P:Program}{w:World}{H:Hp}{h h':Heap}{x e:Addr}{o':HO}
def iO.write (ok:iO P w H h) (mu:JE (H x)) (he:e=x\/H e=some (.own x)) (k:∀b u,b≠e->h.get? b=some u->h'.get? b=some u) (Pj:∃u,h'.get? e=some u)
  (new:bL P w (upd H x o') h' x o'):iO P w (upd H x o') h':=λb u q=>by
 have P2:∀c y,H c=some (.own y)->c≠x:=λc y r z=>by subst z;rw[r] at mu;exact mu
 have R3:∀c xs,H c=some (.tup xs)->c≠x:=λc xs r z=>by subst z;rw[r] at mu;exact mu
 by_cases hb:b=x
 . subst hb;rw[ae] at q;cases q;exact new
 rw[aq hb] at q;by_cases OV:b=e
 . have q':H b=some (.own x):=by
    rcases he with z|z
    . exact absurd (OV.trans z) hb
    rw[OV];exact z
   rw[q] at q';cases q';obtain⟨v,hv⟩:=Pj;exact⟨v,by rw[OV];exact hv⟩
 refine (ok b u q).ly (λc v hc r=>k c v ?_ r) (λc r=>by rw[aq (P2 c b r)];exact r) λc xs r=>by rw[aq (R3 c xs r)];exact r
 rcases hc with rfl|hc
 . exact OV
 rintro rfl;rcases he with z|z
 . exact P2 c b hc z
 rw[hc] at z;cases z;exact hb rfl
end
structure Un (fs ex:List Addr)(H H':Hp)(h h':Heap):Prop where
 keep:∀b o,h.get? b=some o->H b=none->b∉fs->b∉ex->h'.get? b=some o
 slot:∀b o,h.get? b=some o->H b=none->b∈fs->b∉ex->∃sl,h'.get? b=some {o with slots:=sl}
 free:∀b o,h.get? b=some o->H b=none->b∉ex->H' b=none
 there:∀b o,h.get? b=some o->b∉ex->∃o',h'.get? b=some o'
 o_:∀b xs,H b=some (.tup xs)->H' b=some (.tup xs)
 nP:∀b o u,H b=some (.frz o u)->H' b=some (.frz o u)
 o5:∀b ps,H b=some (.tbl ps)->∃more,H' b=some (.tbl (ps++more))
section
variable {fs Nc ex ex':List Addr}{H H1 H2:Hp}{h h1 h2 h':Heap}{a x e:Addr}{o:HO}
def Un.any (u:Un fs ex H H1 h h1) {b:Addr} {ob:Obj} (q:h.get? b=some ob) (n:H b=none) (hx:b∉ex):∃sl,h1.get? b=some {ob with slots:=sl}:=by
 by_cases hb:b∈fs
 . exact u.slot b ob q n hb hx
 exact⟨ob.slots,u.keep b ob q n hb hx⟩
def Un.kept (k:∀b u,h.get? b=some u->h'.get? b=some u):Un fs ex H H h h' :=
 ⟨λb ob q _ _ _=>k b ob q,λb ob q _ _ _=>⟨ob.slots,k b ob q⟩,λ_ _ _ n _=>n,λb ob q _=>⟨ob,k b ob q⟩,λ_ _ q=>q,λ_ _ _ q=>q,λ_ ps q=>⟨#[],by rw[q];simp⟩⟩
def Un.refl:Un fs ex H H h h:=Un.kept λ_ _ q=>q
def Un.laid (k:∀b u,h.get? b=some u->h'.get? b=some u)(hp:h.objs.size<=a)(hn:H a=none):Un fs ex H (upd H a o) h h' where
 keep:=λb u q _ _ _=>k b u q
 slot:=λb u q _ _ _=>⟨u.slots,k b u q⟩
 free:=λb u q n _=>by rw[aq (Zv (Zz (Y8 q) hp))];exact n
 there:=λb u q _=>⟨u,k b u q⟩
 o_:=λb xs q=>by rw[aq (ao q hn)];exact q
 nP:=λb u xs q=>by rw[aq (ao q hn)];exact q
 o5:=λb ps q=>⟨#[],by rw[aq (ao q hn),q];simp⟩
def Un.write (mu:JE (H x))(he:e=x\/H e=some (.own x))(k:∀b u,b≠e->h.get? b=some u->h'.get? b=some u)(Pj:∃u,h'.get? e=some u):Un fs ex H (upd H x o) h h':=by
 have hx:∀b,H b=none->b≠x:=λb n z=>by subst z;rw[n] at mu;exact mu
 have hb:∀b,H b=none->b≠e:=λb n z=>by
  subst z;rcases he with r|r
  . exact hx b n r
  rw[n] at r;cases r
 have hm:∀b u,H b=some u->¬JE (some u)->b≠x:=λb u q nm z=>by subst z;rw[q] at mu;exact nm mu
 refine⟨λb u q n _ _=>k b u (hb b n) q,λb u q n _ _=>⟨u.slots,k b u (hb b n) q⟩,λb u q n _=>by rw[aq (hx b n)];exact n,λb u q _=>?_,
  λb xs q=>by rw[aq (hm b _ q λz=>z)];exact q,λb u xs q=>by rw[aq (hm b _ q λz=>z)];exact q,λb ps q=>⟨#[],by rw[aq (hm b _ q λz=>z),q];simp⟩⟩
 by_cases OV:b=e
 . subst OV;exact Pj
 exact⟨u,k b u OV q⟩
end
def Lb (h:Heap)(H:Hp):List Addr:=(List.range h.objs.size).filter λa=>(H a).isSome
def um (h:Heap)(H:Hp):Heap:=PySem.W.hideAll h (Lb h H)
def A3 (h:Heap)(H:Hp):(um h H).objs.size=h.objs.size:=PySem.W.hideAll_size _ _
def DE {o:Obj}(e:h.get? b=some o)(n:H b=none):(um h H).get? b=some o :=
 PySem.W.hideAll_get _ e λhm=>by have q:(H b).isSome=true:=(Z3.mp hm).2;rw[n] at q;simp at q
def Eo {o:Obj}(e:(um h H).get? b=some o):h.get? b=some o/\H b=none:=by
 have e':h.get? b=some o:=PySem.W.of_hideAll (Lb h H) e;refine⟨e',?_⟩;cases q:H b with
 |none=>rfl|some x =>have hm:b∈Lb h H:=Z3.mpr ⟨aaG.mpr (Y8 e'),by simp[q]⟩;have z:(um h H).get? b=none:=PySem.W.hideAll_none (Lb h H) hm;rw[z] at e;cases e
structure Mod (K:abB)(mg:abD)(MH:Heap):Prop where
 GZ:K.In MH
 glob:MH.Ns mainGlobals mg
 blt:∃mb,MH.Ns builtinsNs mb/\∀x:Str,x≠"__name__"->mb x=bootBuiltins x
 nolimit:MH.NoLimit
structure Cx where
 prog:Program
 w:World
 K:abB
 mg:Str->Option Value
 MH:Heap
 A:Around
 N:List Str
 lA:Shared
 Jz:Hp
 env:Env
 outer:List Env
 stack:List Env
 ex:List Addr
 fn:Str->Bool
 calm:Bool
 pn:abE
 xe:Value->Shared->Prop
def xm (l:List Env):List Addr:=l.filterMap (·.frame)
abbrev Cx.fs (X:Cx):List Addr:=xm X.outer
def Jx (sc:Scope)(x:Str):Prop:=sc.names.lookup x=some .local\/sc.names.lookup x=some .cell\/sc.names.lookup x=some .free
def Loc (sc:Scope)(x:Str):Prop:=sc.names.lookup x=some .local\/sc.names.lookup x=some .cell
def Look (env:Env)(h:Heap)(m:abD)(x:Str)(u:Value):Prop :=
 (env.kindOf x=some .local/\m x=some u)\/((env.kindOf x=some .cell\/env.kindOf x=some .free)/\∃c,env.cells.lookup x=some c/\h.IsCell c (some u))
structure Cx.Ok (X:Cx):Prop where
 mod:Mod X.K X.mg X.MH
 kind:X.env.scope.kind=.function
 glob:X.env.globals=mainGlobals
 blt:X.env.builtins=builtinsNs
 above:X.lA.heap.objs.size<=X.env.locals
 inj:∀x y c,X.env.cells.lookup x=some c->X.env.cells.lookup y=some c->x=y
 has:∀x,(X.env.kindOf x=some .cell\/X.env.kindOf x=some .free)->∃c,X.env.cells.lookup x=some c
 JA:∀x c,X.fn x=true->X.env.cells.lookup x=some c->X.lA.heap.objs.size<=c
 hd:X.calm=true->X.A.handled=none
 frames:X.A.frames=some X.stack
 G7:X.stack=X.outer\/(X.stack=X.env::X.outer/\X.env.frame=some X.env.locals)
 JV:∀b∈X.ex,b≠X.env.locals/\∀x c,X.env.cells.lookup x=some c->c≠b
 bs:∀b o,X.MH.get? b=some o->X.lA.heap.get? b=some o/\X.Jz b=none
 D3:X.MH.objs.size<=X.lA.heap.objs.size
 Bp:∀b o,X.MH.get? b=some o->b∉X.ex
 Ba:∀b∈X.ex,b∉X.fs
 m_:X.lA.heap.FunFrames X.MH X.outer
 GJ:∀b∈X.fs,X.Jz b=none
structure Inv (X:Cx)(MG:abE)(σ:List (Option V))(H:Hp)(s:Shared):Prop where
 ok:X.Ok
 os:s.os=X.lA.os
 bare:AllBare s.gens
 MH:Un X.fs X.ex X.Jz H X.lA.heap s.heap
 loc:∃m,s.heap.Ns X.env.locals m/\∀(i:Nat) (x:Str) (v:V),X.N[i]?=some x->σ[i]?=some (some v)->Jx X.env.scope x->∃u,RelV v u/\Look X.env s.heap m x u
 cell:∀x c,X.env.cells.lookup x=some c->∃v,s.heap.IsCell c v
 free:H X.env.locals=none
 h_:∀x c,X.env.cells.lookup x=some c->H c=none
 pin:∀p∈X.pn++MG,s.heap.get? p.1=some p.2/\H p.1=none/\p.1≠X.env.locals/\p.1∉X.fs/\∀v,p.2.data≠.cell v
 bw:iO X.prog X.w H s.heap
 len:σ.length=X.N.length
section
variable {X:Cx}{MG:abE}{σ:List (Option V)}{H H':Hp}{s:Shared}{h':Heap}
def Cx.Ok.LF (ok:X.Ok) {b:Addr} {o:Obj} (e:X.MH.get? b=some o):b∉X.fs:=λhb=>by have:=(ok.m_.mem hb).1;rw[e] at this;cases this
theorem Inv.bs (I:Inv X MG σ H s):∀b o,X.MH.get? b=some o->s.heap.get? b=some o/\H b=none:=λb o e =>⟨I.MH.keep b o (I.ok.bs b o e).1 (I.ok.bs b o e).2 (I.ok.LF e) (I.ok.Bp b o e),I.MH.free b o (I.ok.bs b o e).1 (I.ok.bs b o e).2 (I.ok.Bp b o e)⟩
def Inv.bk (I:Inv X MG σ H s):∀b o,X.MH.get? b=some o->s.heap.get? b=some o:=λb o e=>(I.bs b o e).1
theorem Inv.mod (I:Inv X MG σ H s):Mod X.K X.mg X.MH:=I.ok.mod
def Inv.n_ (I:Inv X MG σ H s):X.K.In s.heap:=I.ok.mod.GZ.keeps I.bk
theorem Inv.lt (I:Inv X MG σ H s):X.env.locals < s.heap.objs.size:=let ⟨_,hn,_⟩:=I.loc;hn.lt
def Inv.sz (I:Inv X MG σ H s):X.lA.heap.objs.size<=s.heap.objs.size:=ZH I.ok.above (Nat.le_of_lt I.lt)
def Inv.Lp (I:Inv X MG σ H s){a:Addr}(h:s.heap.objs.size<=a):a∉X.fs:=λhb=>by obtain⟨_,o,ho,_⟩:=I.ok.m_.mem hb;exact absurd (Zz (Y8 ho) (ZH I.sz h)) (aad _)
def Inv.G4 (I:Inv X MG σ H s):∀x c,X.env.cells.lookup x=some c->c≠X.env.locals:=λx c e z=>by obtain⟨v,o,ho,hd⟩:=I.cell x c e;obtain⟨m,⟨o',es,ep,M3,Nf,_⟩,_⟩:=I.loc;rw[z,M3] at ho;cases ho;rw[Nf] at hd;cases hd
theorem Inv.m_ (I:Inv X MG σ H s):s.heap.FunFrames X.MH X.outer:=by
 have all:∀(l:List Env),(∀b∈xm l,b∈X.fs)->X.lA.heap.FunFrames X.MH l->s.heap.FunFrames X.MH l:=by
  intro l
  induction l with
  |nil=>intro _ _;trivial|cons env r ih =>intro hs hl;obtain⟨hk,⟨L,o,hf,hn,ho,hd⟩,hr⟩:=hl;have hL:L∈X.fs:=hs L (by unfold xm;rw[abo,hf];exact ZG);obtain⟨sl,e⟩:=I.MH.slot L o ho (I.ok.GJ L hL) hL λz=>I.ok.Ba L z hL;exact⟨hk,⟨L,_,hf,hn,e,hd⟩,ih (λb hb=>hs b (by unfold xm;rw[abo,hf];exact Zc _ hb)) hr⟩
 exact all X.outer (λ_ hb=>hb) I.ok.m_
theorem Inv.stack (I:Inv X MG σ H s):s.heap.FunFrames X.MH X.stack:=by
 rcases I.ok.G7 with e|⟨e,hf⟩
 . rw[e];exact I.m_
 rw[e];obtain⟨m,hn,_⟩:=I.loc;refine .cons (by rw[I.ok.kind];decide) hf hn ?_ I.m_;exact Heap.get?_none_of_le (ZH I.ok.D3 I.ok.above)
def Inv.yE (I:Inv X MG σ H s):∀b∈xm X.stack,b∈X.env.locals::X.fs:=λb hb=>by
 rcases I.ok.G7 with e|⟨e,hf⟩
 . rw[e] at hb;exact Zc _ hb
 rw[e] at hb;unfold xm at hb;rw[abo,hf] at hb;exact hb
def Inv.uP (I:Inv X MG σ H s):∀b∈xm X.stack,H b=none:=λb hb=>by
 rcases Y0.mp (I.yE b hb) with e|hb
 . rw[e];exact I.free
 obtain⟨_,o,ho,_⟩:=I.ok.m_.mem hb;exact I.MH.free b o ho (I.ok.GJ b hb) λz=>I.ok.Ba b z hb
def xy (z:h.objs.size<=b):h.get? b=none:=by
 cases e:h.get? b with
 |none=>rfl|some o=>exact absurd (Zz (Y8 e) z) (aad _)
def Inv.GQ {g':Array GenState}{d':Drawn}(I:Inv X MG σ H s)
  (M4:∀b∈ch,(b∈X.ex\/X.lA.heap.get? b=none)/\b≠X.env.locals/\(∀x c,X.env.cells.lookup x=some c->c≠b)/\∀p∈X.pn++MG,p.1≠b)
  (keep:∀b o,b≠X.env.locals->b∉X.fs->b∉ch->s.heap.get? b=some o->H b=none->h'.get? b=some o)
  (slot:∀b o,b≠X.env.locals->b∈X.fs->b∉ch->s.heap.get? b=some o->H b=none->∃sl,h'.get? b=some {o with slots:=sl})(free:∀b o,b∉ch->s.heap.get? b=some o->H b=none->H' b=none)
  (there:∀b o,b∉ch->s.heap.get? b=some o->∃o',h'.get? b=some o')
  (o_:∀b xs,H b=some (.tup xs)->H' b=some (.tup xs))(nP:∀b o u,H b=some (.frz o u)->H' b=some (.frz o u))(o5:∀b ps,H b=some (.tbl ps)->∃more,H' b=some (.tbl (ps++more)))
  (ns:∀m,s.heap.Ns X.env.locals m->h'.Ns X.env.locals m)(bw:iO X.prog X.w H' h')(hg:AllBare g') :
  Inv X MG σ H' {s with heap:=h',gens:=g',drawn:=d',toks:=t'}:=by
 have Um:∀b o,X.lA.heap.get? b=some o->b≠X.env.locals:=λb o e=>Zv (Zz (Y8 e) I.ok.above);have QY:∀b o,X.lA.heap.get? b=some o->b∉X.ex->b∉ch:=λb o e hx hb=>by
  rcases (M4 b hb).1 with z|z
  . exact hx z
  rw[z] at e;cases e
 have cellK:∀x c,X.env.cells.lookup x=some c->∀v,s.heap.IsCell c v->h'.IsCell c v:=λx c e v ⟨o,ho,hd⟩=>by
  have P4:c∉ch:=λz=>(M4 c z).2.2.1 x c e rfl;by_cases hc:c∈X.fs
  . obtain⟨sl,q⟩:=slot c o (I.G4 x c e) hc P4 ho (I.h_ x c e);exact⟨_,q,hd⟩
  exact⟨o,keep c o (I.G4 x c e) hc P4 ho (I.h_ x c e),hd⟩
 refine⟨I.ok,I.os,hg,⟨λb o e n hb hx=>?_,λb o e n hb hx=>?_,λb o e n hx=>?_,λb o e hx=>?_,λb xs e=>o_ b xs (I.MH.o_ b xs e),λb o xs e=>nP b o xs (I.MH.nP b o xs e),λb ps e=>?_⟩,?_,λx c e=>?_,?_,λx c e=>?_,λp hp=>?_,bw,I.len⟩
 . exact keep b o (Um b o e) hb (QY b o e hx) (I.MH.keep b o e n hb hx) (I.MH.free b o e n hx)
 . obtain⟨sl,e1⟩:=I.MH.slot b o e n hb hx;obtain⟨Wm,e2⟩:=slot b _ (Um b o e) hb (QY b o e hx) e1 (I.MH.free b o e n hx);exact⟨Wm,e2⟩
 . obtain⟨o',e1⟩:=I.MH.there b o e hx;exact free b o' (QY b o e hx) e1 (I.MH.free b o e n hx)
 . obtain⟨o',e1⟩:=I.MH.there b o e hx;exact there b o' (QY b o e hx) e1
 . obtain⟨m1,e1⟩:=I.MH.o5 b ps e;obtain⟨m2,e2⟩:=o5 b _ e1;exact⟨m1++m2,by rw[e2,Array.append_assoc]⟩
 . obtain⟨m,hn,hl⟩:=I.loc;refine⟨m,ns m hn,λi x v e1 e2 e3=>?_⟩;obtain⟨u,r,l⟩:=hl i x v e1 e2 e3;refine⟨u,r,?_⟩;rcases l with l|⟨k,c,e,z⟩
   . exact .inl l
   exact .inr ⟨k,c,e,cellK x c e _ z⟩
 . obtain⟨v,z⟩:=I.cell x c e;exact⟨v,cellK x c e v z⟩
 . obtain⟨m,⟨o,_,_,ho,_⟩,_⟩:=I.loc;exact free _ o (λz=>(M4 _ z).2.1 rfl) ho I.free
 . obtain⟨v,o,ho,hd⟩:=I.cell x c e;exact free c o (λz=>(M4 c z).2.2.1 x c e rfl) ho (I.h_ x c e)
 obtain⟨e,n,ne,nf,d⟩:=I.pin p hp;have P4:p.1∉ch:=λz=>(M4 p.1 z).2.2.2 p hp rfl;exact⟨keep p.1 p.2 ne nf P4 e n,free p.1 p.2 P4 e n,ne,nf,d⟩
def Inv.step {g':Array GenState}{d':Drawn}(I:Inv X MG σ H s)
  (M4:∀b∈ch,(b∈X.ex\/X.lA.heap.objs.size<=b)/\b≠X.env.locals/\(∀x c,X.env.cells.lookup x=some c->c≠b)/\∀p∈X.pn++MG,p.1≠b)
  (keep:∀b o,b≠X.env.locals->b∉X.fs->b∉ch->s.heap.get? b=some o->H b=none->h'.get? b=some o)
  (slot:∀b o,b≠X.env.locals->b∈X.fs->b∉ch->s.heap.get? b=some o->H b=none->∃sl,h'.get? b=some {o with slots:=sl})(free:∀b o,b∉ch->s.heap.get? b=some o->H b=none->H' b=none)
  (there:∀b o,b∉ch->s.heap.get? b=some o->∃o',h'.get? b=some o')
  (o_:∀b xs,H b=some (.tup xs)->H' b=some (.tup xs))(nP:∀b o u,H b=some (.frz o u)->H' b=some (.frz o u))(o5:∀b ps,H b=some (.tbl ps)->∃more,H' b=some (.tbl (ps++more)))
  (ns:∀m,s.heap.Ns X.env.locals m->h'.Ns X.env.locals m)(bw:iO X.prog X.w H' h')(hg:AllBare g') :
  Inv X MG σ H' {s with heap:=h',gens:=g',drawn:=d',toks:=t'}:=I.GQ (λb hb=>⟨(M4 b hb).1.imp id λz=>xy z,(M4 b hb).2⟩) keep slot free there o_ nP o5 ns bw hg
def Inv.un (I:Inv X MG σ H s)(u:Un X.fs [] H H' s.heap h')(bw:iO X.prog X.w H' h'):Inv X MG σ H' {s with heap:=h',toks:=t'}:=by
 obtain⟨m,⟨o,es,ep,ho,r⟩,_⟩:=id I.loc;obtain⟨sl,hL⟩:=u.any ho I.free (by simp);exact I.step (g':=s.gens) (d':=s.drawn) (ch:=[]) (λ_ z=>nomatch z) (λb o _ hb _ e n=>u.keep b o e n hb (by simp)) (λb o _ hb _ e n=>u.slot b o e n hb (by simp)) (λb o _ e n=>u.free b o e n (by simp)) (λb o _ e=>u.there b o e (by simp)) u.o_ u.nP u.o5 (λm' hm=>by obtain⟨o',R4,R5,M3,r'⟩:=hm;rw[ho] at M3;cases M3;exact⟨_,R4,R5,hL,r'⟩) bw I.bare
def Inv.G2 {g':Array GenState}{d':Drawn}(I:Inv X MG σ H s)(u:Un (xm X.stack) ch H H' s.heap h')(bw:iO X.prog X.w H' h')(hg:AllBare g')
  (M4:∀b∈ch,(b∈X.ex\/X.lA.heap.get? b=none)/\b≠X.env.locals/\(∀x c,X.env.cells.lookup x=some c->c≠b)/\∀p∈X.pn++MG,p.1≠b) :
  Inv X MG σ H' {s with heap:=h',gens:=g',drawn:=d',toks:=t'}:=by
 obtain⟨m,⟨o,es,ep,ho,r⟩,_⟩:=id I.loc;obtain⟨sl,hL⟩:=u.any ho I.free λz=>(M4 _ z).2.1 rfl;exact I.GQ (ch:=ch) M4 (λb o hL hb hc e n=>u.keep b o e n (λz=>(Y0.mp (I.yE b z)).elim hL hb) hc) (λb o _ _ hc e n=>u.any e n hc) (λb o hc e n=>u.free b o e n hc) (λb o hc e=>u.there b o e hc) u.o_ u.nP u.o5 (λm' hm=>by obtain⟨o',R4,R5,M3,r'⟩:=hm;rw[ho] at M3;cases M3;exact⟨_,R4,R5,hL,r'⟩) bw hg
def Inv.call {g':Array GenState}{d':Drawn}(I:Inv X MG σ H s)(u:Un (xm X.stack) ch H H' s.heap h')(bw:iO X.prog X.w H' h')(hg:AllBare g')
  (M4:∀b∈ch,(b∈X.ex\/X.lA.heap.objs.size<=b)/\b≠X.env.locals/\(∀x c,X.env.cells.lookup x=some c->c≠b)/\∀p∈X.pn++MG,p.1≠b) :
  Inv X MG σ H' {s with heap:=h',gens:=g',drawn:=d',toks:=t'}:=I.G2 u bw hg (λb hb=>⟨(M4 b hb).1.imp id λz=>xy z,(M4 b hb).2⟩)
def Inv.turned {it:Addr}(I:Inv X MG σ H s)(k:∀b o,b≠it->s.heap.get? b=some o->h'.get? b=some o)(hn:H it=none)(hL:it≠X.env.locals)
  (h1:it∈X.ex\/X.lA.heap.objs.size<=it)(h2:∀x c,X.env.cells.lookup x=some c->c≠it)(h3:∀p∈X.pn++MG,p.1≠it):Inv X MG σ H {s with heap:=h',toks:=t'}:=by
 have Oz:∀b u,H b=some u->b≠it:=λb u e z=>by rw[z,hn] at e;cases e
 refine I.step (g':=s.gens) (d':=s.drawn) (ch:=[it]) (λb hb=>?_) (λb o _ _ hc e _=>k b o (λz=>hc (by simp[z])) e) (λb o _ _ hc e _=>⟨o.slots,k b o (λz=>hc (by simp[z])) e⟩) (λ_ _ _ _ n=>n)
  (λb o hc e=>⟨o,k b o (λz=>hc (by simp[z])) e⟩) (λ_ _ e=>e) (λ_ _ _ e=>e) (λb ps e=>⟨#[],by rw[e];simp⟩) (λm hm=>?_) (λb u e=>?_) I.bare
 . have e:b=it:=by simpa using hb
   subst e;exact⟨h1,hL,h2,h3⟩
 . obtain⟨o,es,ep,ho,r⟩:=hm;exact⟨o,es,ep,k _ o (abr hL) ho,r⟩
 refine (I.bw b u e).ly (λc v hc q=>k c v ?_ q) (λ_ q=>q) λ_ _ q=>q;rcases hc with z|z
 . rw[z];exact Oz b u e
 exact Oz c _ z
def Inv.tok (I:Inv X MG σ H s)(t:Nat):Inv X MG σ H {s with toks:=t}:=I.un (h':=s.heap) (t':=t) Un.refl I.bw
theorem Inv.kept {t':Nat}(I:Inv X MG σ H s)(k:∀b u,s.heap.get? b=some u->h'.get? b=some u):Inv X MG σ H {s with heap:=h',toks:=t'}:=I.un (Un.kept k) (I.bw.kept k)
theorem Inv.laid {a:Addr}{o:HO}{t':Nat}(I:Inv X MG σ H s)(k:∀b u,s.heap.get? b=some u->h'.get? b=some u)(hp:s.heap.objs.size<=a)(new:bL X.prog X.w (upd H a o) h' a o) :
  Inv X MG σ (upd H a o) {s with heap:=h',toks:=t'}:=I.un (Un.laid k hp (I.bw.fresh hp)) (I.bw.laid k hp new)
theorem Inv.write {x e:Addr}{o:HO}{t':Nat}(I:Inv X MG σ H s)(mu:JE (H x))(he:e=x\/H e=some (.own x))(k:∀b u,b≠e->s.heap.get? b=some u->h'.get? b=some u)(Pj:∃u,h'.get? e=some u)
  (new:bL X.prog X.w (upd H x o) h' x o):Inv X MG σ (upd H x o) {s with heap:=h',toks:=t'}:=I.un (Un.write mu he k Pj) (I.bw.write mu he k Pj new)
def Inv.weak {σ':List (Option V)}(I:Inv X MG σ H s)(hl:σ'.length=σ.length)(w:∀(i:Nat) v,σ'[i]?=some (some v)->σ[i]?=some (some v)):Inv X MG σ' H s :=
 ⟨I.ok,I.os,I.bare,I.MH,let ⟨m,hn,PV⟩:=I.loc;⟨m,hn,λi x v e1 e2 e3=>PV i x v e1 (w i v e2) e3⟩,I.cell,I.free,I.h_,I.pin,I.bw,hl.trans I.len⟩
def Inv.mG {pins':abE}(I:Inv X MG σ H s)(h:∀p∈pins',s.heap.get? p.1=some p.2/\H p.1=none/\p.1≠X.env.locals/\p.1∉X.fs/\∀v,p.2.data≠.cell v):Inv X pins' σ H s :=
 ⟨I.ok,I.os,I.bare,I.MH,I.loc,I.cell,I.free,I.h_,λp hp=>(ZJ.mp hp).elim (λz=>I.pin p (List.mem_append_left _ z)) (h p),I.bw,I.len⟩
def qk {N:List Str}(hN:N.Nodup){i j:Nat}{x:Str}(a:N[i]?=some x)(b:N[j]?=some x):i=j:=by obtain⟨h1,e1⟩:=Y9.mp a;obtain⟨h2,e2⟩:=Y9.mp b;exact (List.getElem_inj hN).mp (e1.trans e2.symm)
def sP {M:Model}{A:Around}{E:abC}{i:Nat}{x:Str}{v:V}{u:Value}{Q:Unit->Shared->Prop}(I:Inv X MG σ H s)(hN:X.N.Nodup)(hi:X.N[i]?=some x)(hx:Loc X.env.scope x)(r:RelV v u)
  (h:∀s',Inv X MG (σ.set i (some v)) H s'->(∃a,Heap.SameBut a s.heap s'.heap/\(a=X.env.locals\/X.env.cells.lookup x=some a))->Q () s')(hf:X.fn x=true\/X.env.scope.names.lookup x=some .local:=by first|exact .inl rfl|exact .inr rfl|assumption):wpAny M A (storeName X.env x u) Q E s:=by
 obtain⟨m,hn,hl⟩:=id I.loc;have R6:(X.env.scope.kind==.class||(X.env.scope.kind==.module&&X.env.locals != X.env.globals))=false:=by rw[I.ok.kind];rfl
 have hiσ:i < σ.length:=by rw[I.len];exact (Y9.mp hi).1
 have G4:=I.G4;have tracked:∀{a:Addr} {h':Heap},(∃o,s.heap.get? a=some o/\H a=none)->Heap.SameBut a s.heap h'->iO X.prog X.w H h':=λ{a h'} ha hs b ob e=>by
  obtain⟨_,_,M5⟩:=ha;refine (I.bw b ob e).ly (λc w' hc q=>(hs.2 c ?_).trans q) (λ_ q=>q) λ_ _ q=>q;rintro rfl;rcases hc with rfl|hc
  . rw[M5] at e;cases e
  rw[M5] at hc;cases hc
 rcases hx with hk|hk
 . refine wpAny_storeName_local hk hn (λh' NY hs=>?_) R6;obtain⟨oL,_,_,Wn,_⟩:=id hn;refine h _ ⟨I.ok,I.os,I.bare,⟨λb o e n hb hx=>?_,λb o e n hb hx=>?_,I.MH.free,λb o e hx=>?_,I.MH.o_,I.MH.nP,I.MH.o5⟩,⟨_,NY,λj y v' e1 e2 e3=>?_⟩,λy c e=>?_,I.free,I.h_,λp hp=>?_,tracked ⟨oL,Wn,I.free⟩ hs,by simpa using I.len⟩ ⟨_,hs,.inl rfl⟩
   . exact (hs.2 b (Zv (Zz (Y8 e) I.ok.above))).trans (I.MH.keep b o e n hb hx)
   . obtain⟨sl,e1⟩:=I.MH.slot b o e n hb hx;exact⟨sl,(hs.2 b (Zv (Zz (Y8 e) I.ok.above))).trans e1⟩
   . obtain⟨o',e1⟩:=I.MH.there b o e hx;exact⟨o',(hs.2 b (Zv (Zz (Y8 e) I.ok.above))).trans e1⟩
   . by_cases hj:j=i
     . subst hj;rw[hi] at e1;cases e1;rw[aa9 hiσ] at e2;cases e2;exact⟨u,r,.inl ⟨hk,by simp⟩⟩
     rw[List.getElem?_set_ne (abr hj)] at e2;obtain⟨u',r',q⟩:=hl j y v' e1 e2 e3;refine⟨u',r',?_⟩;rcases q with ⟨k,e⟩|⟨k,c,e,z⟩
     . refine .inl ⟨k,?_⟩;have:y≠x:=λe=>hj (qk hN e1 (e ▸ hi));simp[this,e]
     exact .inr ⟨k,c,e,z.sameBut hs (G4 y c e)⟩
   . obtain⟨w',z⟩:=I.cell y c e;exact⟨w',z.sameBut hs (G4 y c e)⟩
   obtain⟨e,n,ne,nf,d⟩:=I.pin p hp;exact⟨(hs.2 p.1 ne).trans e,n,ne,nf,d⟩
 have R7:X.fn x=true:=by
  rcases hf with z|z
  . exact z
  rw[z] at hk;cases hk
 obtain⟨c,hc⟩:=I.ok.has x (.inl hk);obtain⟨w',z⟩:=I.cell x c hc;refine wpAny_storeName_cell I.ok.kind hk hc z (λh' PK hs=>?_);obtain⟨oc,Uo,R8⟩:=id z;refine h {s with heap:=h'} ⟨I.ok,I.os,I.bare,⟨λb o e n hb hx=>?_,λb o e n hb hx=>?_,I.MH.free,λb o e hx=>?_,I.MH.o_,I.MH.nP,I.MH.o5⟩,⟨m,hn.sameBut hs (abr (G4 x c hc)),λj y v' e1 e2 e3=>?_⟩,λy c' e=>?_,I.free,I.h_,λp hp=>?_,tracked ⟨oc,Uo,I.h_ x c hc⟩ hs,by simpa using I.len⟩ ⟨c,hs,.inr hc⟩
 . exact (hs.2 b (Zv (Zz (Y8 e) (I.ok.JA x c R7 hc)))).trans (I.MH.keep b o e n hb hx)
 . obtain⟨sl,e1⟩:=I.MH.slot b o e n hb hx;exact⟨sl,(hs.2 b (Zv (Zz (Y8 e) (I.ok.JA x c R7 hc)))).trans e1⟩
 . obtain⟨o',e1⟩:=I.MH.there b o e hx;exact⟨o',(hs.2 b (Zv (Zz (Y8 e) (I.ok.JA x c R7 hc)))).trans e1⟩
 . by_cases hj:j=i
   . subst hj;rw[hi] at e1;cases e1;rw[aa9 hiσ] at e2;cases e2;exact⟨u,r,.inr ⟨.inl hk,c,hc,PK⟩⟩
   rw[List.getElem?_set_ne (abr hj)] at e2;obtain⟨u',r',q⟩:=hl j y v' e1 e2 e3;refine⟨u',r',?_⟩;rcases q with q|⟨k,c',e,z'⟩
   . exact .inl q
   refine .inr ⟨k,c',e,z'.sameBut hs ?_⟩;rintro rfl;exact hj (qk hN e1 (I.ok.inj _ _ _ e hc ▸ hi))
 . by_cases R9:c'=c
   . subst R9;exact⟨_,PK⟩
   obtain⟨w2,z2⟩:=I.cell y c' e;exact⟨w2,z2.sameBut hs R9⟩
 obtain⟨e,n,ne,nf,d⟩:=I.pin p hp;refine⟨(hs.2 p.1 ?_).trans e,n,ne,nf,d⟩;intro q;rw[q,Uo] at e;have q':oc=p.2:=Zw e;exact d w' (by rw[<-q'];exact R8)
def mz {M:Model}{A:Around}{E:abC}{i:Nat}{x:Str}{v:V}{u:Value}{Q:Unit->Shared->Prop}(I:Inv X MG σ H s)(hN:X.N.Nodup)(hi:X.N[i]?=some x)(hx:Loc X.env.scope x)(r:RelV v u)
  (h:∀s',Inv X MG (σ.set i (some v)) H s'->Q () s')(hf:X.fn x=true\/X.env.scope.names.lookup x=some .local:=by first|exact .inl rfl|exact .inr rfl|assumption):wpAny M A (storeName X.env x u) Q E s :=
 sP I hN hi hx r (λs' I' _=>h s' I') hf
def Inv.Hh {s':Shared}(I:Inv X MG σ H s)(ho:s'.os=s.os)(u:Un (xm X.stack) ch H H' s.heap s'.heap)(bw:iO X.prog X.w H' s'.heap)(hg:AllBare s'.gens)
  (M4:∀b∈ch,(b∈X.ex\/X.lA.heap.get? b=none)/\b≠X.env.locals/\(∀x c,X.env.cells.lookup x=some c->c≠b)/\∀p∈X.pn++MG,p.1≠b):Inv X MG σ H' s':=by
 obtain⟨h',g',d',t',o'⟩:=s';have e:o'=s.os:=ho;subst e;exact I.G2 (g':=g') (t':=t') (d':=d') u bw hg M4
def Inv.G6 {s':Shared}(I:Inv X MG σ H s)(ho:s'.os=s.os)(u:Un (xm X.stack) ch H H' s.heap s'.heap)(bw:iO X.prog X.w H' s'.heap)(hg:AllBare s'.gens)
  (M4:∀b∈ch,(b∈X.ex\/X.lA.heap.objs.size<=b)/\b≠X.env.locals/\(∀x c,X.env.cells.lookup x=some c->c≠b)/\∀p∈X.pn++MG,p.1≠b):Inv X MG σ H' s':=I.Hh ho u bw hg (λb hb=>⟨(M4 b hb).1.imp id λz=>xy z,(M4 b hb).2⟩)
end
abbrev XK:=Value->Option Addr->Hp->Prop
abbrev St:=List (Option V)
abbrev VK:=V->Hp->Prop
abbrev TE:=St->Hp->VK->Prop
abbrev TT:=St->Hp->(Bool->Hp->Prop)->Prop
abbrev TA:=St->Hp->(List V->Hp->Prop)->Prop
structure Ends where
 nx:St->Hp->Prop
 rt:VK
 bk:St->Hp->Prop:=λ_ _=>False
 ct:St->Hp->Prop:=λ_ _=>False
abbrev TS:=Ends->St->Hp->Prop
variable{u:Value}{E:abC}{s:Shared}{pos:Pos}{MG:abE}{σ:St}
def EP (X:Cx)(MG:abE)(σ:St)(Q:VK)(u:Value)(s':Shared):Prop:=∃v H',Inv X MG σ H' s'/\RelV v u/\Q v H'
def TP (X:Cx)(MG:abE)(σ:St)(Q:Bool->Hp->Prop)(b:Bool)(s':Shared):Prop:=∃H',Inv X MG σ H' s'/\Q b H'
def AP (X:Cx)(MG:abE)(σ:St)(Q:List V->Hp->Prop)(us:abF)(s':Shared):Prop:=∃vs H',Inv X MG σ H' s'/\Vals vs us/\Q vs H'
def SP (X:Cx)(MG:abE)(D:Ends)(f:Flow)(s':Shared):Prop :=
 match f with
 |.next=>∃σ' H',Inv X MG σ' H' s'/\D.nx σ' H'|.brk=>∃σ' H',Inv X MG σ' H' s'/\D.bk σ' H'|.cont=>∃σ' H',Inv X MG σ' H' s'/\D.ct σ' H'|.ret u=>∃v σ' H',Inv X MG σ' H' s'/\RelV v u/\D.rt v H'
def PE (X:Cx)(e:Expr)(t:TE):Prop :=
 ∀(MG:abE) (s:Shared) (σ:St) (H:Hp) (Q:VK),Inv X MG σ H s->t σ H Q->wpAny (model X.prog X.w) X.A (eval e X.env) (EP X MG σ Q) X.xe s
def PT (X:Cx)(e:Expr)(t:TT):Prop :=
 ∀(MG:abE) (s:Shared) (σ:St) (H:Hp) (Q:Bool->Hp->Prop),Inv X MG σ H s->t σ H Q->wpAny (model X.prog X.w) X.A (isTrue e X.env (eval e X.env)) (TP X MG σ Q) X.xe s
def PW (X:Cx)(e:Expr)(t:TT):Prop :=
 ∀(whole:Sem Value) (MG:abE) (s:Shared) (σ:St) (H:Hp) (Q:Bool->Hp->Prop),Inv X MG σ H s->t σ H Q->wpAny (model X.prog X.w) X.A (isTrue e X.env whole) (TP X MG σ Q) X.xe s
def PW.pt {X:Cx}{e:Expr}{t:TT}(h:PW X e t):PT X e t:=h _
def PA (X:Cx)(es:List Expr)(t:TA):Prop :=
 ∀(pos:Pos) (MG:abE) (s:Shared) (σ:St) (H:Hp) (Q:List V->Hp->Prop),Inv X MG σ H s->t σ H Q->wpAny (model X.prog X.w) X.A (spliced (backTo pos (starEach es X.env))) (AP X MG σ Q) X.xe s
def PS (X:Cx)(st:Stmt)(t:TS):Prop :=
 ∀(MG:abE) (s:Shared) (σ:St) (H:Hp) (D:Ends),Inv X MG σ H s->t D σ H->wpAny (model X.prog X.w) X.A (exec st X.env) (SP X MG D) X.xe s
def sh (X:Cx)(st:List Stmt)(t:TS):Prop :=
 ∀(MG:abE) (s:Shared) (σ:St) (H:Hp) (D:Ends),Inv X MG σ H s->t D σ H->wpAny (model X.prog X.w) X.A (execs st X.env) (SP X MG D) X.xe s
def L7 (X:Cx)(st:Stmt)(t:TS):Prop :=
 ∀(s:Shared) (σ:St) (H:Hp) (D:Ends),Inv X [] σ H s->t D σ H->wpAny (model X.prog X.w) X.A (exec st X.env) (SP X [] D) X.xe s
def C5 (X:Cx)(st:List Stmt)(t:TS):Prop :=
 ∀(s:Shared) (σ:St) (H:Hp) (D:Ends),Inv X [] σ H s->t D σ H->wpAny (model X.prog X.w) X.A (execs st X.env) (SP X [] D) X.xe s
def bE {α:Type}{t:Sem α}{Q Q':α->Shared->Prop}{M:Model}{A:Around}(h:wpAny M A t Q E s)(hQ:∀a s,Q a s->Q' a s):wpAny M A t Q' E s:=aaa h hQ λ_ _ x=>x
section
variable {X:Cx}
def cf (i:Nat):TE:=λσ H Q=>∃v,σ[i]?=some (some v)/\Q v H
def tC (v:V):TE:=λ_ H Q=>Q v H
def ID {i:Nat}{x:Str}(hN:X.N[i]?=some x)(hv:Jx X.env.scope x)(hd:(x==("__debug__":Str))=false:=by decide)(Ni:(x==("__classdict__":Str))=false:=by decide):PE X (.Name x pos) (cf i):=by
 intro MG s σ H Q I h;obtain⟨v,e,h⟩:=h;obtain⟨m,hn,hl⟩:=I.loc;obtain⟨u,r,l⟩:=hl i x v hN e hv;have fin:EP X MG σ Q u s:=⟨v,H,I,r,h⟩;rcases l with ⟨hk,hm⟩|⟨hk,c,hc,Nv⟩
 . exact wpAny_Name (wpAny_loadName_local I.ok.kind hk hn hm fin) hd
 rcases hk with hk|hk
 . exact wpAny_Name (wpAny_loadName_cell I.ok.kind hk hc Nv fin) hd
 exact wpAny_Name (wpAny_loadName_free I.ok.kind hk hc Nv fin Ni) hd
def ax {i j pos}:PE X (.Constant (.int i) j pos) (tC (.int i)):=λ_ _ _ H _ I h=>wpAny_Constant_int ⟨.int i,H,I.tok _,⟨_,rfl⟩,h⟩
def mN {b j pos}:PE X (.Constant (.bool b) j pos) (tC (.bl b)):=λ_ _ _ H _ I h=>Constant_bool ⟨.bl b,H,I,rfl,h⟩
def cO {j pos}:PE X (.Constant .none j pos) (tC .cv):=λ_ _ _ H _ I h=>Constant_none ⟨.cv,H,I,rfl,h⟩
def bt {x j pos}:PE X (.Constant (.str x) j pos) (tC (.str x)):=λ_ _ _ H _ I h=>Calls.Constant_str ⟨.str x,H,I.tok _,⟨_,rfl⟩,h⟩
def Gl (X:Cx)(x:Str):Prop:=X.env.kindOf x=some .globalImplicit
def nj {x:Str}{Q:abC}(I:Inv X MG σ H s)(hg:Gl X x)(hm:X.mg x=some u)(h:Q u s)
  (hd:(x==("__debug__":Str))=false:=by decide):wpAny (model X.prog X.w) X.A (eval (.Name x pos) X.env) Q E s :=
 Calls.Name_function_global I.ok.kind hg (Calls.loadGlobal_global (by rw[I.ok.glob];exact I.mod.glob.keeps I.bk) hm h) hd
def lM {x:Str}{Q:abC}(I:Inv X MG σ H s)(hg:Gl X x)(hm:X.mg x=none)(hv:bootBuiltins x=some u)(h:Q u s)
  (hn:x≠"__name__":=by decide)(hd:(x==("__debug__":Str))=false:=by decide):wpAny (model X.prog X.w) X.A (eval (.Name x pos) X.env) Q E s:=by
 obtain⟨mb,h1,h2⟩:=I.mod.blt;exact Calls.Name_function_global I.ok.kind hg (Calls.loadGlobal_builtin (by rw[I.ok.glob];exact I.mod.glob.keeps I.bk) hm (by rw[I.ok.blt];exact h1.keeps I.bk) ((h2 x hn).trans hv) h) hd
def FZ {x:Str}{v:V}(hg:Gl X x)(hm:X.mg x=some u)(r:RelV v u)(hd:(x==("__debug__":Str))=false:=by decide):PE X (.Name x pos) (tC v) :=
 λ_ _ _ H _ I h=>nj I hg hm ⟨v,H,I,r,h⟩ hd
variable {a b:Expr}{ta tb:TE}{pos:Pos}
def PC (X:Cx) (op:CmpOp) (a b:Expr) (t:TE):Prop :=
 ∀(MG:abE) (s:Shared) (σ:St) (H:Hp) (Q:VK),Inv X MG σ H s->t σ H Q ->
  wpAny (model X.prog X.w) X.A (eval a X.env) (λv s₁=>wpAny (model X.prog X.w) X.A (eval b X.env) (λu s₂=>wpAny (model X.prog X.w) X.A (compareOp op v u) (EP X MG σ Q) X.xe s₂) X.xe s₁) X.xe s
def tB (t:TE):TT:=λσ H Q=>t σ H λx H1=>∃c,x=.bl c/\Q c H1
def HG {op:CmpOp}{t:TE}(h:PC X op a b t)(h1:behindInMarks op b=false:=by first|exact NP _ (by decide) (by decide)|rfl):PE X (.Compare a [op] [b] pos) t:=λMG s σ H Q I hw=>wpAny_Compare1 (h MG s σ H Q I hw) h1
def rm {op:CmpOp}{t:TE}(h:PC X op a b t)(h1:behindInMarks op b=false:=by first|exact NP _ (by decide) (by decide)|rfl):PT X (.Compare a [op] [b] pos) (tB t):=by intro MG s σ H Q I hw;refine wpAny_isTrue_Compare1 (bE (h MG s σ H _ I hw) λv s1 h1=>bE h1 λu s2 h2=>bE h2 λc s3 ⟨x,H1,I1,r1,q1⟩=>?_) h1;obtain⟨d,rfl,q⟩:=q1;cases r1;exact Z8 ⟨H1,I1,q⟩
def iL {e:Expr}{t:TE}(h:PE X e t)(he:∀whole,isTrue e X.env whole=(do let v <-whole;standAt e.pos;holding [v] (truthy v)):=by intro _;rfl):PT X e (tB t):=by intro MG s σ H Q I hw;refine isTrue_plain (bE (h MG s σ H _ I hw) λv s1 ⟨x,H1,I1,r1,q1⟩=>?_) (he _);obtain⟨d,rfl,q⟩:=q1;cases r1;exact Z8 ⟨H1,I1,q⟩
variable {tA QZ:TT}{rest:List Expr}
def JU (t u:TT):TT:=λσ H Q=>t σ H λc H1=>if c=true then u σ H1 Q else Q false H1
def Mi (t u:TT):TT:=λσ H Q=>t σ H λc H1=>if c=true then Q true H1 else u σ H1 Q
def JH (t:TT):TT:=λσ H Q=>t σ H λc H1=>Q (!c) H1
def pA (ha:PT X a tA):PW X (.BoolOp .And [a] pos) tA:=by
 intro wh MG s σ H Q I h;refine isTrue_and (bE (ha MG s σ H Q I h) λc s1 e=>?_);cases c with
 |true=>exact isTrue_and_nil e|false=>exact e
def cY (ha:PT X a tA):PW X (.BoolOp .Or [a] pos) tA:=by
 intro wh MG s σ H Q I h;refine isTrue_or (bE (ha MG s σ H Q I h) λc s1 e=>?_);cases c with
 |false=>exact isTrue_or_nil e|true=>exact e
def uO (ha:PT X a tA)(hb:PW X (.BoolOp .And (b::rest) pos) QZ):PW X (.BoolOp .And (a::b::rest) pos) (JU tA QZ):=by
 intro wh MG s σ H Q I h;refine isTrue_and (bE (ha MG s σ H _ I h) λc s1 ⟨H1,I1,q1⟩=>?_);cases c with
 |true=>exact hb wh MG s1 σ H1 Q I1 q1|false=>exact⟨H1,I1,q1⟩
def fh (ha:PT X a tA)(hb:PW X (.BoolOp .Or (b::rest) pos) QZ):PW X (.BoolOp .Or (a::b::rest) pos) (Mi tA QZ):=by
 intro wh MG s σ H Q I h;refine isTrue_or (bE (ha MG s σ H _ I h) λc s1 ⟨H1,I1,q1⟩=>?_);cases c with
 |true=>exact⟨H1,I1,q1⟩|false=>exact hb wh MG s1 σ H1 Q I1 q1
def cH (ha:PT X a tA):PT X (.UnaryOp .Not a pos) (JH tA):=by intro MG s σ H Q I h;exact isTrue_not (ha MG s σ H (λc H1=>Q (!c) H1) I h)
def Hc (ta tb:TE):TE:=λσ H Q=>ta σ H λx H1=>∃c,x=.bl c/\if c=true then tb σ H1 Q else Q (.bl false) H1
def Kz (ta tb:TE):TE:=λσ H Q=>ta σ H λx H1=>∃c,x=.bl c/\if c=true then Q (.bl true) H1 else tb σ H1 Q
def yq {op}{t:TE}(h:PE X a t):PE X (.BoolOp op [a] pos) t:=λMG s σ H Q I hw=>BoolOp_one (h MG s σ H Q I hw)
def ya (ha:PE X a ta)(hb:PE X (.BoolOp .And (b::rest) pos) tb):PE X (.BoolOp .And (a::b::rest) pos) (Hc ta tb):=by
 intro MG s σ H Q I h;refine BoolOp_and (bE (ha MG s σ H _ I h) λv s1 ⟨x,H1,I1,r1,q1⟩=>?_);obtain⟨c,rfl,q1⟩:=q1;cases r1;refine Z8 ?_;cases c with
 |true=>exact hb MG s1 σ H1 Q I1 q1|false=>exact⟨.bl false,H1,I1,rfl,q1⟩
def JM (ha:PE X a ta)(hb:PE X (.BoolOp .Or (b::rest) pos) tb):PE X (.BoolOp .Or (a::b::rest) pos) (Kz ta tb):=by
 intro MG s σ H Q I h;refine BoolOp_or (bE (ha MG s σ H _ I h) λv s1 ⟨x,H1,I1,r1,q1⟩=>?_);obtain⟨c,rfl,q1⟩:=q1;cases r1;refine Z8 ?_;cases c with
 |false=>exact hb MG s1 σ H1 Q I1 q1|true=>exact⟨.bl true,H1,I1,rfl,q1⟩
def MF (t:TT)(ta tb:TE):TE:=λσ H Q=>t σ H λc H1=>if c=true then ta σ H1 Q else tb σ H1 Q
def C7 {c:Expr}(hc:PT X c tA)(ha:PE X a ta)(hb:PE X b tb):PE X (.IfExp c a b pos) (MF tA ta tb):=by
 intro MG s σ H Q I h;refine wpAny_IfExp (bE (hc MG s σ H _ I h) λd s1 ⟨H1,I1,q1⟩=>?_);cases d with
 |true=>exact ha MG s1 σ H1 Q I1 q1|false=>exact hb MG s1 σ H1 Q I1 q1
end
def aP (K:abB)(H:Hp)(a:Addr)(xs:List V):Prop :=
 Rd H a (.lst xs) \/
  ∃(o:Obj) (MJ:Array Value) (n:Nat),K.lookup a=some o/\o.cls=.type "list"/\o.dict=none/\o.data=.seq MJ n/\MJ.size<=sizeLine/\Vals xs MJ.toList
def bY (K:abB)(H:Hp)(a:Addr)(xs:List V):Prop :=
 Rd H a (.tup xs) \/
  ∃(o:Obj) (MJ:Array Value) (n:Nat),K.lookup a=some o/\o.cls=.type "tuple"/\o.data=.seq MJ n/\MJ.size<=sizeLine/\Vals xs MJ.toList
def B5:Value->Option V
 |.none=>some .cv|.bool b=>some (.bl b)|.int i _=>some (.int i)|.str x _=>some (.str x)|.bytes b _=>some (.xq b)|.float b _=>some (.flt b)|.ref a=>some (.ref a)|.type n=>some (.ty n)|_=>none
def RelV.abs {x:V}(r:RelV x u):B5 u=some x:=by
 cases x with
 |cv=>cases r;rfl|bl _=>cases r;rfl|int _=>obtain⟨t,rfl⟩:=r;rfl
 |str _=>obtain⟨t,rfl⟩:=r;rfl
 |xq _=>obtain⟨t,rfl⟩:=r;rfl
 |flt _=>obtain⟨t,rfl⟩:=r;rfl
 |ref _=>cases r;rfl|ty _=>cases r;rfl
def RelV.inj {x y:V}(r:RelV x u)(q:RelV y u):x=y:=Zw (r.abs.symm.trans q.abs)
theorem Vals.inj:∀{xs ys:List V} {us:abF},Vals xs us->Vals ys us->xs=ys
 |_,_,_,.nil,.nil=>rfl|_,_,_,.cons r t,.cons r' t'=>by rw[r.inj r',Vals.inj t t']
section
variable {X:Cx}{MG:abE}{σ:St}{H:Hp}{s:Shared}{a:Addr}{xs ys:List V}
def aP.of {K:abB}(h:H a=some (.lst xs)):aP K H a xs:=.inl (.inl h)
def bY.of {K:abB}(h:H a=some (.tup xs)):bY K H a xs:=.inl (.inl h)
def Inv.list (I:Inv X MG σ H s)(h:aP X.K H a xs):∃MJ:abF,Vals xs MJ/\PlainL s.heap a MJ.toArray/\xs.length<=sizeLine:=by
 rcases h with h|⟨o,MJ,n,hk,hc,hd,hs,hz,r⟩
 . obtain⟨z,MJ,n,r,e⟩:=h.ok I.bw;exact⟨MJ,r,⟨_,n,e,rfl,rfl,rfl⟩,z⟩
 refine⟨MJ.toList,r,⟨o,n,I.n_ a o hk,hc,hd,by simpa using hs⟩,?_⟩;have e:=r.length;simp only[aaD] at e;omega
def Inv.tuple (I:Inv X MG σ H s)(h:bY X.K H a xs):∃MJ:abF,Vals xs MJ/\IsTup s.heap a MJ.toArray/\xs.length<=sizeLine:=by
 rcases h with h|⟨o,MJ,n,hk,hc,hs,hz,r⟩
 . obtain⟨z,MJ,r,p⟩:=h.ok I.bw;exact⟨MJ,r,p,z⟩
 refine⟨MJ.toList,r,⟨o,I.n_ a o hk,hc,n,by simpa using hs⟩,?_⟩;have e:=r.length;simp only[aaD] at e;omega
def Inv.rK (I:Inv X MG σ H s)(h:aP X.K H a xs)(h':aP X.K H a ys):xs=ys:=by
 obtain⟨MJ,r,⟨o,n,e,_,_,d⟩,_⟩:=I.list h;obtain⟨its',r',⟨o',n',e',_,_,d'⟩,_⟩:=I.list h';rw[e] at e';cases e';rw[d] at d';injection d' with d1 _;have:MJ=its':=by simpa using Z0 Array.toList d1
 subst this;exact r.inj r'
def Inv.tu (I:Inv X MG σ H s)(h:bY X.K H a xs)(h':bY X.K H a ys):xs=ys:=by
 obtain⟨MJ,r,⟨o,e,_,n,d⟩,_⟩:=I.tuple h;obtain⟨its',r',⟨o',e',_,n',d'⟩,_⟩:=I.tuple h';rw[e] at e';cases e';rw[d] at d';injection d' with d1 _;have:MJ=its':=by simpa using Z0 Array.toList d1
 subst this;exact r.inj r'
end
abbrev Cx.iT (X:Cx)(E:abC):Cx:={X with xe:=E}
abbrev Cx.Je (X:Cx):Cx:=X.iT λ_ _=>False
theorem Cx.Ok.iT {X:Cx}(ok:X.Ok)(E:abC):(X.iT E).Ok :=
 ⟨ok.mod,ok.kind,ok.glob,ok.blt,ok.above,ok.inj,ok.has,ok.JA,ok.hd,ok.frames,ok.G7,ok.JV,ok.bs,ok.D3,ok.Bp,ok.Ba,ok.m_,ok.GJ⟩
def Cx.Ok.dk {X:Cx}(ok:(X.iT E).Ok):X.Ok :=
 ⟨ok.mod,ok.kind,ok.glob,ok.blt,ok.above,ok.inj,ok.has,ok.JA,ok.hd,ok.frames,ok.G7,ok.JV,ok.bs,ok.D3,ok.Bp,ok.Ba,ok.m_,ok.GJ⟩
section
variable {X:Cx}{MG:abE}{σ:St}{H:Hp}{s:Shared}{E:abC}
theorem Inv.iT (I:Inv X MG σ H s) (E:abC):Inv (X.iT E) MG σ H s:=⟨I.ok.iT E,I.os,I.bare,I.MH,I.loc,I.cell,I.free,I.h_,I.pin,I.bw,I.len⟩
theorem Inv.dk (I:Inv (X.iT E) MG σ H s):Inv X MG σ H s:=⟨I.ok.dk,I.os,I.bare,I.MH,I.loc,I.cell,I.free,I.h_,I.pin,I.bw,I.len⟩
theorem SP.dk {D:Ends}{f:Flow}{s':Shared}(h:SP (X.iT E) MG D f s'):SP X MG D f s':=by
 cases f with
 |next=>obtain⟨σ',H',I,q⟩:=h;exact⟨σ',H',I.dk,q⟩
 |brk=>obtain⟨σ',H',I,q⟩:=h;exact⟨σ',H',I.dk,q⟩
 |cont=>obtain⟨σ',H',I,q⟩:=h;exact⟨σ',H',I.dk,q⟩
 |ret u=>obtain⟨v,σ',H',I,r,q⟩:=h;exact⟨v,σ',H',I.dk,r,q⟩
theorem sh.Je {st:List Stmt}{t:TS}(h:sh X.Je st t):sh X st t:=λMG s σ H D I hw =>aaa (h MG s σ H D (I.iT _) hw) (λ_ _ q=>q.dk) λ_ _ z=>False.elim z
end
section
variable {X:Cx}{st:Stmt}{rest:List Stmt}{t u:TS}{e:Expr}{te:TE}{pos:Pos}
def BF:TS:=λD σ H=>D.nx σ H
def Eu (t u:TS):TS:=λD σ H=>t {D with nx:=u D} σ H
def aC:sh X [] BF:=λ_ _ σ H _ I h=>aaP ⟨σ,H,I,h⟩
def af (h1:PS X st t)(h2:sh X rest u):sh X (st::rest) (Eu t u):=by
 intro MG s σ H D I h;refine wpAny_execs_cons (bE (h1 MG s σ H {D with nx:=u D} I h) λf s1 q=>?_);cases f with
 |next =>obtain⟨σ',H',I',q⟩:=q;exact h2 MG s1 σ' H' D I' q
 |ret v=>exact q|brk=>exact q|cont=>exact q
def ak (h1:PS X st t):sh X [st] t:=by
 intro MG s σ H D I h;refine wpAny_execs_cons (bE (h1 MG s σ H D I h) λf s1 q=>?_);cases f with
 |next=>exact aaP q|ret v=>exact q|brk=>exact q|cont=>exact q
def Inv.quiet (I:Inv X MG σ H s):interactive X.env=false:=by simp[interactive,I.ok.kind]
def J5 (te:TE):TS:=λD σ H=>te σ H λ_ H1=>D.nx σ H1
def eJ (he:PE X e te)(hs:swapsWith e none pos.line X.env=pure false:=by rfl):PS X (.Expr e pos) (J5 te):=by intro MG s σ H D I h;exact wpAny_Expr_any (bE (he MG s σ H _ I h) λv s1 ⟨x,H1,I1,r1,q1⟩=>⟨σ,H1,I1,q1⟩) I.quiet hs
def Dg (te:TE):TS:=λD σ H=>te σ H D.rt
def aA (he:PE X e te):PS X (.Return (some e) pos) (Dg te):=by intro MG s σ H D I h;exact wpAny_Return_some (bE (he MG s σ H _ I h) λv s1 ⟨x,H1,I1,r1,q1⟩=>⟨x,σ,H1,I1,r1,q1⟩)
def JT (c:TT)(t u:TS):TS:=λD σ H=>c σ H λb H1=>if b=true then t D σ H1 else u D σ H1
def aO {c:Expr}{a b:List Stmt}{tc:TT}(hc:PT X c tc)(ha:sh X a t)(hb:sh X b u):PS X (.If c a b pos) (JT tc t u):=by
 intro MG s σ H D I h;refine wpAny_If (bE (hc MG s σ H _ I h) λd s1 ⟨H1,I1,q1⟩=>?_);cases d with
 |true=>exact ha MG s1 σ H1 D I1 q1|false=>exact hb MG s1 σ H1 D I1 q1
end
abbrev TG:=V->St->Hp->(St->Hp->Prop)->Prop
variable{e:Expr}{te:TE}{i:Nat}{pos':Pos}
abbrev IF:=List V->St->Hp->(St->Hp->Prop)->Prop
def PG (X:Cx)(target:Expr)(t:TG):Prop :=
 ∀(MG:abE) (s:Shared) (σ:St) (H:Hp) (v:V) (u:Value) (Q:St->Hp->Prop),Inv X MG σ H s->RelV v u->t v σ H Q ->
  wpAny (model X.prog X.w) X.A (assign target X.env u) (λ_ s'=>∃σ' H',Inv X MG σ' H' s'/\Q σ' H') X.xe s
def K0 (X:Cx)(ts:List Expr)(t:IF):Prop :=
 ∀(MG:abE) (s:Shared) (σ:St) (H:Hp) (vs:List V) (us:abF) (Q:St->Hp->Prop),Inv X MG σ H s->Vals vs us->t vs σ H Q ->
  wpAny (model X.prog X.w) X.A (assignInOrder ((assignEach ts X.env).map (·.2)) us) (λ_ s'=>∃σ' H',Inv X MG σ' H' s'/\Q σ' H') X.xe s
abbrev Ho:=V->V->V->Hp->(Hp->Prop)->Prop
def Kd (X:Cx)(t:Ho):Prop :=
 ∀(MG:abE) (s:Shared) (σ:St) (H:Hp) (o i v:V) (ov iv u:Value) (Q:Hp->Prop),Inv X MG σ H s->RelV o ov->RelV i iv->RelV v u->t o i v H Q ->
  wpAny (model X.prog X.w) X.A (setItem ov iv u) (λ_ s'=>∃H',Inv X MG σ H' s'/\Q H') X.xe s
abbrev JC:=V->V->Hp->VK->Prop
def K1 (X:Cx)(op:Operator)(t:JC):Prop :=
 ∀(MG:abE) (s:Shared) (σ:St) (H:Hp) (x y:V) (v u:Value) (Q:VK),Inv X MG σ H s->RelV x v->RelV y u->t x y H Q ->
  wpAny (model X.prog X.w) X.A (inplaceOp op v u) (EP X MG σ Q) X.xe s
section
variable {X:Cx}{pos:Pos}
def f7 (i:Nat):TG:=λv σ H Q=>Q (σ.set i (some v)) H
def uv {x:Str}(hN:X.N.Nodup)(hi:X.N[i]?=some x)(hx:Loc X.env.scope x)(hf:X.fn x=true\/X.env.scope.names.lookup x=some .local:=by first|exact .inl rfl|exact .inr rfl|assumption):PG X (.Name x pos) (f7 i):=by intro MG s σ H v u Q I r h;exact wpAny_assign_Name (mz I hN hi hx r (λs' I'=>⟨_,H,I',h⟩) hf)
def Et:IF:=λvs σ H Q=>vs=[]/\Q σ H
def qv (t:TG)(u:IF):IF:=λvs σ H Q=>∃v r,vs=v::r/\t v σ H λσ' H'=>u r σ' H' Q
def jl:K0 X [] Et:=by intro MG s σ H vs us Q I r h;obtain⟨e,h⟩:=h;subst e;cases r;exact assignInOrder_nil ⟨σ,H,I,h⟩
def cp {es:List Expr}{t:TG}{u:IF}(h1:PG X e t)(h2:K0 X es u)
  (hs:(assignEach (e::es) X.env).map (·.2)=assign e X.env::(assignEach es X.env).map (·.2):=by rfl):K0 X (e::es) (qv t u):=by
 intro MG s σ H vs us Q I r h;obtain⟨v,vr,e1,h⟩:=h;subst e1;cases r with
 |cons r rr =>rw[hs];refine assignInOrder_cons (bE (h1 MG s σ H _ _ _ I r h) λ_ s1 ⟨σ1,H1,I1,q1⟩=>?_);exact h2 MG s1 σ1 H1 _ _ Q I1 rr q1
def Ej (K:abB)(n:Nat)(t:IF):TG:=λv σ H Q=>∃a xs,v=.ref a/\bY K H a xs/\xs.length=n/\t xs σ H Q
def lR {es:List Expr}{k:Nat}{t:IF}{n:Nat}(hc:X.calm=true)(h:K0 X es t)
  (hn:(assignEach es X.env).length=n:=by rfl)(Nm:(assignEach es X.env).findIdx? (·.1)=none:=by rfl):PG X (.Tuple es k pos) (Ej X.K n t):=by
 intro MG s σ H v u Q I r hw;obtain⟨a,xs,e1,hq,hl,hw⟩:=hw;subst e1;cases r;obtain⟨MJ,rv,ht,hz⟩:=I.tuple hq;refine assign_Tuple_tuple (I.ok.hd hc) ht (by simp[hn,<-hl,rv.length]) Nm λh' hx=>?_;have I1:Inv X MG σ H {s with heap:=h'}:=I.kept (t':=s.toks) λb o e=>hx b o (Zv (Y8 e)) e;exact h MG _ σ H xs _ Q I1 (by simpa using rv) hw
def xi (te:TE)(g:TG):TS:=λD σ H=>te σ H λx H1=>g x σ H1 D.nx
def CO {tg:Expr}{g:TG}(he:PE X e te)(hg:PG X tg g)(hs:swapsWithSole [tg] e pos.line X.env=pure false:=by rfl)(hw:swappedStores [tg] e X.env=pure none:=by rfl)
  (h1:(assignEach [tg] X.env).map (·.2)=[assign tg X.env]:=by rfl):PS X (.Assign [tg] e pos) (xi te g):=by
 intro MG s σ H D I h;refine wpAny_Assign_stores (bE (he MG s σ H _ I h) λv s1 ⟨x,H1,I1,r1,q1⟩=>?_) hs hw;rw[h1];exact bE (hg MG s1 σ H1 x v _ I1 r1 q1) λ_ s2 q=>q
def qF {x:Str}(hN:X.N.Nodup)(hi:X.N[i]?=some x)(hx:Loc X.env.scope x)(he:PE X e te)(hs:swapsWith e (some (.Name x pos')) pos.line X.env=pure false:=by rfl)(hf:X.fn x=true\/X.env.scope.names.lookup x=some .local:=by first|exact .inl rfl|exact .inr rfl|assumption) :
  PS X (.Assign [.Name x pos'] e pos) (xi te (f7 i)):=by
 intro MG s σ H D I h;refine wpAny_Assign_Name (bE (he MG s σ H _ I h) λv s1 ⟨y,H1,I1,r1,q1⟩=>?_) hs;exact mz I1 hN hi hx r1 (λs2 I2=>⟨_,H1,I2,q1⟩) hf
def L1 (i:Nat)(te:TE)(ti:JC):TS:=λD σ H=>∃x,σ[i]?=some (some x)/\te σ H λy H1=>ti x y H1 λz H2=>D.nx (σ.set i (some z)) H2
def uz {x:Str}{op:Operator}{ti:JC}(hN:X.N.Nodup)(hi:X.N[i]?=some x)(hx:Loc X.env.scope x)(he:PE X e te)(ho:K1 X op ti)(hf:X.fn x=true\/X.env.scope.names.lookup x=some .local:=by first|exact .inl rfl|exact .inr rfl|assumption) :
  PS X (.AugAssign (.Name x pos') op e pos) (L1 i te ti):=by
 intro MG s σ H D I h;obtain⟨v,e1,h⟩:=h;obtain⟨m,hn,hl⟩:=I.loc;have Wo:Jx X.env.scope x:=by rcases hx with k|k;exact .inl k;exact .inr (.inl k)
 obtain⟨u,r,l⟩:=hl i x v hi e1 Wo;refine wpAny_AugAssign_Name ?_;have go:wpAny (model X.prog X.w) X.A (eval e X.env) (λw s₂=>wpAny (model X.prog X.w) X.A (inplaceOp op u w) (λr s₃=>wpAny (model X.prog X.w) X.A (storeName X.env x r) (λ_=>SP X MG D .next) X.xe s₃) X.xe s₂) X.xe s:=by refine bE (he MG s σ H _ I h) λw s1 ⟨y,H1,I1,r1,q1⟩=>?_;refine bE (ho MG s1 σ H1 v y u w _ I1 r r1 q1) λz s2 ⟨zv,H2,I2,r2,q2⟩=>?_;exact mz I2 hN hi hx r2 (λs3 I3=>⟨_,H2,I3,q2⟩) hf
 rcases l with ⟨hk,hm⟩|⟨hk,c,hc,Nv⟩
 . exact wpAny_loadName_local I.ok.kind hk hn hm go
 rcases hk with hk|hk
 . exact wpAny_loadName_cell I.ok.kind hk hc Nv go
 rcases hx with k|k
 . have:X.env.scope.names.lookup x=some .free:=hk;rw[k] at this;cases this
 have:X.env.scope.names.lookup x=some .free:=hk;rw[k] at this;cases this
def KY (to ti te:TE)(Oc:V->V->Hp->VK->Prop)(Q0:JC)(Od:Ho):TS:=λD σ H=>to σ H λo H1=>ti σ H1 λi H2=>Oc o i H2 λx H3=>te σ H3 λy H4=>Q0 x y H4 λz H5=>Od o i z H5 λH6=>D.nx σ H6
def JF (X:Cx)(t:V->V->Hp->VK->Prop):Prop :=
 ∀(MG:abE) (s:Shared) (σ:St) (H:Hp) (o i:V) (ov iv:Value) (Q:VK),Inv X MG σ H s->RelV o ov->RelV i iv->t o i H Q ->
  wpAny (model X.prog X.w) X.A (getItem ov iv) (EP X MG σ Q) X.xe s
def Gh {o i:Expr}{to ti:TE}{Oc:V->V->Hp->VK->Prop}{Q0:JC}{Od:Ho}{op:Operator}{MX:Pos}(ho:PE X o to)(hi:PE X i ti)(hg:JF X Oc)(he:PE X e te)(hp:K1 X op Q0)(hs:Kd X Od)
  (ha:∀ov iv new,augStore i ov iv new=(do holding [new,ov,iv] (setItem ov iv new);release [new,ov,iv] [];pure .next):=by intros;rfl):PS X (.AugAssign (.Subscript o i MX) op e pos) (KY to ti te Oc Q0 Od):=by
 intro MG s σ H D I h;refine wpAny_AugAssign_SubscriptAny (bE (ho MG s σ H _ I h) λov s1 ⟨x1,H1,I1,r1,q1⟩=>?_) ha;refine bE (hi MG s1 σ H1 _ I1 q1) λiv s2 ⟨x2,H2,I2,r2,q2⟩=>?_;refine bE (hg MG s2 σ H2 x1 x2 ov iv _ I2 r1 r2 q2) λold s3 ⟨x3,H3,I3,r3,q3⟩=>?_;refine bE (he MG s3 σ H3 _ I3 q3) λv s4 ⟨x4,H4,I4,r4,q4⟩=>?_;refine bE (hp MG s4 σ H4 x3 x4 old v _ I4 r3 r4 q4) λnew s5 ⟨x5,H5,I5,r5,q5⟩=>?_;exact bE (hs MG s5 σ H5 x1 x2 x5 ov iv new _ I5 r1 r2 r5 q5) λ_ s6 ⟨H6,I6,q6⟩=>⟨σ,H6,I6,q6⟩
def Me (f:Int->Int->Int):JC:=λx y H Q=>∃i j,x=.int i/\y=.int j/\Q (.int (f i j)) H
def yN:K1 X .Add (Me λi j=>i+j):=by intro MG s σ H x y v u Q I r1 r2 h;obtain⟨i,j,e1,e2,q⟩:=h;subst e1;subst e2;obtain⟨t,rfl⟩:=r1;obtain⟨t',rfl⟩:=r2;exact iadd_int ⟨.int _,H,I.tok _,⟨_,rfl⟩,q⟩
def Ji:K1 X .Sub (Me λi j=>i - j):=by intro MG s σ H x y v u Q I r1 r2 h;obtain⟨i,j,e1,e2,q⟩:=h;subst e1;subst e2;obtain⟨t,rfl⟩:=r1;obtain⟨t',rfl⟩:=r2;exact isub_int ⟨.int _,H,I.tok _,⟨_,rfl⟩,q⟩
end
section
variable {X:Cx}{pos:Pos}
def xJ (c:TT) (tb:TS):TS:=λD σ H=>∃W:Nat->St->Hp->Prop,(∃m,W m σ H)/\∀m σ H,W m σ H ->
 c σ H λb H1=>if b=true then ∃N:St->Hp->Prop,(∀σ' H',N σ' H'->∃m',m' < m/\W m' σ' H')/\tb {D with nx:=N,ct:=N,bk:=D.nx} σ H1 else D.nx σ H1
def qZ {c:Expr}{body:List Stmt}{tc:TT}{tb:TS}(hp:PassesOwn (model X.prog X.w) X.A X.env X.xe)(hc:PT X c tc)(hb:sh X body tb):PS X (.While c body [] pos) (xJ tc tb):=by
 intro MG s σ H D I h;obtain⟨W,⟨m0,w0⟩,turn⟩:=h;refine wpAny_While (codeAny_whileLoop (λn s'=>∃σ' H',Inv X MG σ' H' s'/\W n σ' H') ?_ m0 ⟨σ,H,I,w0⟩);rintro n s1 ⟨σ1,H1,I1,w1⟩;refine aac hp (bE (hc MG s1 σ1 H1 _ I1 (turn n σ1 H1 w1)) λb s2 ⟨H2,I2,q2⟩=>?_);cases b with
 |true =>
  obtain⟨N,hN,q2⟩:=q2;rw[YY rfl];refine aac hp (bE (hb MG s2 σ1 H2 _ I2 q2) λf s3 q3=>?_);cases f with
  |next =>obtain⟨σ3,H3,I3,n3⟩:=q3;obtain⟨m',hm,w3⟩:=hN σ3 H3 n3;exact⟨m',hm,σ3,H3,I3,w3⟩
  |cont =>obtain⟨σ3,H3,I3,n3⟩:=q3;obtain⟨m',hm,w3⟩:=hN σ3 H3 n3;exact⟨m',hm,σ3,H3,I3,w3⟩
  |brk=>exact q3|ret v=>exact q3
 |false =>rw[YX Zi];exact aaP ⟨σ1,H2,I2,q2⟩
end
structure It where
 go:Nat->Hp->Prop
 xn:Nat->Hp->V->Hp->Prop
 stop:Nat->Hp->Prop
def nQ (X:Cx)(MG:abE)(H:Hp)(b:Addr):Prop :=
 H b=none/\b≠X.env.locals/\b∉X.fs/\(b∈X.ex\/X.lA.heap.objs.size<=b)/\(∀x c,X.env.cells.lookup x=some c->c≠b)/\∀p∈X.pn++MG,p.1≠b
def Inv.yu {X:Cx}{H':Hp}(I:Inv X MG σ H s)(hb:s.heap.objs.size<=b)(hn:H' b=none):nQ X MG H' b:=by
 refine⟨hn,Nat.ne_of_gt (Zz I.lt hb),I.Lp hb,.inr (ZH I.sz hb),λx c e z=>?_,λp hp z=>?_⟩
 . obtain⟨v,q⟩:=I.cell x c e;exact absurd (Zz q.lt (by rw[z];exact hb)) (aad _)
 exact absurd (Zz (Y8 (I.pin p hp).1) (by rw[z];exact hb)) (aad _)
structure Turn (P:Program)(w:World)(K:abB)(tg:Expr)(J:It)(fp:List Addr)(it:Addr)(tn:Nat->Heap->Prop):Prop where
 mem:it∈fp
 obj:∀i h,tn i h->∀b∈fp,∃o,h.get? b=some o/\∀v,o.data≠.cell v
 keep:∀i h h',tn i h->(∀b∈fp,∀o,h.get? b=some o->h'.get? b=some o)->tn i h'
 item:∀(X:Cx),X.prog=P->X.w=w->X.K=K->X.calm=true->∀(i:Nat) (MG:abE) (s:Shared) (σ:St) (H:Hp) (E:abC),Inv X MG σ H s->(∀b∈fp,nQ X MG H b)->tn i s.heap->J.go i H ->
  wpAny (model P w) X.A (pyNext (.ref it)) (λr s1=>∃u,r=some u /\
   wpAny (model P w) X.A (letOwnedTupleGo tg (.ref it) u) (λ_ s2=>∃x H',Inv X MG σ H' s2/\RelV x u/\J.xn i H x H'/\tn (i+1) s2.heap/\∀b∈fp,H' b=none) E s1) E s
 done:∀(X:Cx),X.prog=P->X.w=w->X.K=K->X.calm=true->∀(i:Nat) (MG:abE) (s:Shared) (σ:St) (H:Hp) (E:abC),Inv X MG σ H s->(∀b∈fp,nQ X MG H b)->tn i s.heap->J.stop i H ->
  wpAny (model P w) X.A (pyNext (.ref it)) (λr s1=>r=none/\Inv X MG σ H s1) E s
 self:∀(A:Around) (i:Nat) (s:Shared) (Q:abC) (E:abC),tn i s.heap->Q (.ref it) s->wpAny (model P w) A (pyIter (.ref it)) Q E s
abbrev TI:=St->Hp->(It->Hp->Prop)->Prop
variable{K:abB}{w:World}{A:Around}{P:Program}{us:abF}{C:Addr}{tg:Expr}{Q:VK}{mg:abD}{MH:Heap}{fp:List Addr}{body:List Stmt}{g:TG}{tb:TS}{vs:List V}{qual name:Str}{scope:Scope}{outer:List Env}
def LU (X:Cx)(MG:abE)(σ:St)(tg:Expr)(R:It->Hp->Prop)(Q1:Value)(s2:Shared):Prop :=
 ∃(it:Addr) (fp:List Addr) (tn:Nat->Heap->Prop) (J:It) (H':Hp),Q1=.ref it/\Inv X MG σ H' s2/\Turn X.prog X.w X.K tg J fp it tn/\tn 0 s2.heap/\(∀b∈fp,nQ X MG H' b)/\R J H'
def PI (X:Cx)(tg iter:Expr)(wi:TI):Prop :=
 ∀(MG:abE) (s:Shared) (σ:St) (H:Hp) (R:It->Hp->Prop),Inv X MG σ H s->wi σ H R ->
  wpAny (model X.prog X.w) X.A (eval iter X.env) (λv s1=>wpAny (model X.prog X.w) X.A (pyIter v) (LU X MG σ tg R) X.xe s1) X.xe s
def xf {M:Model}{it:Addr}{o:Obj}{n:String}{vs:Array Value}{Q:Unit->Shared->Prop}(ho:s.heap.get? it=some o)(hc:o.cls=.type n)(hd:o.data=.fields vs)
  (hn:["enumerate","zip","dict_itemiterator","dict_reverseitemiterator","odict_iterator","itertools.zip_longest","itertools.pairwise"].contains n=false)(hQ:Q () s):wpAny M A (letOwnedTupleGo tg (.ref it) u) Q E s:=by
 unfold letOwnedTupleGo;cases tg <;> first
  |exact Y2 hQ
  |(cases u <;> first
    |exact Y2 hQ
    |(refine YV (wpAny_load ho ?_)
      rw[hc,hd];show wpAny M A (if (["enumerate","zip","dict_itemiterator","dict_reverseitemiterator","odict_iterator","itertools.zip_longest","itertools.pairwise"].contains n&&vs[0]?==some (rawInt _))=true then _ else _) Q E s;rw[YX (by intro h;rw[hn,Bool.false_and] at h;cases h)];exact Y2 hQ))
def Dq (K:abB)(a:Addr):It :=
 ⟨λi H=>∃xs x,aP K H a xs/\xs[i]?=some x,λi H x H'=>H'=H/\∀xs,aP K H a xs->xs[i]?=some x,λi H=>∃xs,aP K H a xs/\xs.length<=i⟩
def KO (K:abB)(a:Addr):It :=
 ⟨λi H=>∃xs x,bY K H a xs/\xs[i]?=some x,λi H x H'=>H'=H/\∀xs,bY K H a xs->xs[i]?=some x,λi H=>∃xs,bY K H a xs/\xs.length<=i⟩
def Bx (lo:Int)(n:Nat):It:=⟨λi _=>i < n,λi H x H'=>H'=H/\x=.int (lo+i),λi _=>n<=i⟩
def AM (a it:Addr):Turn P w K tg (Dq K a) [it] it (λi h=>h.IsListIter it a i) where
 mem:=by simp
 obj:=λi h st b hb=>by
  have e:b=it:=by simpa using hb
  subst e;obtain⟨o,e,c,d⟩:=st;exact⟨o,e,λv z=>by rw[d] at z;cases z⟩
 keep:=λi h h' st k=>st.at λo e=>k it (by simp) o e
 item:=by intro X hP hw hK hc i MG s σ H E I hf st hg;subst hP hw hK;obtain⟨xs,x,hq,hx⟩:=hg;obtain⟨MJ,rv,p,hz⟩:=I.list hq;obtain⟨u,hu,ru⟩:=rv.get hx;obtain⟨f0,f1,f2,f3,f4,f5⟩:=hf it (by simp);refine wpAny_pyNext_list_item st p.isList (x:=u) (by simpa using hu) λh' Nw sb=>?_;have I1:Inv X MG σ H {s with heap:=h'}:=I.turned (t':=s.toks) (λb o hb e=>(sb.2 b hb).trans e) f0 f1 f3 f4 f5;obtain⟨o,e,c,d⟩:=id Nw;exact⟨u,rfl,xf (s:={s with heap:=h'}) e c d (by decide) ⟨x,H,I1,ru,⟨rfl,λys hy=>by rw[I.rK hy hq];exact hx⟩,Nw,λb hb=>(hf b hb).1⟩⟩
 done:=by intro X hP hw hK hc i MG s σ H E I hf st hg;subst hP hw hK;obtain⟨xs,hq,hx⟩:=hg;obtain⟨MJ,rv,p,hz⟩:=I.list hq;obtain⟨f0,f1,f2,f3,f4,f5⟩:=hf it (by simp);have hl:=rv.length;exact wpAny_pyNext_list_end (I.ok.hd hc) st p.isList (by simp;omega) λh' eb=>⟨rfl,I.turned (t':=s.toks) (λb o hb e=>eb b o hb e) f0 f1 f3 f4 f5⟩
 self:=λ_ _ _ _ _ st h=>wpAny_pyIter_listiter st h
def yB (a it:Addr):Turn P w K tg (KO K a) [it] it (λi h=>h.IsTupleIter it a i) where
 mem:=by simp
 obj:=λi h st b hb=>by
  have e:b=it:=by simpa using hb
  subst e;obtain⟨o,e,c,d⟩:=st;exact⟨o,e,λv z=>by rw[d] at z;cases z⟩
 keep:=λi h h' st k=>st.at λo e=>k it (by simp) o e
 item:=by intro X hP hw hK hc i MG s σ H E I hf st hg;subst hP hw hK;obtain⟨xs,x,hq,hx⟩:=hg;obtain⟨MJ,rv,p,hz⟩:=I.tuple hq;obtain⟨u,hu,ru⟩:=rv.get hx;obtain⟨f0,f1,f2,f3,f4,f5⟩:=hf it (by simp);refine wpAny_pyNext_tuple_item st (show s.heap.IsTuple a MJ.toArray from p) (x:=u) (by simpa using hu) λh' Nw sb=>?_;have I1:Inv X MG σ H {s with heap:=h'}:=I.turned (t':=s.toks) (λb o hb e=>(sb.2 b hb).trans e) f0 f1 f3 f4 f5;obtain⟨o,e,c,d⟩:=id Nw;exact⟨u,rfl,xf (s:={s with heap:=h'}) e c d (by decide) ⟨x,H,I1,ru,⟨rfl,λys hy=>by rw[I.tu hy hq];exact hx⟩,Nw,λb hb=>(hf b hb).1⟩⟩
 done:=by intro X hP hw hK hc i MG s σ H E I hf st hg;subst hP hw hK;obtain⟨xs,hq,hx⟩:=hg;obtain⟨MJ,rv,p,hz⟩:=I.tuple hq;obtain⟨f0,f1,f2,f3,f4,f5⟩:=hf it (by simp);have hl:=rv.length;exact wpAny_pyNext_tuple_end (I.ok.hd hc) st (show s.heap.IsTuple a MJ.toArray from p) (by simp;omega) λh' eb=>⟨rfl,I.turned (t':=s.toks) (λb o hb e=>eb b o hb e) f0 f1 f3 f4 f5⟩
 self:=λ_ _ _ _ _ st h=>wpAny_pyIter_tupleiter st h
def x_ (it:Addr)(lo:Int)(n:Nat):Turn P w K tg (Bx lo n) [it] it (λi h=>IsRangeIter h it (lo+(i:Nat)*1) ((n:Int) - (i:Nat)) 1) where
 mem:=by simp
 obj:=λi h st b hb=>by
  have e:b=it:=by simpa using hb
  subst e;exact⟨_,st,λv z=>by have z':Data.fields _=Data.cell v:=z;cases z'⟩
 keep:=λi h h' st k=>k it (by simp) _ st
 item:=by intro X hP hw hK hc i MG s σ H E I hf st hg;subst hP hw hK;obtain⟨f0,f1,f2,f3,f4,f5⟩:=hf it (by simp);have W:=Walks.range (prog:=X.prog) (w:=X.w) (I.ok.hd hc) it lo 1 n;refine W.item i s _ _ hg st λv h' tk hv Nw kk=>?_;obtain⟨t,rfl⟩:=hv;have I1:Inv X MG σ H {s with heap:=h',toks:=tk}:=I.turned (λb o hb e=>kk b o (by simpa using hb) e) f0 f1 f3 f4 f5;refine⟨_,rfl,xf (s:={s with heap:=h',toks:=tk}) (n:="range_iterator") Nw rfl rfl (by decide) ⟨.int (lo+i),H,I1,⟨t,?_⟩,⟨rfl,rfl⟩,Nw,λb hb=>(hf b hb).1⟩⟩;rw[Int.mul_one]
 done:=by intro X hP hw hK hc i MG s σ H E I hf st hg;subst hP hw hK;obtain⟨f0,f1,f2,f3,f4,f5⟩:=hf it (by simp);exact wpAny_pyNext_range_end (I.ok.hd hc) st (by have:n<=i:=hg;omega) λh' eb=>⟨rfl,I.turned (t':=s.toks) (λb o hb e=>eb b o hb e) f0 f1 f3 f4 f5⟩
 self:=λ_ _ _ _ _ st h=>wpAny_pyIter_rangeiter st h
section
variable {X:Cx}{tg:Expr}
def GL (K:abB) (tl:TE):TI:=λσ H R=>tl σ H λx H1=>∃a,x=.ref a/\(∃xs,aP K H1 a xs)/\R (Dq K a) H1
def Lk (K:abB)(tl:TE):TI:=λσ H R=>tl σ H λx H1=>∃a,x=.ref a/\(∃xs,bY K H1 a xs)/\R (KO K a) H1
def bJ {l:Expr}{tl:TE}(hl:PE X l tl):PI X tg l (GL X.K tl):=by
 intro MG s σ H R I h;refine bE (hl MG s σ H _ I h) λv s1 ⟨x,H1,I1,r1,q1⟩=>?_;obtain⟨a,e,⟨xs,hq⟩,q⟩:=q1;subst e;cases r1;obtain⟨MJ,rv,p,hz⟩:=I1.list hq;refine wpAny_pyIter_list p.isList ?_;refine⟨s1.heap.objs.size,[s1.heap.objs.size],_,_,H1,rfl,I1.kept (t':=s1.toks) λb o e=>YZ _ e,AM a _,⟨_,Za _ rfl,rfl,rfl⟩,λb hb=>?_,q⟩;have e:b=s1.heap.objs.size:=by simpa using hb
 subst e;exact I1.yu (Y5 _) (I1.bw.fresh (Y5 _))
def Ju {l:Expr}{tl:TE}(hl:PE X l tl):PI X tg l (Lk X.K tl):=by
 intro MG s σ H R I h;refine bE (hl MG s σ H _ I h) λv s1 ⟨x,H1,I1,r1,q1⟩=>?_;obtain⟨a,e,⟨xs,hq⟩,q⟩:=q1;subst e;cases r1;obtain⟨MJ,rv,p,hz⟩:=I1.tuple hq;refine wpAny_pyIter_tuple (show s1.heap.IsTuple a MJ.toArray from p) ?_;refine⟨s1.heap.objs.size,[s1.heap.objs.size],_,_,H1,rfl,I1.kept (t':=s1.toks) λb o e=>YZ _ e,yB a _,⟨_,Za _ rfl,rfl,rfl⟩,λb hb=>?_,q⟩;have e:b=s1.heap.objs.size:=by simpa using hb
 subst e;exact I1.yu (Y5 _) (I1.bw.fresh (Y5 _))
def wW {R:It->Hp->Prop}{lo hi:Int}{t u v:Tok}{tk:Nat}(I:Inv X MG σ H s)(h1:-(2 ^ 62)<=lo)(h2:lo < 2 ^ 62)(h3:-(2 ^ 62)<=hi)(h4:hi < 2 ^ 62)
  (q:R (Bx lo (hi - lo).toNat) H):wpAny (model X.prog X.w) X.A (pyIter (.ref s.heap.objs.size)) (LU X MG σ tg R) E {s with heap:=s.heap.push {cls:=.type "range",data:=.fields #[.int lo t,.int hi u,.int 1 v]},toks:=tk}:=by
 refine wpAny_pyIter_range (IsRange.new ..) (small_one h1 h2 h3 h4) ?_;have I1:Inv X MG σ H {s with heap:=s.heap.push {cls:=.type "range",data:=.fields #[.int lo t,.int hi u,.int 1 v]},toks:=tk}:=I.kept λb o e=>YZ _ e;refine⟨(s.heap.push {cls:=.type "range",data:=.fields #[.int lo t,.int hi u,.int 1 v]}).objs.size,[(s.heap.push {cls:=.type "range",data:=.fields #[.int lo t,.int hi u,.int 1 v]}).objs.size],_,_,H,rfl,
  I1.kept (t':=tk) λb o e=>YZ _ e,x_ _ lo (hi - lo).toNat,?_,λb hb=>?_,q⟩
 . have e1:lo+((0:Nat):Int)*1=lo:=by simp
   have e2:(((hi - lo).toNat:Nat):Int) - ((0:Nat):Int)=Builtin.Range.rangeSize lo hi 1:=by rw[rangeSize_one];split <;> omega
   show IsRangeIter _ _ (lo+((0:Nat):Int)*1) ((((hi - lo).toNat:Nat):Int) - ((0:Nat):Int)) 1;rw[e1,e2];exact Za _ rfl
 have e:b=(s.heap.push {cls:=.type "range",data:=.fields #[.int lo t,.int hi u,.int 1 v]}).objs.size:=by simpa using hb
 subst e;exact I1.yu (Y5 _) (I1.bw.fresh (Y5 _))
def DQ (ta:TA):TI:=λσ H R=>ta σ H λvs H1=>∃j:Int,vs=[.int j]/\-(2 ^ 62)<=j/\j < 2 ^ 62/\R (Bx 0 j.toNat) H1
def G3 (ta:TA):TI:=λσ H R=>ta σ H λvs H1=>∃i j:Int,vs=[.int i,.int j]/\(-(2 ^ 62)<=i/\i < 2 ^ 62/\-(2 ^ 62)<=j/\j < 2 ^ 62)/\R (Bx i (j - i).toNat) H1
def gN {a:Expr}{ta:TA}{p:Pos}(hg:Gl X "range")(hm:X.mg "range"=none)(ha:PA X [a] ta)(hs:starEach [a] X.env=[(false,eval a X.env)]:=by rfl):PI X tg (.Call (.Name "range" p) [a] [] pos) (DQ ta):=by
 intro MG s σ H R I h;refine Call_ (lM I hg hm boot_range (aaj (bE (ha pos MG s σ H _ I h) λus s1 ⟨vs,H1,I1,r1,q1⟩=>?_) hs rfl));obtain⟨j,e,q1,q2,q⟩:=q1;subst e;cases r1 with
 |cons r rr =>cases rr;obtain⟨t,rfl⟩:=r;exact call_range_1 (wW I1 (by omega) (by omega) q1 q2 (by simpa using q))
def tQ {a b:Expr}{ta:TA}{p:Pos}(hg:Gl X "range")(hm:X.mg "range"=none)(ha:PA X [a,b] ta)(hs:starEach [a,b] X.env=[(false,eval a X.env),(false,eval b X.env)]:=by rfl)(OW:starEach [b] X.env=[(false,eval b X.env)]:=by rfl) :
  PI X tg (.Call (.Name "range" p) [a,b] [] pos) (G3 ta):=by
 intro MG s σ H R I h;refine Call_ (lM I hg hm boot_range (aaj (bE (ha pos MG s σ H _ I h) λus s1 ⟨vs,H1,I1,r1,q1⟩=>?_) (by rw[hs,OW]) (by rw[OW];rfl)));obtain⟨i,j,e,⟨q1,q2,q3,q4⟩,q⟩:=q1;subst e;cases r1 with
 |cons r rr =>
  cases rr with
  |cons r' rr =>cases rr;obtain⟨t,rfl⟩:=r;obtain⟨t',rfl⟩:=r';exact call_range_2 (wW I1 q1 q2 q3 q4 q)
def Hu (wi:TI)(g:TG)(tb:TS):TS:=λD σ H=>wi σ H λJ H1=>∃W:Nat->Nat->St->Hp->Prop,(∃m,W 0 m σ H1)/\∀i m σ H,W i m σ H ->
 (J.stop i H/\D.nx σ H)\/(J.go i H/\∃N:St->Hp->Prop,(∀σ' H',N σ' H'->∃m',m' < m/\W (i+1) m' σ' H')/\∀x H',J.xn i H x H'->g x σ H' λσ2 H2=>tb {D with nx:=N,ct:=N,bk:=D.nx} σ2 H2)
def oq (fp:List Addr)(h:Heap):abE:=fp.filterMap λb=>(h.get? b).map λo=>(b,o)
def g_ {o:Obj}(hb:b∈fp)(e:h.get? b=some o):(b,o)∈oq fp h:=List.mem_filterMap.mpr ⟨b,hb,by rw[e];rfl⟩
def Ao {p:Addr×Obj}(hp:p∈oq fp h):p.1∈fp/\h.get? p.1=some p.2:=by
 obtain⟨b,hb,e⟩:=List.mem_filterMap.mp hp;cases q:h.get? b with
 |none=>rw[q] at e;cases e|some o =>rw[q] at e;have e':(b,o)=p:=Zw e;subst e';exact⟨hb,q⟩
def Inv.pinned (I:Inv X MG σ H s)(hf:∀b∈fp,nQ X MG H b)(ho:∀b∈fp,∃o,s.heap.get? b=some o/\∀v,o.data≠.cell v):Inv X (MG++oq fp s.heap) σ H s :=
 I.mG λp hp=>(ZJ.mp hp).elim (λz=>I.pin p (ZS _ z)) λz=>by obtain⟨hb,e⟩:=Ao z;obtain⟨f0,f1,f2,_⟩:=hf p.1 hb;obtain⟨o,e',d⟩:=ho p.1 hb;rw[e] at e';cases e';exact⟨e,f0,f1,f2,d⟩
def Inv.iW {pl:abE}(I:Inv X (MG++pl) σ H s):Inv X MG σ H s:=I.mG λp hp=>I.pin p (ZS _ (List.mem_append_left _ hp))
def dq {iter:Expr}{wi:TI}(hp:PassesOwn (model X.prog X.w) X.A X.env X.xe)(hc:X.calm=true)(hi:PI X tg iter wi)(hg:PG X tg g)(hb:sh X body tb)
  (hs:∀x,foldedSetIterable iter X.env x=pure x:=by intro _;rfl):PS X (.For tg iter body [] pos) (Hu wi g tb):=by
 intro MG s σ H D I h;refine wpAny_For (bE (hi MG s σ H _ I h) λv s1 h1=>bE h1 λQ1 s2 h2=>?_) hs;obtain⟨it,fp,tn,J,H2,e,I2,T,Pk,f2,W,⟨m0,w0⟩,turn⟩:=h2;subst e;have M0:∀{H':Hp},(∀b∈fp,H' b=none)->∀b∈fp,nQ X MG H' b:=λhn b hb=>⟨hn b hb,(f2 b hb).2⟩;refine codeAny_forLoop_any (λn s'=>∃i σ' H',Inv X MG σ' H' s'/\tn i s'.heap/\(∀b∈fp,H' b=none)/\W i n σ' H') ?_ m0 ⟨0,σ,H2,I2,Pk,λb hb=>(f2 b hb).1,w0⟩;rintro n s3 ⟨i,σ3,H3,I3,OX,P5,w3⟩;rcases turn i n σ3 H3 w3 with ⟨stop,qn⟩|⟨go,N,hN,step⟩
 . refine aac hp (bE (T.done X rfl rfl rfl hc i MG s3 σ3 H3 X.xe I3 (M0 P5) OX stop) λr s4 ⟨hr,I4⟩=>?_);subst hr;exact aaP ⟨σ3,H3,I4,qn⟩
 refine aac hp (bE (T.item X rfl rfl rfl hc i MG s3 σ3 H3 X.xe I3 (M0 P5) OX go) λr s4 ⟨u,hr,h4⟩=>?_);subst hr;refine aac hp (bE h4 λ_ s5 ⟨x,H5,I5,r5,y5,N2,R_⟩=>?_);have Sa:=I5.pinned (M0 R_) (T.obj _ _ N2);refine aac hp (bE (hg _ s5 σ3 H5 x u _ Sa r5 (step x H5 y5)) λ_ s6 ⟨σ6,H6,I6,q6⟩=>?_);refine aac hp (bE (hb _ s6 σ6 H6 _ I6 q6) λf s7 q7=>?_);have again:∀{σ7:St} {H7:Hp},Inv X (MG++oq fp s5.heap) σ7 H7 s7->N σ7 H7->∃m,m < n/\∃i σ' H',Inv X MG σ' H' s7/\tn i s7.heap/\(∀b∈fp,H' b=none)/\W i m σ' H':=λ{σ7 H7} I7 n7=>by obtain⟨m',hm,w7⟩:=hN σ7 H7 n7;refine⟨m',hm,i+1,σ7,H7,I7.iW,T.keep _ _ _ N2 λb hb o e=>(I7.pin (b,o) (ZS _ (ZS _ (g_ hb e)))).1,λb hb=>?_,w7⟩;obtain⟨o,e,d⟩:=T.obj _ _ N2 b hb;exact (I7.pin (b,o) (ZS _ (ZS _ (g_ hb e)))).2.1
 cases f with
 |next=>obtain⟨σ7,H7,I7,n7⟩:=q7;exact again I7 n7
 |cont=>obtain⟨σ7,H7,I7,n7⟩:=q7;exact again I7 n7
 |brk=>obtain⟨σ7,H7,I7,q7⟩:=q7;exact⟨σ7,H7,I7.iW,q7⟩
 |ret v=>obtain⟨x7,σ7,H7,I7,r7,q7⟩:=q7;exact⟨x7,σ7,H7,I7.iW,r7,q7⟩
end
def dm {xs:List V}{D:Ends}(Pv:Nat->St->Hp->Prop)(h0:Pv 0 σ H)(hl:∀i σ H,i<=xs.length->Pv i σ H->aP K H a xs)
  (hs:∀i x σ H,xs[i]?=some x->Pv i σ H->g x σ H λσ2 H2=>tb {D with nx:=Pv (i+1),ct:=Pv (i+1),bk:=D.nx} σ2 H2)(hd:∀σ H,Pv xs.length σ H->D.nx σ H) :
  ∃W:Nat->Nat->St->Hp->Prop,(∃m,W 0 m σ H)/\∀i m σ H,W i m σ H ->
   ((Dq K a).stop i H/\D.nx σ H)\/((Dq K a).go i H/\∃N:St->Hp->Prop,(∀σ' H',N σ' H'->∃m',m' < m/\W (i+1) m' σ' H')/\∀x H',(Dq K a).xn i H x H'->g x σ H' λσ2 H2=>tb {D with nx:=N,ct:=N,bk:=D.nx} σ2 H2):=by
 refine⟨λi m σ H=>m=xs.length - i/\i<=xs.length/\Pv i σ H,⟨xs.length,by simp,Zo _,h0⟩,?_⟩;rintro i m σ H ⟨rfl,hi,p⟩;have q:=hl i σ H hi p;by_cases MN:i < xs.length
 . refine .inr ⟨⟨xs,xs[i],q,by simp[MN]⟩,Pv (i+1),λσ' H' p'=>⟨xs.length - (i+1),by omega,rfl,MN,p'⟩,λx H' y=>?_⟩;obtain⟨e,y⟩:=y;subst e;exact hs i x σ _ (y xs q) p
 have e:i=xs.length:=by omega
 subst e;exact .inl ⟨⟨xs,q,Y5 _⟩,hd σ H p⟩
def oa {lo:Int}{n:Nat}{D:Ends}(Pv:Nat->St->Hp->Prop)(h0:Pv 0 σ H)
  (hs:∀i σ H,i < n->Pv i σ H->g (.int (lo+i)) σ H λσ2 H2=>tb {D with nx:=Pv (i+1),ct:=Pv (i+1),bk:=D.nx} σ2 H2)(hd:∀σ H,Pv n σ H->D.nx σ H) :
  ∃W:Nat->Nat->St->Hp->Prop,(∃m,W 0 m σ H)/\∀i m σ H,W i m σ H ->
   ((Bx lo n).stop i H/\D.nx σ H)\/((Bx lo n).go i H/\∃N:St->Hp->Prop,(∀σ' H',N σ' H'->∃m',m' < m/\W (i+1) m' σ' H')/\∀x H',(Bx lo n).xn i H x H'->g x σ H' λσ2 H2=>tb {D with nx:=N,ct:=N,bk:=D.nx} σ2 H2):=by
 refine⟨λi m σ H=>m=n - i/\i<=n/\Pv i σ H,⟨n,by simp,Zo _,h0⟩,?_⟩;rintro i m σ H ⟨rfl,hi,p⟩;by_cases MN:i < n
 . refine .inr ⟨MN,Pv (i+1),λσ' H' p'=>⟨n - (i+1),by omega,rfl,MN,p'⟩,λx H' y=>?_⟩;obtain⟨e,y⟩:=y;subst e y;exact hs i σ _ MN p
 have e:i=n:=by omega
 subst e;exact .inl ⟨Y5 _,hd σ H p⟩
abbrev R2:=V->V->Hp->VK->Prop
def jT (X:Cx)(f:Value->Value->Sem Value)(r:R2):Prop :=
 ∀(MG:abE) (s:Shared) (σ:St) (H:Hp) (x y:V) (v u:Value) (Q:VK),Inv X MG σ H s->RelV x v->RelV y u->r x y H Q ->
  wpAny (model X.prog X.w) X.A (f v u) (EP X MG σ Q) X.xe s
def LG (X:Cx)(f:Value->Sem Value)(r:V->Hp->VK->Prop):Prop :=
 ∀(MG:abE) (s:Shared) (σ:St) (H:Hp) (x:V) (v:Value) (Q:VK),Inv X MG σ H s->RelV x v->r x H Q ->
  wpAny (model X.prog X.w) X.A (f v) (EP X MG σ Q) X.xe s
def i5 (X:Cx)(f:Value)(r:List V->Hp->VK->Prop):Prop :=
 ∀(MG:abE) (s:Shared) (σ:St) (H:Hp) (xs:List V) (us:abF) (Q:VK),Inv X MG σ H s->Vals xs us->r xs H Q ->
  wpAny (model X.prog X.w) X.A (call f us) (EP X MG σ Q) X.xe s
def j_ (r:R2)(ta tb:TE):TE:=λσ H Q=>ta σ H λx H1=>tb σ H1 λy H2=>r x y H2 Q
def L_ (r:V->Hp->VK->Prop)(ta:TE):TE:=λσ H Q=>ta σ H λx H1=>r x H1 Q
def rI (C:Int->Int->Prop)(g:Int->Int->V):R2:=λx y H Q=>∃i j,x=.int i/\y=.int j/\C i j/\Q (g i j) H
def rY (g:Int->Int->V):R2:=λx y H Q=>∃i j,x=.int i/\y=.int j/\Q (g i j) H
def rU (g:Int->V):V->Hp->VK->Prop:=λx H Q=>∃i,x=.int i/\Q (g i) H
section
variable {X:Cx}{a b c:Expr}{ta tb tc:TE}{pos:Pos}
def Io (ha:PE X a ta) (hb:PE X b tb) {MG:abE} {s:Shared} {σ:St} {H:Hp} {R:V->V->Hp->Prop} (I:Inv X MG σ H s)
  (h:ta σ H λx H1=>tb σ H1 λy H2=>R x y H2) {Q:abC} {f:Value->Value->Sem Value}
  (hf:∀v u s2 x y H2,Inv X MG σ H2 s2->RelV x v->RelV y u->R x y H2->wpAny (model X.prog X.w) X.A (f v u) Q X.xe s2) :
  wpAny (model X.prog X.w) X.A (eval a X.env) (λv s₁=>wpAny (model X.prog X.w) X.A (eval b X.env) (λu s₂=>wpAny (model X.prog X.w) X.A (f v u) Q X.xe s₂) X.xe s₁) X.xe s:=by
 refine bE (ha MG s σ H _ I h) λv s1 ⟨x,H1,I1,r1,q1⟩=>?_;refine bE (hb MG s1 σ H1 _ I1 q1) λu s2 ⟨y,H2,I2,r2,q2⟩=>?_;exact hf v u s2 x y H2 I2 r1 r2 q2
def bD {op:Operator}{r:R2}(ho:jT X (binaryOp op) r)(ha:PE X a ta)(hb:PE X b tb):PE X (.BinOp a op b pos) (j_ r ta tb):=by intro MG s σ H Q I h;exact wpAny_BinOp (Io ha hb I h λv u s2 x y H2 I2 rx ry q=>ho MG s2 σ H2 x y v u Q I2 rx ry q)
def wX {op:UnaryOp}{r:V->Hp->VK->Prop}(ho:LG X (unaryOp op) r)(ha:PE X a ta):PE X (.UnaryOp op a pos) (L_ r ta):=by intro MG s σ H Q I h;exact UnaryOp_ (bE (ha MG s σ H _ I h) λv s1 ⟨x,H1,I1,r1,q1⟩=>ho MG s1 σ H1 x v Q I1 r1 q1)
def Ku {f:Value->Value->Sem Value}{C:Int->Int->Prop}{g:Int->Int->Int}
  (rule:∀(i j:Int) (t u:Tok) (s:Shared) (Q:abC) (E:abC),C i j->Q (.int (g i j) s.toks) {s with toks:=s.toks+1}->wpAny (model X.prog X.w) X.A (f (.int i t) (.int j u)) Q E s) :
  jT X f (rI C λi j=>.int (g i j)):=by
 intro MG s σ H x y v u Q I rx ry h;obtain⟨i,j,rfl,rfl,hc,q⟩:=h;obtain⟨t,rfl⟩:=rx;obtain⟨t',rfl⟩:=ry;exact rule i j t t' s _ _ hc ⟨.int (g i j),H,I.tok _,⟨_,rfl⟩,q⟩
def Ii {f:Value->Value->Sem Value}{g:Int->Int->Int}
  (rule:∀(i j:Int) (t u:Tok) (s:Shared) (Q:abC) (E:abC),Q (.int (g i j) s.toks) {s with toks:=s.toks+1}->wpAny (model X.prog X.w) X.A (f (.int i t) (.int j u)) Q E s) :
  jT X f (rY λi j=>.int (g i j)):=by
 intro MG s σ H x y v u Q I rx ry h;obtain⟨i,j,rfl,rfl,q⟩:=h;obtain⟨t,rfl⟩:=rx;obtain⟨t',rfl⟩:=ry;exact rule i j t t' s _ _ ⟨.int (g i j),H,I.tok _,⟨_,rfl⟩,q⟩
def Ga {f:Value->Value->Sem Value}{g:Int->Int->Bool}
  (rule:∀(i j:Int) (t u:Tok) (s:Shared) (Q:abC) (E:abC),Q (.bool (g i j)) s->wpAny (model X.prog X.w) X.A (f (.int i t) (.int j u)) Q E s) :
  jT X f (rY λi j=>.bl (g i j)):=by
 intro MG s σ H x y v u Q I rx ry h;obtain⟨i,j,rfl,rfl,q⟩:=h;obtain⟨t,rfl⟩:=rx;obtain⟨t',rfl⟩:=ry;exact rule i j t t' s _ _ ⟨.bl (g i j),H,I,rfl,q⟩
def Lf (i j:Int):Prop:=0 < j/\j < 1073741824
def EK (i j:Int):Prop:=0<=j/\j<=1000000/\i.natAbs < 2 ^ 64
def A0 (i j:Int):Prop:=(-(2 ^ 64) < i/\i < 2 ^ 64)\/(-(2 ^ 64) < j/\j < 2 ^ 64)
def A0.ok {i j:Int}(h:A0 i j):IntMulOk i j:=by
 rcases h with ⟨h1,h2⟩|⟨h1,h2⟩
 . exact .of_left (intBits_le_64 h1 h2)
 exact .of_right (intBits_le_64 h1 h2)
def fb:jT X (binaryOp .Add) (rY λi j=>.int (i+j)):=Ii λ_ _ _ _ _ _ _ q=>add_int q
def f_:jT X (binaryOp .Sub) (rY λi j=>.int (i - j)):=Ii λ_ _ _ _ _ _ _ q=>sub_int q
def yj:jT X (binaryOp .Mult) (rI A0 λi j=>.int (i*j)):=Ku λ_ _ _ _ _ _ _ hc q=>mul_int q hc.ok
def Gn:jT X (binaryOp .FloorDiv) (rI Lf λi j=>.int (i / j)):=Ku λi j _ _ _ _ _ hc q=>by have h1:(0:Int) < j:=hc.1;have h2:j < 1073741824:=hc.2;exact floordiv_int (by omega) (by rw[Int.fdiv_eq_ediv_of_nonneg i (by omega)];exact q) (.inl (PyProof.noPylong_small (by omega)))
def I_:jT X (binaryOp .Mod) (rI (λ_ j=>0 < j) λi j=>.int (i % j)):=Ku λi j _ _ _ _ _ hc q=>by have h1:(0:Int) < j:=hc;exact mod_int' (by omega) (by rw[Int.fmod_eq_emod_of_nonneg i (by omega)];exact q)
def DL:jT X (binaryOp .LShift) (rI EK λi j=>.int (i*2 ^ j.toNat)):=Ku λ_ _ _ _ _ _ _ hc q=>lshift_int_small hc.1 hc.2.1 hc.2.2 q
def Hx:jT X (binaryOp .BitAnd) (rY λi j=>.int (Builtin.bitAnd i j)):=Ii λ_ _ _ _ _ _ _ q=>and_int q
def D_:jT X (inplaceOp .Mult) (rI A0 λi j=>.int (i*j)):=Ku λ_ _ _ _ _ _ _ hc q=>imul_int q hc.ok
def Mo {f:Value->Sem Value}{g:Int->Int}
  (rule:∀(i:Int) (t:Tok) (s:Shared) (Q:abC) (E:abC),Q (.int (g i) s.toks) {s with toks:=s.toks+1}->wpAny (model X.prog X.w) X.A (f (.int i t)) Q E s) :
  LG X f (rU λi=>.int (g i)):=by
 intro MG s σ H x v Q I rx h;obtain⟨i,rfl,q⟩:=h;obtain⟨t,rfl⟩:=rx;exact rule i t s _ _ ⟨.int (g i),H,I.tok _,⟨_,rfl⟩,q⟩
def rL:LG X (unaryOp .USub) (rU λi=>.int (-i)):=Mo λ_ _ _ _ _ q=>neg_int q
end
def Gy:V->V->Bool
 |.cv,.cv=>true|.cv,.int _=>true|.int _,.cv=>true|.cv,.bl _=>true|.bl _,.cv=>true|.cv,.str _=>true|.str _,.cv=>true|.int _,.int _=>true|.bl _,.bl _=>true|.str _,.str _=>true|.xq _,.xq _=>true|.int _,.str _=>true|.str _,.int _=>true|.bl _,.str _=>true|.str _,.bl _=>true|_,_=>false
def K_:R2:=λx y H Q=>Gy x y=true/\Q (.bl (decide (x=y))) H
def Md:R2:=λx y H Q=>Gy x y=true/\Q (.bl (!decide (x=y))) H
def a_ {i j:Int}:decide (V.int i=V.int j)=(i==j):=by rw[Zx];simp
def Dy {i j:Bool}:decide (V.bl i=V.bl j)=(i==j):=by rw[Zx];simp
def Ab {i j:Str}:decide (V.str i=V.str j)=(i==j):=by rw[Zx];simp
def zJ {i j:Array UInt8}:decide (V.xq i=V.xq j)=(i.toList==j.toList):=by rw[Zx];cases i;cases j;simp
section
variable {X:Cx}{a b c:Expr}{ta tb tc:TE}{pos:Pos}
def bu {k k':Bool}(I:Inv X MG σ H s) (q:Q (.bl k) H) (e:k=k'):EP X MG σ Q (.bool k') s:=by subst e;exact⟨.bl k,H,I,rfl,q⟩
def cy:jT X (compareOp .Eq) K_:=by
 intro MG s σ H x y v u Q I rx ry h;obtain⟨hs,q⟩:=h;cases x with
 |cv =>
  cases rx;cases y with
  |cv=>cases ry;exact PySem.EqNone.eq_none_none (bu I q (by simp))|bl j=>cases ry;exact PySem.EqNone.eq_none_bool (bu I q (by simp))|int j=>obtain⟨t',rfl⟩:=ry;exact PySem.EqNone.eq_none_int (bu I q (by simp))
  |str j=>obtain⟨t',rfl⟩:=ry;exact PySem.EqNone.eq_none_str (bu I q (by simp))
  |_=>exact absurd (show false=true from hs) Zi
 |bl i =>
  cases rx;cases y with
  |cv=>cases ry;exact PySem.EqNone.eq_bool_none (bu I q (by simp))|bl j=>cases ry;exact eq_bool (bu I q Dy)|str j=>obtain⟨t',rfl⟩:=ry;exact PySem.EqMixed.eq_bool_str (bu I q (by simp))
  |_=>exact absurd (show false=true from hs) Zi
 |int i =>
  obtain⟨t,rfl⟩:=rx;cases y with
  |cv=>cases ry;exact PySem.EqNone.eq_int_none (bu I q (by simp))|int j=>obtain⟨t',rfl⟩:=ry;exact eq_int (bu I q a_)
  |str j=>obtain⟨t',rfl⟩:=ry;exact PySem.EqMixed.eq_int_str (bu I q (by simp))
  |_=>exact absurd (show false=true from hs) Zi
 |str i =>
  obtain⟨t,rfl⟩:=rx;cases y with
  |cv=>cases ry;exact PySem.EqNone.eq_str_none (bu I q (by simp))|bl j=>cases ry;exact PySem.EqMixed.eq_str_bool (bu I q (by simp))|int j=>obtain⟨t',rfl⟩:=ry;exact PySem.EqMixed.eq_str_int (bu I q (by simp))
  |str j=>obtain⟨t',rfl⟩:=ry;exact eq_str (bu I q Ab)
  |_=>exact absurd (show false=true from hs) Zi
 |xq i =>
  obtain⟨t,rfl⟩:=rx;cases y with
  |xq j=>obtain⟨t',rfl⟩:=ry;exact PySem.W.eq_bytes (bu I q zJ)
  |_=>exact absurd (show false=true from hs) Zi
 |_=>cases y <;> exact absurd (show false=true from hs) Zi
def qm:jT X (compareOp .NotEq) Md:=by
 intro MG s σ H x y v u Q I rx ry h;obtain⟨hs,q⟩:=h;cases x with
 |cv =>
  cases rx;cases y with
  |cv=>cases ry;exact PySem.EqNone.ne_none_none (bu I q (by simp))|bl j=>cases ry;exact PySem.EqNone.ne_none_bool (bu I q (by simp))|int j=>obtain⟨t',rfl⟩:=ry;exact PySem.EqNone.ne_none_int (bu I q (by simp))
  |str j=>obtain⟨t',rfl⟩:=ry;exact PySem.EqNone.ne_none_str (bu I q (by simp))
  |_=>exact absurd (show false=true from hs) Zi
 |bl i =>
  cases rx;cases y with
  |cv=>cases ry;exact PySem.EqNone.ne_bool_none (bu I q (by simp))|bl j=>cases ry;exact ne_bool (bu I q (Z0 not Dy))|str j=>obtain⟨t',rfl⟩:=ry;exact PySem.EqMixed.ne_bool_str (bu I q (by simp))
  |_=>exact absurd (show false=true from hs) Zi
 |int i =>
  obtain⟨t,rfl⟩:=rx;cases y with
  |cv=>cases ry;exact PySem.EqNone.ne_int_none (bu I q (by simp))|int j=>obtain⟨t',rfl⟩:=ry;exact ne_int (bu I q (Z0 not a_))
  |str j=>obtain⟨t',rfl⟩:=ry;exact PySem.EqMixed.ne_int_str (bu I q (by simp))
  |_=>exact absurd (show false=true from hs) Zi
 |str i =>
  obtain⟨t,rfl⟩:=rx;cases y with
  |cv=>cases ry;exact PySem.EqNone.ne_str_none (bu I q (by simp))|bl j=>cases ry;exact PySem.EqMixed.ne_str_bool (bu I q (by simp))|int j=>obtain⟨t',rfl⟩:=ry;exact PySem.EqMixed.ne_str_int (bu I q (by simp))
  |str j=>obtain⟨t',rfl⟩:=ry;exact ne_str (bu I q (Z0 not Ab))
  |_=>exact absurd (show false=true from hs) Zi
 |xq i =>
  obtain⟨t,rfl⟩:=rx;cases y with
  |xq j=>obtain⟨t',rfl⟩:=ry;exact PySem.W.ne_bytes (bu I q (Z0 not zJ))
  |_=>exact absurd (show false=true from hs) Zi
 |_=>cases y <;> exact absurd (show false=true from hs) Zi
def mE:jT X (compareOp .Lt) (rY λi j=>.bl (decide (i < j))):=Ga λ_ _ _ _ _ _ _ q=>lt_int q
def cu:jT X (compareOp .LtE) (rY λi j=>.bl (decide (i<=j))):=Ga λ_ _ _ _ _ _ _ q=>le_int q
def lH:jT X (compareOp .Gt) (rY λi j=>.bl (decide (j < i))):=Ga λ_ _ _ _ _ _ _ q=>gt_int q
def GS:jT X (compareOp .GtE) (rY λi j=>.bl (decide (j<=i))):=Ga λ_ _ _ _ _ _ _ q=>ge_int q
def uU:jT X (compareOp .Is) (λx y H Q=>y=.cv/\Q (.bl (decide (x=.cv))) H):=by
 intro MG s σ H x y v u Q I rx ry h;obtain⟨rfl,q⟩:=h;cases ry;refine is_none_gen (bu I q ?_);cases x <;> first
  |(cases rx;rfl)|(obtain⟨t,rfl⟩:=rx;rfl)
def aI (b:Expr){op:CmpOp}(h:op≠.In:=by decide)(h2:op≠.NotIn:=by decide):behindInMarks op b=false:=by
 have e1:(op==CmpOp.In)=false:=by cases op <;> first|rfl|exact absurd rfl h
 have e2:(op==CmpOp.NotIn)=false:=by cases op <;> first|rfl|exact absurd rfl h2
 cases b <;> simp[behindInMarks,e1,e2]
def fL {op:CmpOp}{r:R2}(ho:jT X (compareOp op) r)(ha:PE X a ta)(hb:PE X b tb)(hm:behindInMarks op b=false):PE X (.Compare a [op] [b] pos) (j_ r ta tb):=by intro MG s σ H Q I h;exact wpAny_Compare1 (Io ha hb I h λv u s2 x y H2 I2 rx ry q=>ho MG s2 σ H2 x y v u Q I2 rx ry q) hm
def qX (t:TE):TT:=λσ H Q=>t σ H λx H'=>∃k,x=.bl k/\Q k H'
def aB {op:CmpOp}{r:R2}(ho:jT X (compareOp op) r)(ha:PE X a ta)(hb:PE X b tb)(hm:behindInMarks op b=false):PT X (.Compare a [op] [b] pos) (qX (j_ r ta tb)):=by
 intro MG s σ H Q I h;refine wpAny_isTrue_Compare1 (bE (ha MG s σ H _ I h) λv s1 ⟨x,H1,I1,r1,q1⟩=>bE (hb MG s1 σ H1 _ I1 q1) λu s2 ⟨y,H2,I2,r2,q2⟩ =>bE (ho MG s2 σ H2 x y v u _ I2 r1 r2 q2) λc s3 ⟨z,H3,I3,r3,k,e,q3⟩=>?_) hm
 subst e;cases r3;exact Z8 ⟨H3,I3,q3⟩
def yn (r r':R2)(ta tb tc:TE):TE:=λσ H Q=>ta σ H λx H1=>tb σ H1 λy H2=>r x y H2 λz H3=>∃k,z=.bl k /\
 (if k=true then tc σ H3 λw' H4=>r' y w' H4 Q else Q (.bl false) H3)
def cN {op Sb:CmpOp}{r r':R2}(ho:jT X (compareOp op) r)(M3:jT X (compareOp Sb) r')(ha:PE X a ta)(hb:PE X b tb)(hc:PE X c tc)
  (hm:lastMarks [op,Sb] [b,c]=false:=by with_unfolding_all rfl):PT X (.Compare a [op,Sb] [b,c] pos) (qX (yn r r' ta tb tc)):=by
 intro MG s σ H Q I h;refine isTrue_chain (bE (ha MG s σ H _ I h) λv s1 ⟨x,H1,I1,r1,q1⟩=>test_link (bE (hb MG s1 σ H1 _ I1 q1) λu s2 ⟨y,H2,I2,r2,q2⟩ =>bE (ho MG s2 σ H2 x y v u _ I2 r1 r2 q2) λd s3 ⟨z,H3,I3,r3,k,e,q3⟩=>?_)) hm
 subst e;cases r3;refine Z8 ?_;cases k with
 |false =>obtain⟨k',e',q'⟩:=q3;cases e';exact ite_ff ⟨H3,I3,q'⟩
 |true =>refine ite_tt (test_last (bE (hc MG s3 σ H3 _ I3 q3) λw' s4 ⟨z',H4,I4,r4,q4⟩=>bE (M3 MG s4 σ H4 y z' u w' _ I4 r2 r4 q4) λd' s5 ⟨z2,H5,I5,r5,k2,e2,q5⟩=>?_));subst e2;cases r5;exact Z8 ⟨H5,I5,q5⟩
def lZ:(sizeLine:Nat) < 2 ^ 63:=by rw[Zl];decide
def vals1 {x:V}(r:Vals [x] us):∃u,us=[u]/\RelV x u:=by
 cases r with
 |cons r1 r2=>cases r2;exact⟨_,rfl,r1⟩
def vals2 {x y:V}(r:Vals [x,y] us):∃u w',us=[u,w']/\RelV x u/\RelV y w':=by
 cases r with
 |cons r1 r2 =>
  cases r2 with
  |cons r3 r4=>cases r4;exact⟨_,_,rfl,r1,r3⟩
end
structure xW (h:Heap)(x dx C:Addr)(mA:abD):Prop where
 obj:h.get? x=some (PySem.W.instObj C dx)
 ns:h.Ns1 dx mA
 ne:dx≠x
def Aq {dx:Addr}{mA:abD}(n:h.Ns1 dx mA):∃od,h.get? dx=some od/\∀name,PySem.W.lookIn name od=some (mA name):=by
 obtain⟨o,es,ep,ho,hd,hk,_,hm⟩:=n;refine⟨o,ho,λname=>?_⟩;have e:=hm name;unfold nsFind findBy at e;rw[<-Array.find?_toList] at e;unfold PySem.W.lookIn;rw[hd];dsimp only;split
 . rename_i y q;rw[q] at e;exact Z0 some e
 rename_i q;rw[q] at e;have a:es.toList.any (·.refKey)=false:=by rw[List.any_eq_false];intro y hy;obtain⟨z,t,Sd⟩:=hk y (Array.mem_toList_iff.mp hy);simp[DictEntry.refKey,Sd]
 have a':¬es.toList.any (·.refKey)=true:=by rw[a];exact Zi
 rw[YX a'];exact Z0 some e
def xW.look {x dx:Addr}{mA:abD}(I:xW h x dx C mA):∃od,PySem.W.InstAt h x (PySem.W.instObj C dx) C (some od)/\∀name,PySem.W.lookIn name od=some (mA name) :=
 let ⟨od,ho,hl⟩:=Aq I.ns
 ⟨od,⟨I.obj,rfl,rfl,ho⟩,hl⟩
section
variable {prog:Program}{w:World}{A:Around}{E:abC}{s:Shared}{K:abB}{x dx C f:Addr}{mA:abD}{name:Str}{v:Value}
def get_map {expr:Bool}{Q:abC}(X:K.In s.heap) (I:xW s.heap x dx C mA) (hg:PySem.W.plainGet K C name=true) (hh:PySem.W.hasDictIn K C=true)
  (ha:PySem.W.findIn K (.ref C) name=some none) (hv:mA name=some v) (Q2:PySem.W.handedIn v=true) (h:Q v {s with toks:=s.toks+1}) :
  wpAny (model prog w) A (getAttr (.ref x) name expr) Q E s:=by
 obtain⟨od,J,hl⟩:=I.look;exact PySem.W.get_value X J (PySem.W.plainGet_of hg).1 (PySem.W.findObj_own hh ha rfl (by rw[hl,hv])) Q2 h
def Cg {pl:Sem Bool}{Q:Value×abF->Shared->Prop}(X:K.In s.heap)(I:xW s.heap x dx C mA)(hg:PySem.W.plainGet K C name=true)
  (hf:PySem.W.findIn K (.ref C) name=some (some (.ref f)))(ht:PySem.W.isFn K (.ref f)=true)(hv:mA name=none)(h:Q (.ref f,[.ref x]) s) :
  wpAny (model prog w) A (getMethod (.ref x) name pl) Q E s:=by
 obtain⟨od,J,hl⟩:=I.look;exact PySem.W.method_fn X J (PySem.W.plainGet_of hg).1 (PySem.W.plainGet_of hg).2 hf (ZK.mp ht) (by show (PySem.W.lookIn name od).map (·.isSome)=some false;rw[hl,hv];rfl) h
def Gk {ns:List Str}{Q:Unit->Shared->Prop}(X:K.In s.heap)(I:xW s.heap x dx C mA)
  (hs:PySem.W.findIn K (.ref C) "__setattr__"=some (some (.builtin "object.__setattr__")))(hp:PySem.W.plainOver K C=true)(ht:PySem.W.takerIn K C name=some none)(hh:PySem.W.hasDictIn K C=true)
  (hw:PySem.Within mA ns)(hsz:ns.length<=sizeLine)
  (h:∀h',xW h' x dx C (λy=>if y=name then some v else mA y)->Heap.SameBut dx s.heap h'->Q () {s with heap:=h',toks:=s.toks+2}) :
  wpAny (model prog w) A (setAttr (.ref x) name v) Q E s:=by
 obtain⟨od,J,hl⟩:=I.look;refine PySem.W.set_plain X J hs (PySem.W.osa_open (s:={s with toks:=s.toks+1}) (r:=none) X J hp ht λb=>?_);obtain⟨cd,hc,Nf⟩:=PySem.W.any_some hh;have hx:s.heap.get? x=some ⟨.ref C,some dx,.plain,#[]⟩:=I.obj;refine YV (Y2 (YV (YV (wpAny_loadPart hx (YV (PySem.W.Looks.here (s:={s with toks:=s.toks+1}) (PySem.W.looks_clsIn X hc) ?_))))));rw[Nf];refine Y2 (a:=some dx) (YV (Y2 (YV ?_)));refine wpAny_nsSet1 (s:={s with toks:=s.toks+1}) I.ns λh' Up OW=>?_;obtain⟨oD,Wq,Wr,Se,Sg,Ws⟩:=Up.count (PySem.Within.cons name v hw);refine YV (wpAny_lookBehind Se (by rw[Sg];exact pastItsLine_dict (ZH Ws (by rw[Y7];omega))) ?_);exact Y2 (h _ ⟨(OW.2 _ (abr I.ne)).trans I.obj,Up,I.ne⟩ OW)
def DR {R:Result->Shared->Prop}{vs:abF}{kw:List (Str×Value)}(X:K.In s.heap)(hm:PySem.W.makesIn K C=true)
  (hi:PySem.W.findIn K (.ref C) "__init__"=some (some (.ref f)))(hf:PySem.W.typeIn K (.ref f)=some (.type "function"))
  (h:codeAny (model prog w) (A.under (.builtin "type.__call__" ⟨.ref C::vs,kw⟩)) (.call (.ref f) ⟨.ref (s.heap.objs.size+1)::vs,kw⟩) (PySem.W.InitBack (s.heap.objs.size+1) R)
   {s with heap:=(s.heap.push PySem.W.emptyDict).push (PySem.W.instObj C s.heap.objs.size)}) :
  codeAny (model prog w) A (.call (.ref C) ⟨vs,kw⟩) R s:=by
 obtain⟨hh,g,d,t,os⟩:=s;exact PySem.W.make_core (PySem.W.makes_of X hm) (PySem.W.looks_findIn X hi) (λself=>PySem.W.bind_fn X self hf) (.inl rfl) h
end
def e_ (f:Str)(v:V):List (Str×V)->List (Str×V)
 |[]=>[(f,v)]|(g,x)::r=>if g=f then (g,v)::r else (g,x)::e_ f v r
theorem kr (f g:Str)(v:V):∀fs:List (Str×V),(e_ f v fs).lookup g=if g=f then some v else fs.lookup g
 |[]=>by
  show List.lookup g [(f,v)]=_;by_cases h:g=f
  . have hb:(g==f)=true:=ZK.mpr h;simp only[List.lookup,hb,YY h]
  have hb:(g==f)=false:=Zq.mpr h;simp only[List.lookup,hb,YX h]
 |(k,x)::r=>by
  have ih:=kr f g v r;rw[show e_ f v ((k,x)::r)=(if k=f then (k,v)::r else (k,x)::e_ f v r) from rfl];by_cases hk:k=f
  . rw[YY hk];by_cases h:g=k
    . have hb:(g==k)=true:=ZK.mpr h;simp only[List.lookup,hb,YY (h.trans hk)]
    have hb:(g==k)=false:=Zq.mpr h;simp only[List.lookup,hb,YX (λe:g=f=>h (e.trans hk.symm))]
  rw[YX hk];by_cases h:g=k
  . have hb:(g==k)=true:=ZK.mpr h;simp only[List.lookup,hb,YX (λe:g=f=>hk (h.symm.trans e))]
  have hb:(g==k)=false:=Zq.mpr h;simp only[List.lookup,hb];exact ih
theorem ox (f:Str)(v:V):∀fs:List (Str×V),f∈(e_ f v fs).map (·.1)/\∀g,g∈fs.map (·.1)->g∈(e_ f v fs).map (·.1)
 |[]=>⟨by simp[e_],λg h=>by simp at h⟩
 |(k,x)::r=>by
  obtain⟨i1,i2⟩:=ox f v r;rw[show e_ f v ((k,x)::r)=(if k=f then (k,v)::r else (k,x)::e_ f v r) from rfl];by_cases hk:k=f
  . rw[YY hk];subst hk;exact⟨by simp,λg h=>by simpa using h⟩
  rw[YX hk];refine⟨?_,λg h=>?_⟩
  . rw[Zb];exact Zc _ i1
  rw[Zb] at h ⊢;rcases Y0.mp h with e|e
  . exact Y0.mpr (.inl e)
  exact Zc _ (i2 g e)
theorem oK (f:Str)(v:V):∀fs:List (Str×V),(e_ f v fs).length<=fs.length+1
 |[]=>by simp[e_]
 |(k,x)::r=>by
  have ih:=oK f v r;rw[show e_ f v ((k,x)::r)=(if k=f then (k,v)::r else (k,x)::e_ f v r) from rfl];by_cases hk:k=f
  . rw[YY hk,Y7,Y7];omega
  rw[YX hk,Y7,Y7];omega
def jt.some_of {v:V}{o:Option Value}(r:jt (some v) o):∃u,o=some u/\RelV v u:=by
 cases o with
 |none=>exact (show False from r).elim|some u=>exact⟨u,rfl,r⟩
def jt.none_of {o:Option Value}(r:jt none o):o=none:=by
 cases o with
 |none=>rfl|some u=>exact (show False from r).elim
def tU {v:V}(r:RelV v u):PySem.W.handedIn u=true:=by
 cases v with
 |cv=>cases (show u=Value.none from r);rfl|bl b=>cases (show u=Value.bool b from r);rfl|int i=>obtain⟨t,e⟩:=(show ∃t,u=Value.int i t from r);cases e;rfl
 |str x=>obtain⟨t,e⟩:=(show ∃t,u=Value.str x t from r);cases e;rfl
 |xq b=>obtain⟨t,e⟩:=(show ∃t,u=Value.bytes b t from r);cases e;rfl
 |flt b=>obtain⟨t,e⟩:=(show ∃t,u=Value.float b t from r);cases e;rfl
 |ref a=>cases (show u=Value.ref a from r);rfl|ty n=>cases (show u=Value.type n from r);rfl
section
variable {P:Program}{w:World}{H H':Hp}{h h':Heap}{a C dx:Addr}{fs Nc:List (Str×V)}
def ug (bw:iO P w H h) (e:H a=some (.ins C dx fs)):∃mA,xW h a dx C mA/\(∀f,jt (fs.lookup f) (mA f))/\PySem.Within mA (fs.map (·.1))/\fs.length<=1000/\H dx=some (.own a):=by obtain⟨d,z,ne,ob,mA,n,r,q⟩:=(show bL P w H h a (.ins C dx fs) from bw a _ e);exact⟨mA,⟨ob,n,ne⟩,r,q,z,d⟩
end
structure zd (K:abB)(C:Addr):Prop where
 pg:PySem.W.plainGet K C Str.empty=true
 hd:PySem.W.hasDictIn K C=true
 po:PySem.W.plainOver K C=true
 sa:PySem.W.findIn K (.ref C) "__setattr__"=some (some (.builtin "object.__setattr__"))
def zd.get (c:zd K C)(f:Str):PySem.W.plainGet K C f=true:=c.pg
def iJ (K:abB)(C:Addr)(f:Str):Prop:=PySem.W.findIn K (.ref C) f=some none
def iJ.Kc {f:Str}(n:iJ K C f):PySem.W.takerIn K C f=some none:=by unfold PySem.W.takerIn;rw[show PySem.W.findIn K (.ref C) f=some none from n];rfl
structure Meth (K:abB)(C:Addr)(m:Str)(f:Addr):Prop where
 at_:PySem.W.findIn K (.ref C) m=some (some (.ref f))
 fn:PySem.W.isFn K (.ref f)=true
 kp:PySem.W.keepIn K (.ref f)=true
section
variable {X:Cx}{MG:abE}{σ:St}{H:Hp}{s:Shared}{a C dx:Addr}{fs:List (Str×V)}{f:Str}{v:V}{A:Around}{E:abC}
def pQ {b:Bool}{Q:abC}(I:Inv X MG σ H s) (e:H a=some (.ins C dx fs)) (c:zd X.K C) (n:iJ X.K C f) (l:fs.lookup f=some v)
  (h:∀u s',Inv X MG σ H s'->RelV v u->Q u s'):wpAny (model X.prog X.w) A (getAttr (.ref a) f b) Q E s:=by
 obtain⟨mA,O,r,_,_,_⟩:=ug I.bw e;obtain⟨u,hu,ru⟩:=jt.some_of (v:=v) (o:=mA f) (by rw[<-l];exact r f);exact get_map I.n_ O (c.get f) c.hd n hu (tU ru) (h u _ (I.tok _) ru)
def rB {m:Str}{g:Addr}{pl:Sem Bool}{Q:Value×abF->Shared->Prop}(I:Inv X MG σ H s)(e:H a=some (.ins C dx fs))(c:zd X.K C)(k:Meth X.K C m g)(l:fs.lookup m=none)
  (h:Q (.ref g,[.ref a]) s):wpAny (model X.prog X.w) A (getMethod (.ref a) m pl) Q E s:=by
 obtain⟨mA,O,r,_,_,_⟩:=ug I.bw e;have hn:mA m=none:=jt.none_of (by rw[<-l];exact r m);exact Cg I.n_ O (c.get m) k.at_ k.fn hn h
def qU {y:V}{Q:Unit->Shared->Prop}(I:Inv X MG σ H s)(e:H a=some (.ins C dx fs))(c:zd X.K C)(n:iJ X.K C f)(hl:fs.length < 1000)(ry:RelV y u)
  (h:∀s',Inv X MG σ (upd H a (.ins C dx (e_ f y fs))) s'->Q () s'):wpAny (model X.prog X.w) A (setAttr (.ref a) f u) Q E s:=by
 obtain⟨mA,O,r,wi,_,ho⟩:=ug I.bw e;have hz:(fs.map (·.1)).length<=sizeLine:=by rw[YW,Zl];omega
 refine Gk I.n_ O c.sa c.po n.Kc c.hd wi hz λh' O' sb=>h _ ?_;have hd:∃o,h'.get? dx=some o:=let ⟨o,_,_,e',_⟩:=O'.ns;⟨o,e'⟩;refine I.write (x:=a) (e:=dx) (by rw[e];exact True.intro) (.inr ho) (λb q hb z=>(sb.2 b hb).trans z) hd ?_;refine⟨by rw[aq O.ne];exact ho,?_,O.ne,O'.obj,_,O'.ns,λg=>?_,λg hg=>?_⟩
 . have:=oK f y fs;omega
 . show jt ((e_ f y fs).lookup g) (if g=f then some u else mA g);rw[kr];by_cases q:g=f
   . rw[YY q,YY q];exact ry
   rw[YX q,YX q];exact r g
 by_cases q:g=f
 . rw[q];exact (ox f y fs).1
 refine (ox f y fs).2 g (wi g λz=>hg ?_);show (if g=f then some u else mA g)=none;rw[YX q];exact z
def Inv.made (I:Inv X MG σ H s):Inv X MG σ (upd (upd H s.heap.objs.size (.own (s.heap.objs.size+1))) (s.heap.objs.size+1) (.ins C s.heap.objs.size []))
  {s with heap:=(s.heap.push PySem.W.emptyDict).push (PySem.W.instObj C s.heap.objs.size)}:=by
 have e1:(s.heap.push PySem.W.emptyDict).get? s.heap.objs.size=some PySem.W.emptyDict:=Za s.heap rfl;have e2:((s.heap.push PySem.W.emptyDict).push (PySem.W.instObj C s.heap.objs.size)).get? (s.heap.objs.size+1)=some (PySem.W.instObj C s.heap.objs.size):=by
  have:=Za (s.heap.push PySem.W.emptyDict) (o:=PySem.W.instObj C s.heap.objs.size) rfl
  rwa [Z2] at this
 have e3:(s.heap.push PySem.W.emptyDict).Ns s.heap.objs.size (λ_=>none):=⟨PySem.W.emptyDict,#[],_,e1,rfl,(λe he=>absurd he (by simp)),λ_=>rfl⟩;have I1:=I.laid (a:=s.heap.objs.size) (o:=.own (s.heap.objs.size+1)) (h':=s.heap.push PySem.W.emptyDict) (t':=s.toks) (λb u q=>YZ _ q) (Y5 _) ⟨_,e1⟩;refine I1.laid (a:=s.heap.objs.size+1) (o:=.ins C s.heap.objs.size []) (t':=s.toks) (λb u q=>YZ _ q) (abt (Z2 _ _)) ?_;have ne:s.heap.objs.size≠s.heap.objs.size+1:=Zv (abg _);refine⟨by rw[aq ne,ae],Zo _,ne,e2,λ_=>none,(Heap.Ns1.of_empty e3).at λo q=>YZ _ q,λ_=>True.intro,λy hy=>absurd rfl hy⟩
def Ah {prog:Program}{env:Env}{f:Str}{s:Shared}{Q:abC}(hb:attributeBase e f env (eval e env)=eval e env)
  (h:wpAny (model prog w) A (eval e env) (λo s₁=>wpAny (model prog w) A (getAttr o f true) Q E s₁) E s):wpAny (model prog w) A (eval (.Attribute e f pos) env) Q E s :=
 Attribute_any_ h (by rw[arm_eval_Attribute,hb])
end
def sA (K:abB)(ta:TE)(f:Str):TE:=λσ H Q=>ta σ H λx H1=>∃a C dx fs v,x=.ref a/\H1 a=some (.ins C dx fs)/\zd K C/\iJ K C f/\fs.lookup f=some v/\Q v H1
def Lo (K:abB)(ta tv:TE)(f:Str):TS:=λD σ H=>tv σ H λy H1=>ta σ H1 λx H2=>∃a C dx fs,x=.ref a/\H2 a=some (.ins C dx fs)/\zd K C/\iJ K C f/\fs.length < 1000 /\
 D.nx σ (upd H2 a (.ins C dx (e_ f y fs)))
def JQ (X:Cx)(op:Operator)(rd:V->V->Hp->VK->Prop):Prop :=
 ∀(MG:abE) (s:Shared) (σ:St) (H:Hp) (x y:V) (u v:Value) (Q:VK),Inv X MG σ H s->RelV x u->RelV y v->rd x y H Q->wpAny (model X.prog X.w) X.A (inplaceOp op u v) (EP X MG σ Q) X.xe s
def EC (K:abB)(ta tv:TE)(rd:V->V->Hp->VK->Prop)(f:Str):TS:=λD σ H=>ta σ H λx H1=>∃a C dx fs v,x=.ref a/\H1 a=some (.ins C dx fs)/\zd K C/\iJ K C f/\fs.lookup f=some v /\
 tv σ H1 λy H2=>rd v y H2 λz H3=>∃NI Nc,H3 a=some (.ins C NI Nc)/\Nc.length < 1000/\D.nx σ (upd H3 a (.ins C NI (e_ f z Nc)))
section
variable {X:Cx}{o e value:Expr}{f:Str}{pos pos' MX:Pos}{ta tv:TE}
def aR (he:PE X e ta) (hb:attributeBase e f X.env (eval e X.env)=eval e X.env):PE X (.Attribute e f pos) (sA X.K ta f):=by intro MG s σ H Q I h;refine Ah hb (bE (he MG s σ H _ I h) λu s1 ⟨x,H1,I1,rx,a,C,dx,fs,v,ex,ea,c,n,l,q⟩=>?_);subst ex;obtain rfl:u=Value.ref a:=rx;exact pQ I1 ea c n l λu' s2 I2 ru=>⟨v,H1,I2,ru,q⟩
def cG (ha:PE X o ta)(hv:PE X value tv)(hs:swapsWith value (some (.Attribute o f pos')) pos.line X.env=pure false):PS X (.Assign [.Attribute o f pos'] value pos) (Lo X.K ta tv f):=by intro MG s σ H D I h;refine plainObj_wpAny_Assign_Attribute (bE (hv MG s σ H _ I h) λu s1 ⟨y,H1,I1,ry,q⟩=>bE (ha MG s1 σ H1 _ I1 q) λov s2 ⟨x,H2,I2,rx,a,C,dx,fs,ex,ea,c,n,l,q2⟩=>?_) hs;subst ex;obtain rfl:ov=Value.ref a:=rx;exact qU I2 ea c n l ry λs3 I3=>⟨σ,_,I3,q2⟩
def t8 {op:Operator}{rd:V->V->Hp->VK->Prop}(ha:PE X o ta)(hv:PE X value tv)(Wt:JQ X op rd):PS X (.AugAssign (.Attribute o f MX) op value pos) (EC X.K ta tv rd f):=by intro MG s σ H D I h;refine wpAny_AugAssign_AttributeAny (bE (ha MG s σ H _ I h) λov s1 ⟨x,H1,I1,rx,a,C,dx,fs,v,ex,ea,c,n,l,q⟩=>?_);subst ex;obtain rfl:ov=Value.ref a:=rx;refine pQ I1 ea c n l λu s2 I2 ru=>bE (hv MG s2 σ H1 _ I2 q) λw3 s3 ⟨y,H2,I3,ry,q3⟩=>bE (Wt MG s3 σ H2 v y u w3 _ I3 ru ry q3) λw4 s4 ⟨z,H3,I4,rz,NI,Nc,Wu,l',q4⟩=>?_;exact qU I4 Wu c n l' rz λs5 I5=>⟨σ,_,I5,q4⟩
def Lh:V->V->Hp->VK->Prop:=λx y H Q=>∃i j,x=.int i/\y=.int j/\Q (.int (i+j)) H
def CD:JQ X .Add Lh:=by rintro MG s σ H x y u v Q I rx ry ⟨i,j,rfl,rfl,q⟩;obtain⟨t,rfl⟩:=(show ∃t,u=Value.int i t from rx);obtain⟨t',rfl⟩:=(show ∃t',v=Value.int j t' from ry);exact PyProof.Rows.iadd_int ⟨.int (i+j),H,I.tok _,⟨_,rfl⟩,q⟩
end
section
variable {X:Cx}{MG:abE}{σ:St}{H:Hp}{s:Shared}{A:Around}{E:abC}{Q:abC}{c:Value}{b:Bool}
end
structure cU (k:Nat)(A:Around):Prop where
 hd:A.handled=none
 dp:A.depth+3*k+5 < recursionLimit
 un:A.units+16*k+200 < cLine
def cU.mono {j k:Nat}(r:cU k A)(h:j<=k):cU j A:=⟨r.hd,by have:=r.dp;omega,by have:=r.un;omega⟩
theorem cU.deeper {k:Nat}{A:Around}(r:cU (k+1) A)(env:Env):cU k (A.deeper env) :=
 ⟨r.hd,by have:=r.dp;show A.depth+1+3*k+5 < _;omega,by have:=r.un;show A.units+3+16*k+200 < _;omega⟩
def yb {kw:List (Str×Value)}:(A.under (.builtin "type.__call__" ⟨.ref C::us,kw⟩)).depth=A.depth+1:=by first|rfl|simp[Around.under,Code.weight,Code.isCreation,Code.isGuard,Code.isCaller,Code.frames,Code.isFrame,guardIds]
def ym {kw:List (Str×Value)}:(A.under (.builtin "type.__call__" ⟨.ref C::us,kw⟩)).units=A.units+1:=by first|rfl|simp[Around.under,Code.cUnits,Code.frames,Code.isFrame]
def cU.make {k:Nat}(r:cU (k+1) A)(C:Addr)(us:abF)(kw:List (Str×Value)):cU k (A.under (.builtin "type.__call__" ⟨.ref C::us,kw⟩)) :=
 ⟨r.hd,by have:=r.dp;rw[yb];omega,by have:=r.un;rw[ym];omega⟩
theorem cU.depth {k:Nat}{A:Around}(r:cU k A):A.depth < recursionLimit:=by have:=r.dp;omega
theorem cU.units {k:Nat}{A:Around}(r:cU k A):A.units+64 < cLine:=by have:=r.un;omega
def dE:TA:=λ_ H Q=>Q [] H
def cg (ta:TE)(tr:TA):TA:=λσ H Q=>ta σ H λx H1=>tr σ H1 λxs H2=>Q (x::xs) H2
section
variable {X:Cx}{e:Expr}{es:List Expr}{te:TE}{t:TA}{pos:Pos}
def ah:PA X [] dE:=λ_ _ _ _ H Q I h=>Calls.spliced_nil ⟨[],H,I,.nil,h⟩
def aa (ha:PE X e te)(hr:PA X es t)(hs:starEach (e::es) X.env=(false,eval e X.env)::starEach es X.env:=by rfl):PA X (e::es) (cg te t):=by intro pos MG s σ H Q I h;rw[hs];show wpAny _ _ (spliced ((false,eval e X.env)::backTo pos (starEach es X.env))) _ _ s;refine aby (bE (ha MG s σ H _ I h) λu s1 ⟨x,H1,I1,r1,q1⟩=>?_);exact bE (hr pos MG s1 σ H1 _ I1 q1) λus s2 ⟨xs,H2,I2,r2,q2⟩=>⟨x::xs,H2,I2,.cons r1 r2,q2⟩
def HZ (t:TA):TE:=λσ H Q=>t σ H λxs H1=>xs.length<=sizeLine/\∀p,H1 p=none->Q (.ref p) (upd H1 p (.tup xs))
def HN (t:TA):TE:=λσ H Q=>t σ H λxs H1=>xs.length<=sizeLine/\∀p,H1 p=none->Q (.ref p) (upd H1 p (.lst xs))
def cn {x1}(h:PA X es t):PE X (.Tuple es x1 pos) (HZ t):=by intro MG s σ H Q I hq;refine wpAny_Tuple_spliced (bE (h pos MG s σ H _ I hq) λus s1 ⟨xs,H1,I1,r,z,q⟩=>⟨by rw[<-r.length];exact z,?_⟩);have hf:H1 s1.heap.objs.size=none:=I1.bw.fresh (Y5 _);refine⟨.ref s1.heap.objs.size,upd H1 s1.heap.objs.size (.tup xs),I1.laid (t':=s1.toks) (λb u e=>YZ _ e) (Y5 _) ?_,rfl,q _ hf⟩;exact⟨z,us,r,⟨_,Za _ rfl,rfl,_,rfl⟩⟩
def bU (h:PA X es t):PE X (.List es pos) (HN t):=by intro MG s σ H Q I hq;refine wpAny_List_spliced (bE (h pos MG s σ H _ I hq) λus s1 ⟨xs,H1,I1,r,z,q⟩=>⟨by rw[<-r.length];exact z,?_⟩);have hf:H1 s1.heap.objs.size=none:=I1.bw.fresh (Y5 _);refine⟨.ref s1.heap.objs.size,upd H1 s1.heap.objs.size (.lst xs),I1.laid (t':=s1.toks) (λb u e=>YZ _ e) (Y5 _) ?_,rfl,q _ hf⟩;exact⟨z,us,0,r,Za _ rfl⟩
end
abbrev Sp:=List V->Hp->VK->XK->Prop
abbrev mU:=List Env->Hp->Shared->XK->Value->Shared->Prop
structure yP (P:Program)(w:World)(K:abB)(mg:abD)(MH:Heap)(A:Around)(outer:List Env)(s:Shared)(H:Hp):Prop where
 frames:A.frames=some outer
 mod:Mod K mg MH
 bs:∀b o,MH.get? b=some o->s.heap.get? b=some o/\H b=none
 D3:MH.objs.size<=s.heap.objs.size
 m_:s.heap.FunFrames MH outer
 GJ:∀b∈xm outer,H b=none
 bw:iO P w H s.heap
 bare:AllBare s.gens
def CE (outer:List Env)(P:Program)(w:World)(H:Hp)(s:Shared)(Q:VK)(u:Value)(s':Shared):Prop :=
 ∃v H',s'.os=s.os/\AllBare s'.gens/\Un (xm outer) [] H H' s.heap s'.heap/\iO P w H' s'.heap/\RelV v u/\Q v H'
def CR (CX:mU)(outer:List Env)(P:Program)(w:World)(H:Hp)(s:Shared)(Q:VK)(E:XK)(r:Result)(s':Shared):Prop :=
 match r with
 |.ok (.ret u)=>CE outer P w H s Q u s'|.ok _=>False|.error e=>CX outer H s E e s'
structure a8 (P:Program)(w:World)(K:abB)(mg:abD)(MH:Heap)(CX:mU)(k:Nat)(f:Addr)(fd:FuncData)(ps:List Str)(sp:Sp):Prop where
 len:∀vs H Q E,sp vs H Q E->vs.length=ps.length
 run:∀(A:Around) (outer:List Env) (s:Shared) (H:Hp) (args:Args) (us:abF) (vs:List V) (Q:VK) (E:XK),cU k A->yP P w K mg MH A outer s H->BindsTo s fd args (ps.zip us)->Vals vs us->sp vs H Q E ->
  codeAny (model P w) A (.call (.ref f) args) (CR CX outer P w H s Q E) s
theorem a8.mono {P:Program}{w:World}{K:abB}{mg:abD}{MH:Heap}{CX:mU}{j k:Nat}{f:Addr}{fd:FuncData}{ps:List Str}{sp:Sp}(F:a8 P w K mg MH CX j f fd ps sp)(h:j<=k) :
  a8 P w K mg MH CX k f fd ps sp:=⟨F.len,λA outer s H args us vs Q E hr=>F.run A outer s H args us vs Q E (hr.mono h)⟩
def yP.make (e:yP P w K mg MH A outer s H)(C:Addr)(us:abF)(kw:List (Str×Value)) :
  yP P w K mg MH (A.under (.builtin "type.__call__" ⟨.ref C::us,kw⟩)) outer s H:=⟨by first|exact e.frames|(simpa [Around.under,Code.envs,Code.isFrame,pushEnvs] using e.frames),e.mod,e.bs,e.D3,e.m_,e.GJ,e.bw,e.bare⟩
section
variable {X:Cx}{MG:abE}{σ:St}{H:Hp}{s s':Shared}
def Inv.Iw (I:Inv X MG σ H s):yP X.prog X.w X.K X.mg X.MH X.A X.stack s H :=
 ⟨I.ok.frames,I.ok.mod,I.bs,ZH I.ok.D3 I.sz,I.stack,I.uP,I.bw,I.bare⟩
def Inv.after (I:Inv X MG σ H s)(h:CE X.stack X.prog X.w H s Q u s'):EP X MG σ Q u s':=by obtain⟨v,H',os,bare,un,bw,r,q⟩:=h;obtain⟨hh,g,d,t,Sh⟩:=s';obtain rfl:Sh=s.os:=os;exact⟨v,H',I.call (h':=hh) (g':=g) (d':=d) (t':=t) (ch:=[]) un bw bare (λb z=>absurd z (by simp)),r,q⟩
end
def mZ (sp:Sp)(MZ:List V)(E:XK)(t:TA):TE:=λσ H Q=>t σ H λvs H1=>sp (vs++MZ) H1 Q E
def qp (C:Addr)(m:Str)(sp:Sp)(MZ:List V)(E:XK)(ta:TE)(t:TA):TE:=λσ H Q=>ta σ H λx H1=>∃a dx fs,x=.ref a/\H1 a=some (.ins C dx fs)/\fs.lookup m=none /\
 t σ H1 λvs H2=>sp (x::(vs++MZ)) H2 Q E
def GP (C:Addr)(sp:Sp)(MZ:List V)(E:XK)(t:TA):TE:=λσ H Q=>t σ H λvs H1=>∀x dx,H1 x=none->H1 dx=none->dx≠x ->
 sp (.ref x::(vs++MZ)) (upd (upd H1 dx (.own x)) x (.ins C dx [])) (λv H2=>v=.cv/\Q (.ref x) H2) E
def Binds (K:abB)(fd:FuncData)(ps:List Str)(ds:abF):Prop :=
 ∀(s:Shared) (us:abF),K.In s.heap->(us++ds).length=ps.length->BindsTo s fd ⟨us,[]⟩ (ps.zip (us++ds))
def Binds.all {fd:FuncData}{ps:List Str}(h:∀us:abF,us.length=ps.length->bindArgs fd ⟨us,[]⟩=pure (ps.zip us)):Binds K fd ps []:=λs us _ hl=>by rw[ZW] at hl ⊢;exact .of_eq (h us hl)
def Passes (CX:mU)(X:Cx)(E:XK):Prop:=∀(MG:abE) (σ:St) (H:Hp) (s:Shared) (e:Value) (s':Shared),Inv X MG σ H s->CX X.stack H s E e s'->X.xe e s'
section
variable {X:Cx}{CX:mU}{k:Nat}{f C:Addr}{fd:FuncData}{ps:List Str}{sp:Sp}{MZ:List V}{ds:abF}{E:XK}{x m:Str}{p pos apos:Pos}{e o:Expr}{es:List Expr}{ta:TE}{t:TA}
def yZ (F:a8 X.prog X.w X.K X.mg X.MH CX k f fd ps sp) (hr:cU k X.A) (hb:Binds X.K fd ps ds) (hd:Vals MZ ds) (hx:Passes CX X E)
  (I:Inv X MG σ H s) (r:Vals vs us) (h:sp (vs++MZ) H Q E):wpAny (model X.prog X.w) X.A (call (.ref f) us) (EP X MG σ Q) X.xe s:=by
 have r2:Vals (vs++MZ) (us++ds):=r.append hd;have hl:(us++ds).length=ps.length:=by rw[<-r2.length];exact F.len _ _ _ _ h
 refine wpAny_call (abq (F.run X.A X.stack s H ⟨us,[]⟩ (us++ds) (vs++MZ) Q E hr I.Iw (hb s us I.n_ hl) r2 h) λr s' hq=>?_);cases r with
 |error e=>exact hx MG σ H s e s' I hq
 |ok fl =>
  cases fl with
  |ret u=>exact I.after hq|next=>exact False.elim hq|brk=>exact False.elim hq|cont=>exact False.elim hq
def EU (F:a8 X.prog X.w X.K X.mg X.MH CX k f fd ps sp)(hr:cU k X.A)(hg:Gl X x)(hm:X.mg x=some (.ref f))(hk:PySem.W.keepIn X.K (.ref f)=true)(hb:Binds X.K fd ps ds)(hd:Vals MZ ds)(hx:Passes CX X E)
  (ha:PA X (e::es) t)(Nn:(x==("__debug__":Str))=false:=by decide)(he:starEach (e::es) X.env=(false,eval e X.env)::starEach es X.env:=by rfl)(MR:(backTo pos (starEach es X.env)).any (·.1)=false:=by rfl) :
  PE X (.Call (.Name x p) (e::es) [] pos) (mZ sp MZ E t):=by
 intro MG s σ H Q I h;refine aa4 (nj I hg hm ?_ Nn);refine PySem.W.callWith_K (h₀:=X.MH) I.ok.mod.GZ hk (bE (ha pos MG s σ H _ I h) λus s1 ⟨vs,H1,I1,r,q⟩=>⟨I1.n_,?_⟩) he MR;exact yZ F hr hb hd hx I1 r q
def F7 {pl:Sem Bool}(he:PE X o ta)(c:zd X.K C)(hm:Meth X.K C m f)(F:a8 X.prog X.w X.K X.mg X.MH CX k f fd ps sp)(hr:cU k X.A)(hb:Binds X.K fd ps ds)(hd:Vals MZ ds)(hx:Passes CX X E)(ha:PA X (e::es) t)
  (Nm:starEach (e::es) X.env=(false,eval e X.env)::starEach es X.env:=by rfl)(MR:(backTo pos (starEach es X.env)).any (·.1)=false:=by rfl)
  (ht:eval (.Call (.Attribute o m apos) (e::es) [] pos) X.env=(do
   let ov <-eval o X.env
   standAt apos.atName
   let (f,first) <-holding [ov] (getMethod ov m pl)
   callWith pos f first (backTo pos (starEach (e::es) X.env)) (backToKw pos (keywordEach [] X.env))):=by rfl) :
  PE X (.Call (.Attribute o m apos) (e::es) [] pos) (qp C m sp MZ E ta t):=by
 intro MG s σ H Q I h;refine PySem.W.methodCall_KW (pl:=pl) (bE (he MG s σ H _ I h) λu s1 ⟨x,H1,I1,rx,a,dx,fs,ex,ea,l,q⟩=>?_) ht;subst ex;obtain rfl:u=Value.ref a:=rx;refine rB I1 ea c hm l ?_;refine PySem.W.callWith_K (first:=[.ref a]) (h₀:=X.MH) I.ok.mod.GZ hm.kp (bE (ha pos MG s1 σ H1 _ I1 q) λus s2 ⟨vs,H2,I2,r,q2⟩=>⟨I2.n_,?_⟩) Nm MR;exact yZ (us:=.ref a::us) (vs:=.ref a::vs) F hr hb hd hx I2 (.cons rfl r) q2
def C2 {pl:Sem Bool}(he:PE X o ta)(c:zd X.K C)(hm:Meth X.K C m f)(F:a8 X.prog X.w X.K X.mg X.MH CX k f fd ps sp)(hr:cU k X.A)(hb:Binds X.K fd ps ds)(hd:Vals MZ ds)(hx:Passes CX X E)
  (ht:eval (.Call (.Attribute o m apos) [] [] pos) X.env=(do
   let ov <-eval o X.env
   standAt apos.atName
   let (f,first) <-holding [ov] (getMethod ov m pl)
   callWith pos f first (backTo pos (starEach [] X.env)) (backToKw pos (keywordEach [] X.env))):=by rfl) :
  PE X (.Call (.Attribute o m apos) [] [] pos) (qp C m sp MZ E ta dE):=by
 intro MG s σ H Q I h;refine PySem.W.methodCall_KW (pl:=pl) (bE (he MG s σ H _ I h) λu s1 ⟨x,H1,I1,rx,a,dx,fs,ex,ea,l,q⟩=>?_) ht;subst ex;obtain rfl:u=Value.ref a:=rx;refine rB I1 ea c hm l ?_;exact PySem.W.callWith_K0 (first:=[.ref a]) I1.n_ hm.kp (yZ (us:=[.ref a]) (vs:=[.ref a]) F hr hb hd hx I1 (.cons rfl .nil) q)
structure Mk (K:abB)(C f:Addr):Prop where
 makes:PySem.W.makesIn K C=true
 init:PySem.W.findIn K (.ref C) "__init__"=some (some (.ref f))
 fn:PySem.W.isFn K (.ref f)=true
 kp:PySem.W.keepIn K (.ref C)=true
def BI (M:Mk X.K C f)(F:a8 X.prog X.w X.K X.mg X.MH CX k f fd ps sp)(hr:cU (k+1) X.A)(hb:Binds X.K fd ps ds)(hd:Vals MZ ds)
  (hx:Passes CX X E)(I:Inv X MG σ H s)(r:Vals vs us)
  (h:∀x dx,H x=none->H dx=none->dx≠x->sp (.ref x::(vs++MZ)) (upd (upd H dx (.own x)) x (.ins C dx [])) (λv H2=>v=.cv/\Q (.ref x) H2) E) :
  wpAny (model X.prog X.w) X.A (call (.ref C) us) (EP X MG σ Q) X.xe s:=by
 have hq:=h (s.heap.objs.size+1) s.heap.objs.size (I.bw.fresh (Nat.le_succ _)) (I.bw.fresh (Y5 _)) (Zv (abg _));have I2:=Inv.made (C:=C) I;have r2:Vals (V.ref (s.heap.objs.size+1)::(vs++MZ)) (Value.ref (s.heap.objs.size+1)::(us++ds)):=.cons rfl (r.append hd);have hl:(Value.ref (s.heap.objs.size+1)::us++ds).length=ps.length:=by have e:=r2.length;rw[F.len _ _ _ _ hq] at e;exact e.symm
 refine wpAny_call (DR (f:=f) I.n_ M.makes M.init (ZK.mp M.fn) (abq (F.run _ X.stack _ _ ⟨Value.ref (s.heap.objs.size+1)::us,[]⟩ (Value.ref (s.heap.objs.size+1)::(us++ds)) _ _ E (hr.make C us [])
  (I2.Iw.make C us []) (hb _ (Value.ref (s.heap.objs.size+1)::us) I2.n_ hl) r2 hq) λr s' N3=>?_))
 cases r with
 |error e=>exact hx MG σ _ _ e s' I2 N3
 |ok fl =>
  cases fl with
  |ret u =>obtain⟨v,H',I3,rv,ev,q3⟩:=I2.after N3;subst ev;exact⟨rv,⟨V.ref (s.heap.objs.size+1),H',I3,rfl,q3⟩⟩
  |next=>exact False.elim N3|brk=>exact False.elim N3|cont=>exact False.elim N3
def Fe (M:Mk X.K C f)(F:a8 X.prog X.w X.K X.mg X.MH CX k f fd ps sp)(hr:cU (k+1) X.A)(hg:Gl X x)(hm:X.mg x=some (.ref C))(hb:Binds X.K fd ps ds)(hd:Vals MZ ds)(hx:Passes CX X E)
  (ha:PA X (e::es) t)(Nn:(x==("__debug__":Str))=false:=by decide)(he:starEach (e::es) X.env=(false,eval e X.env)::starEach es X.env:=by rfl)(MR:(backTo pos (starEach es X.env)).any (·.1)=false:=by rfl) :
  PE X (.Call (.Name x p) (e::es) [] pos) (GP C sp MZ E t):=by
 intro MG s σ H Q I h;refine aa4 (nj I hg hm ?_ Nn);refine PySem.W.callWith_K (h₀:=X.MH) I.ok.mod.GZ M.kp (bE (ha pos MG s σ H _ I h) λus s1 ⟨vs,H1,I1,r,q⟩=>⟨I1.n_,?_⟩) he MR;exact BI M F hr hb hd hx I1 r q
end
section
variable {X:Cx}{CX:mU}{k:Nat}{f C:Addr}{fd:FuncData}{ps ks:List Str}{sp:Sp}{E:XK}{x m:Str}{p pos apos kpos:Pos}{e o:Expr}{es:List Expr}{kws:List Keyword}{te ta:TE}{t tk:TA}{nm:Option Str}
variable {g:abF->abF->abF} {gV:List V->List V->List V}
end
structure aG (N P:List Str)(sc:Scope):Prop where
 kind:sc.kind=.function
 co:sc.isCoroutine=false
 gen:sc.isGenerator=false
 nd:N.Nodup
 pre:N.take P.length=P
 par:∀x∈P,sc.names.lookup x=some .local\/sc.names.lookup x=some .cell
 IX:∀y∈sc.names,y.2≠.free
theorem tI {kindOf:Str->Option NameKind}{x:Str}:∀{binds:List (Str×Value)} {m:abD},(∀v,(x,v)∉binds)->bindL kindOf binds m x=m x
 |[],_,_=>rfl
 |(n,v)::r,m,h=>by
  unfold bindL;rw[tI λw hw=>h w (Zc _ hw)];split
  . have:x≠n:=by rintro rfl;exact h v ZG
    simp[this]
  rfl
theorem tW {kindOf:Str->Option NameKind}{x:Str}:∀{binds:List (Str×Value)} {m:abD},(∀v,(x,v)∉binds)->bindC kindOf binds m x=m x
 |[],_,_=>rfl
 |(n,v)::r,m,h=>by
  unfold bindC;rw[tW λw hw=>h w (Zc _ hw)];split
  . rfl
  have:x≠n:=by rintro rfl;exact h v ZG
  simp[this]
theorem sI {kindOf:Str->Option NameKind}{x:Str}{v:Value}:∀{P:List Str} {vs:abF} {i:Nat} {m:abD},P.Nodup->P[i]?=some x->vs[i]?=some v->kindOf x=some .local ->
  bindL kindOf (P.zip vs) m x=some v
 |[],_,_,_,_,h,_,_=>by simp at h|_::_,[],_,_,_,_,h,_=>by simp at h|p::P,w::vs,0,m,nd,h1,h2,hk=>by simp at h1 h2;subst h1;subst h2;show bindL kindOf ((p,w)::P.zip vs) m p=_;unfold bindL;rw[tI λv hv=>(Z5.mp nd).1 (List.of_mem_zip hv).1,YY hk];simp|p::P,w::vs,i+1,m,nd,h1,h2,hk=>by show bindL kindOf ((p,w)::P.zip vs) m x=_;unfold bindL;exact sI (i:=i) (Z5.mp nd).2 (by simpa using h1) (by simpa using h2) hk
theorem tV {kindOf:Str->Option NameKind}{x:Str}{v:Value}:∀{P:List Str} {vs:abF} {i:Nat} {m:abD},P.Nodup->P[i]?=some x->vs[i]?=some v->kindOf x≠some .local ->
  bindC kindOf (P.zip vs) m x=some v
 |[],_,_,_,_,h,_,_=>by simp at h|_::_,[],_,_,_,_,h,_=>by simp at h|p::P,w::vs,0,m,nd,h1,h2,hk=>by simp at h1 h2;subst h1;subst h2;show bindC kindOf ((p,w)::P.zip vs) m p=_;unfold bindC;rw[tW λv hv=>(Z5.mp nd).1 (List.of_mem_zip hv).1,YX hk];simp|p::P,w::vs,i+1,m,nd,h1,h2,hk=>by show bindC kindOf ((p,w)::P.zip vs) m x=_;unfold bindC;exact tV (i:=i) (Z5.mp nd).2 (by simpa using h1) (by simpa using h2) hk
def start (N:List Str)(vs:List V):St:=vs.map some++List.replicate (N.length - vs.length) none
def ot (CX:mU)(P:Program)(w:World)(K:abB)(mg:abD)(MH:Heap)(N:List Str)(qual:Str)(scope:Scope)(f:Addr)(cd:Value)(A:Around)(outer:List Env)(s:Shared)(H:Hp)(E:XK):Cx where
 prog:=P
 w:=w
 K:=K
 mg:=mg
 MH:=MH
 A:=A.deeper (envOfC qual scope s.heap.objs.size f cd)
 N:=N
 lA:=s
 Jz:=H
 env:=envOfC qual scope s.heap.objs.size f cd
 outer:=outer
 stack:=envOfC qual scope s.heap.objs.size f cd::outer
 ex:=[]
 calm:=true
 fn:=λ_=>true
 pn:=[]
 xe:=λe s'=>wpAny (model P w) (A.deeper (envOfC qual scope s.heap.objs.size f cd)) (leaving (envOfC qual scope s.heap.objs.size f cd) e) (λ_ Q3=>CX outer H s E e Q3) (λe' Q3=>CX outer H s E e' Q3) s'
def vF {sc:Scope}{n:Nat}{x:Str}(h:sc.names.lookup x=some .cell):∃c,(cellsFrom n sc.names []).lookup x=some c:=by have q:=PySem.W.cellsFrom_some sc.names n [] (.inl h);exact aa1.mp q
def AU {CX:mU}{N ps:List Str}{f:Addr}{cd:Value}{s1:Shared}{E:XK}
  (S:aG N ps scope)(hd:A.handled=none)(e0:yP P w K mg MH A outer s H)(hl:vs.length=ps.length)(r:Vals vs us)
  (x:InCallC s s.heap.objs.size (bindL (envOfC qual scope s.heap.objs.size f cd).kindOf (ps.zip us) λ_=>none) (cellsFrom (s.heap.objs.size+1) scope.names []) (bindC (envOfC qual scope s.heap.objs.size f cd).kindOf (ps.zip us) λ_=>none) s1) :
  Inv (ot CX P w K mg MH N qual scope f cd A outer s H E) [] (start N vs) H s1:=by
 have MR:ps.length<=N.length:=by have:=Z0 List.length S.pre;rw[Zh] at this;omega
 obtain⟨h1,tk,rfl,hk⟩:=x.done;have Pl:∀b:Addr,b∉(ot CX P w K mg MH N qual scope f cd A outer s H E).ex:=λb z=>absurd (show b∈([]:List Addr) from z) (by simp);refine⟨⟨e0.mod,S.kind,rfl,rfl,Y5 _,λy z c h1 h2=>?_,λy hy=>?_,λy c _ h=>?_,λ_=>hd,Around.frames_deeper e0.frames,.inr ⟨rfl,rfl⟩,λb z=>absurd z (Pl b),e0.bs,e0.D3,λb _ _=>Pl b,λb z=>absurd z (Pl b),e0.m_,e0.GJ⟩,
  rfl,e0.bare,Un.kept hk,⟨_,x.toInCall.ns,λi y v h1 h2 h3=>?_⟩,λy c h=>⟨_,x.cell y c h⟩,e0.bw.fresh (Y5 _),λy c h=>?_,λp hp=>absurd (show p∈([]:abE) from hp) (by simp),e0.bw.kept hk,?_⟩
 . exact name_of_addr x.apart (PySem.mem_of_lookup h1) (PySem.mem_of_lookup h2)
 . have hy:scope.names.lookup y=some .cell\/scope.names.lookup y=some .free:=hy;rcases hy with hy|hy
   . exact vF hy
   exact absurd rfl (S.IX _ (PySem.mem_of_lookup hy))
 . exact Nat.le_of_lt (x.above y c (PySem.mem_of_lookup h))
 . have hi:i < vs.length:=by
    unfold start at h2;by_cases hi:i < vs.length
    . exact hi
    rw[abx (by simpa using hi)] at h2;rw[List.getElem?_replicate] at h2;split at h2 <;> cases h2
   have ha:vs[i]?=some v:=by
    unfold start at h2;rw[List.getElem?_append_left (by simpa using hi),Y1] at h2;cases e:vs[i]? with
    |none=>rw[e] at h2;cases h2|some a=>rw[e] at h2;cases h2;rfl
   obtain⟨u,hu,rv⟩:=r.get ha;have hp:ps[i]?=some y:=by rw[<-S.pre,List.getElem?_take_of_lt (by omega)];exact h1
   have Uq:ps.Nodup:=by rw[<-S.pre];exact S.nd.sublist (List.take_sublist _ _)
   refine⟨u,rv,?_⟩;rcases S.par y (Zm hp) with k|k
   . exact .inl ⟨k,sI Uq hp hu k⟩
   obtain⟨c,e⟩:=vF (n:=s.heap.objs.size+1) k;refine .inr ⟨.inl k,c,e,?_⟩;have q:=x.cell y c e;rw[tV Uq hp hu (by show scope.names.lookup y≠_;rw[k];decide)] at q;exact q
 . exact e0.bw.fresh (Nat.le_of_lt (x.above y c (PySem.mem_of_lookup h)))
 unfold start;show _=N.length;rw[Zg,YW,Zs];omega
def B6 {CX:mU}{k:Nat}{f:Addr}{params:Arguments}{dV kV doc pm MK ct oc:Value}{an od:Option Addr}
  {NF:Array (Option Value)}{N ps:List Str}{sp:Sp}(lk:K.lookup f=some ⟨oc,od,.func (PySem.W.fnOf name qual params body scope dV kV doc pm an MK ct),NF⟩)(Ni:PySem.W.codeIn K MK qual=true)(S:aG N ps scope)
  (len:∀vs H Q E,sp vs H Q E->vs.length=ps.length)
  (MP:∀(A:Around) (outer:List Env) (s:Shared) (H:Hp) (vs:List V) (Q:VK) (E:XK),cU k (A.deeper (envOfC qual scope s.heap.objs.size f MK))->sp vs H Q E ->
   ∃t,C5 (ot CX P w K mg MH N qual scope f MK A outer s H E) body t/\t {nx:=λ_ H'=>Q .cv H',rt:=Q} (start N vs) H) :
  a8 P w K mg MH CX (k+1) f (PySem.W.fnOf name qual params body scope dV kV doc pm an MK ct) ps sp:=by
 refine⟨len,λA outer s H args us vs Q E hr e0 hb r Nj=>?_⟩;have hl:=len _ _ _ _ Nj;have KX:K.In s.heap:=e0.mod.GZ.keeps λb o e=>(e0.bs b o e).1;have lim:s.heap.NoLimit:=e0.mod.nolimit.keeps λb o e=>(e0.bs b o e).1;have P6:∀y∈ps.zip us,scope.names.lookup y.1=some .local\/(scope.names.lookup y.1=some .cell/\((cellsFrom (s.heap.objs.size+1) scope.names []).lookup y.1).isSome=true):=λ⟨n,v⟩ hy=>by
  rcases S.par n (List.of_mem_zip hy).1 with q|q
  . exact .inl q
  exact .inr ⟨q,PySem.W.cellsFrom_some _ _ _ (.inl q)⟩
 refine codeAny_call_function hr.depth (KX _ _ lk) rfl S.co S.gen rfl (PySem.W.codeRec_of KX Ni) (hb _ _ _ _ ?_);refine wpAny_newFunctionEnv_cells S.kind P6 λenv he s1 x=>?_;subst he;refine⟨lim.keeps x.toInCall.keep,codeAny_func ?_⟩;obtain⟨t,ht,hq⟩:=MP A outer s H vs Q E (hr.deeper _) Nj;have I:Inv (ot CX P w K mg MH N qual scope f MK A outer s H E) [] (start N vs) H s1:=AU S hr.hd e0 hl r x;refine aaa (ht s1 (start N vs) H _ I hq) (λfl s' hs=>?_) λe s' hs=>hs;have fin:∀{σ':St} {H':Hp} {v:V} {u:Value},Inv (ot CX P w K mg MH N qual scope f MK A outer s H E) [] σ' H' s'->RelV v u->Q v H'->CE outer P w H s Q u s' :=
  λ{σ' H' v u} J rv q=>⟨v,H',J.os,J.bare,J.MH,J.bw,rv,q⟩
 cases fl with
 |ret u =>obtain⟨v,σ',H',J,rv,q⟩:=hs;exact fin J rv q
 |next =>obtain⟨σ',H',J,q⟩:=hs;exact fin (v:=V.cv) (u:=Value.none) J rfl q
 |brk =>obtain⟨_,_,_,q⟩:=hs;exact False.elim q
 |cont =>obtain⟨_,_,_,q⟩:=hs;exact False.elim q
def GR {CX:mU}{k:Nat}{f:Addr}{params:Arguments}{dV kV doc pm MK ct oc:Value}{an od:Option Addr}
  {NF:Array (Option Value)}{N ps:List Str}{sp:Sp}(lk:K.lookup f=some ⟨oc,od,.func (PySem.W.fnOf name qual params body scope dV kV doc pm an MK ct),NF⟩)(Ni:PySem.W.codeIn K MK qual=true)(S:aG N ps scope)
  (len:∀vs H Q E,sp vs H Q E->vs.length=ps.length)
  (MP:∀(A:Around) (outer:List Env) (s:Shared) (H:Hp) (vs:List V) (Q:VK) (E:XK),cU k (A.deeper (envOfC qual scope s.heap.objs.size f MK))->sp vs H Q E ->
   ∃t,sh (ot CX P w K mg MH N qual scope f MK A outer s H E) body t/\t {nx:=λ_ H'=>Q .cv H',rt:=Q} (start N vs) H) :
  a8 P w K mg MH CX (k+1) f (PySem.W.fnOf name qual params body scope dV kV doc pm an MK ct) ps sp:=B6 lk Ni S len λA outer s H vs Q E hr hs=>let ⟨t,ht,hq⟩:=MP A outer s H vs Q E hr hs;⟨t,λs σ H D=>ht [] s σ H D,hq⟩
section
variable {X:Cx}{x:Str}{p pos:Pos}{e:Expr}{es:List Expr}{t:TA}{id T:String}{r:List V->Hp->VK->Prop}
def Hn (r:List V->Hp->VK->Prop) (t:TA):TE:=λσ H Q=>t σ H λvs H1=>r vs H1 Q
def b7 (hc:i5 X (.builtin id) r)(hg:Gl X x)(hm:X.mg x=none)(hv:bootBuiltins x=some (.builtin id))(ha:PA X (e::es) t)(hn:x≠"__name__":=by decide)(Nn:(x==("__debug__":Str))=false:=by decide)
  (he:starEach (e::es) X.env=(false,eval e X.env)::starEach es X.env:=by rfl)(MR:(backTo pos (starEach es X.env)).any (·.1)=false:=by rfl):PE X (.Call (.Name x p) (e::es) [] pos) (Hn r t):=by
 intro MG s σ H Q I h;refine aa4 (lM I hg hm hv ?_ hn Nn);exact PyProof.Rows.callWith_builtin1 (bE (ha pos MG s σ H _ I h) λus s1 ⟨vs,H1,I1,r1,q1⟩=>hc MG s1 σ H1 vs us Q I1 r1 q1) he MR
def k_ (hc:i5 X (.type T) r)(hg:Gl X x)(hm:X.mg x=none)(hv:bootBuiltins x=some (.type T))(ha:PA X (e::es) t)(hn:x≠"__name__":=by decide)(Nn:(x==("__debug__":Str))=false:=by decide)
  (he:starEach (e::es) X.env=(false,eval e X.env)::starEach es X.env:=by rfl)(MR:(backTo pos (starEach es X.env)).any (·.1)=false:=by rfl):PE X (.Call (.Name x p) (e::es) [] pos) (Hn r t):=by
 intro MG s σ H Q I h;refine aa4 (lM I hg hm hv ?_ hn Nn);exact aaj (bE (ha pos MG s σ H _ I h) λus s1 ⟨vs,H1,I1,r1,q1⟩=>hc MG s1 σ H1 vs us Q I1 r1 q1) he MR
end
end L2
namespace HT
open PySem PyProof.Rows
section
open PySem.SeqAt
open PySem.AutoSeq1 (wpAny_loadPart')
open PySem.MeetsSeq PySem.MeetsSeq2 PySem.MeetsSeq3
end
section
variable {prog:Program}{w:World}{A:Around}{E:abC}{s:Shared}
def ER {t b:Addr} {vs ws:abF} {Q:abC} (ht:IsTup s.heap t vs.toArray) (hb:IsTup s.heap b ws.toArray) (hv:vs≠[])
  (h1:ws=[]->Q (.ref t) s) (h2:ws≠[]->Q (.ref s.heap.objs.size) {s with heap:=s.heap.push {cls:=.type "tuple",data:=.seq (vs++ws).toArray}})
  (hsz:vs.length+ws.length<=sizeLine):wpAny (model prog w) A (binaryOp .Add (.ref t) (.ref b)) Q E s:=by
 obtain⟨⟨cls,dd,data,sl⟩,ho,hc,n,hd⟩:=id ht;obtain⟨⟨cls2,Ur,data2,Us⟩,Q4,Ut,n2,hd2⟩:=id hb;simp only at hc hd Ut hd2;subst hc hd Ut hd2;have e:vs.toArray++ws.toArray=(vs++ws).toArray:=by simp
 by_cases hw:ws=[]
 . exact concat_meets ⟨_,ho,rfl⟩ ⟨_,Q4,rfl⟩ noFill_tuple_add seq_tuple_add PySem.F.slot_tuple_add PySem.F.entry_tuple_add (PySem.F.args_tuple_add_2 _ _)
    (tuple_addW1 t b vs.toArray ws.toArray n n2 dd Ur sl Us (by simpa using hv) (by simp[hw])) ⟨ho,Q4,h1 hw⟩
 refine concat_meets ⟨_,ho,rfl⟩ ⟨_,Q4,rfl⟩ noFill_tuple_add seq_tuple_add PySem.F.slot_tuple_add PySem.F.entry_tuple_add (PySem.F.args_tuple_add_2 _ _)
  (tuple_addW2 t b vs.toArray ws.toArray n n2 dd Ur sl Us (by simpa using hv) (by simpa using hw) (by rw[Zf,Zf];exact hsz)) ⟨ho,Q4,?_⟩
 rw[e];exact h2 hw
def cq (n d:Nat):Option Int->Nat
 |none=>d|some v=>if v < 0 then (v+(n:Int)).toNat else min v.toNat n
def iP (n d:Nat):cq n d none=d:=rfl
def jq (n d k:Nat):cq n d (some (k:Int))=min k n:=by show (if (k:Int) < 0 then ((k:Int)+(n:Int)).toNat else min (k:Int).toNat n)=min k n;rw[YX (by omega),ZF]
def yD (n d:Nat)(hd:d<=n)(o:Option Int):cq n d o<=n:=by
 cases o with
 |none=>exact hd
 |some v =>
  show (if v < 0 then (v+(n:Int)).toNat else min v.toNat n)<=n;by_cases hv:v < 0
  . rw[YY hv];omega
  rw[YX hv];exact Nat.min_le_right _ _
def zD (v:Int)(n d:Nat):(if v < 0 then max (v+(n:Int)) 0 else min v (n:Int))=((cq n d (some v):Nat):Int):=by
 show (if v < 0 then max (v+(n:Int)) 0 else min v (n:Int))=(((if v < 0 then (v+(n:Int)).toNat else min v.toNat n):Nat):Int);by_cases hv:v < 0
 . simp only[YY hv];omega
 simp only[YX hv];omega
def yC (lo hi:Option Int)(n:Nat):Builtin.Slice.sliceAdjust lo hi 1 (n:Int)=(((cq n 0 lo:Nat):Int),((cq n n hi:Nat):Int)):=by
 have h1:¬((1:Int) < 0):=by omega
 unfold Builtin.Slice.sliceAdjust;simp only[h1,aaQ];refine Prod.ext ?_ ?_
 . cases lo with
   |none=>rfl|some v=>exact zD v n 0
 cases hi with
 |none=>rfl|some v=>exact zD v n n
def yJ (i j:Nat):Builtin.Slice.slicePlaces (i:Int) (j:Int) 1=j - i:=by
 unfold Builtin.Slice.slicePlaces;have h1:(1:Int) > 0:=by omega
 simp only[h1,aaB,Int.ediv_one];split <;> omega
def ql {v:Value}{o:Option Int}{Q:Option Int->Shared->Prop}(p:IsPart v o)(h:Q o s):wpAny (model prog w) A (Builtin.Slice.slicePartIndex v) Q E s:=by
 cases p with
 |none=>exact slicePart_none h|int i t=>exact slicePart_int h
def i9 {sl:Addr}{vl vu:Value}{lo hi:Option Int}{n:Nat}{Q:Int×Int×Nat->Shared->Prop}(hs:s.heap.IsSliceOf sl vl vu .none)(pl:IsPart vl lo)(pu:IsPart vu hi)
  (h:Q (((cq n 0 lo:Nat):Int),1,cq n n hi - cq n 0 lo) s):wpAny (model prog w) A (Builtin.Slice.sliceApplied (.ref sl) (pure (n:Int))) Q E s:=by
 obtain⟨os,Oe,OY,OZ⟩:=id hs;unfold Builtin.Slice.sliceApplied Builtin.Slice.sliceFields;refine YV (YV (wpAny_field Oe OZ (x:=vl) rfl (YV (wpAny_field Oe OZ (x:=vu) rfl (YV (wpAny_field Oe OZ (x:=.none) rfl (Y2 ?_)))))));refine YV (slicePart_none ?_);show wpAny _ _ (if ((1:Int)==0)=true then _ else _) _ _ s;rw[YX (by decide)];refine YV (ql pl (YV (ql pu (YV (Y2 ?_)))));show wpAny _ _ (match Builtin.Slice.sliceAdjust lo hi 1 (n:Int) with|(lo,hi)=>pure (lo,(1:Int),Builtin.Slice.slicePlaces lo hi 1)) _ _ s;rw[yC lo hi n];show wpAny _ _ (pure (((cq n 0 lo:Nat):Int),(1:Int),Builtin.Slice.slicePlaces ((cq n 0 lo:Nat):Int) ((cq n n hi:Nat):Int) 1)) _ _ s;rw[yJ];exact Y2 h
def CN (xs:Array Value)(i k:Nat):((List.range k).filterMap λ(m:Nat)=>xs[((i:Int)+(m:Int)*1).toNat]?).toArray=((xs.toList.drop i).take k).toArray:=by
 have e:(λ(m:Nat)=>xs[((i:Int)+(m:Int)*1).toNat]?)=λm=>xs[i+m]?:=by
  funext m;have:((i:Int)+(m:Int)*1).toNat=i+m:=by omega
  rw[this]
 rw[e];have:=pick_run xs i k;rw[List.filterMap_map] at this;have e2:((λx=>xs[x]?) ∘ λx=>i+x)=λm=>xs[i+m]?:=rfl;rw[e2] at this;rw[this]
def nJ {t sl:Addr}{items:Array Value}{vl vu:Value}{lo hi:Option Int}{Q:abC}(ht:IsTup s.heap t items)(hs:s.heap.IsSliceOf sl vl vu .none)(pl:IsPart vl lo)(pu:IsPart vu hi)
  (hw:¬(cq items.size 0 lo=0/\cq items.size items.size hi=items.size))
  (h:Q (.ref s.heap.objs.size) {s with heap:=s.heap.push {cls:=.type "tuple",data:=.seq ((items.toList.drop (cq items.size 0 lo)).take (cq items.size items.size hi - cq items.size 0 lo)).toArray}})
  (hsz:items.size<=sizeLine):wpAny (model prog w) A (getItem (.ref t) (.ref sl)) Q E s:=by
 have Ny:sizeOk (.seq ((items.toList.drop (cq items.size 0 lo)).take (cq items.size items.size hi - cq items.size 0 lo)).toArray):=by show ((items.toList.drop (cq items.size 0 lo)).take (cq items.size items.size hi - cq items.size 0 lo)).toArray.size<=sizeLine;rw[Zf,Zh,ZM,aaD];omega
 have hj:cq items.size items.size hi<=items.size:=yD _ _ (Y5 _) hi;obtain⟨os,Oe,OY,OZ⟩:=id hs;have Wv:s.TypeIs (.ref sl) "slice":=⟨os,Oe,OY⟩;unfold getItem
 try with_reducible refine aaS ?_
 first|refine YV (Y2 ?_)|skip
 refine YV (wpAny_sequenceKey ht.typeIs (by decide) ?_);refine YV (Z9 (name:=Str.ofString "__getitem__") ht.typeIs Z_
  (aae Z_ ht.typeIs entry_tuple_getitem ?_ (args_tuple_getitem _ _)))
 show wpAny _ _ (Builtin.Tuple.tupleItemsOf (.ref t) >>= _) _ _ s;refine YV (tupleItemsOf_ ht ?_);refine YV (wpAny_typeOf Wv ?_);rw[YY (by decide)];refine YV (i9 hs pl pu ?_);have N4:¬((((cq items.size 0 lo:Nat):Int)==0&&(1:Int)==1&&(cq items.size items.size hi - cq items.size 0 lo)==items.size)=true):=by intro q;rw[Y3,Y3] at q;have q1:((cq items.size 0 lo:Nat):Int)=0:=aam q.1.1;have q2:cq items.size items.size hi - cq items.size 0 lo=items.size:=aam q.2;exact hw ⟨by omega,by omega⟩
 show wpAny _ _ (if (((cq items.size 0 lo:Nat):Int)==0&&(1:Int)==1&&(cq items.size items.size hi - cq items.size 0 lo)==items.size)=true then _ else _) _ _ s;rw[YX N4,CN]
 first
  |exact YV (m:=Builtin.Tuple.tupleExact _) (aak (Y2 ⟨_,rfl,Y2 h⟩) Ny)|exact YV (m:=Builtin.Tuple.tupleExact _) (aak (YV (Y2 (Y2 ⟨_,rfl,Y2 h⟩))) Ny)|exact YV (YV (m:=Builtin.Tuple.tupleExact _) (aak (Y2 (Y2 ⟨_,rfl,Y2 h⟩)) Ny))|exact YV (YV (m:=Builtin.Tuple.tupleExact _) (aak (Y2 ⟨_,rfl,Y2 h⟩) Ny))
end
end HT
namespace L2
open PySem PySem.Spec PyProof.Rows
abbrev TO:=St->Hp->(Option Int->Hp->Prop)->Prop
def PO (X:Cx)(e:Option Expr)(t:TO):Prop :=
 ∀(MG:abE) (s:Shared) (σ:St) (H:Hp) (Q:Option Int->Hp->Prop),Inv X MG σ H s->t σ H Q ->
  wpAny (model X.prog X.w) X.A (evalPart e X.env) (λu s'=>∃o H',Inv X MG σ H' s'/\IsPart u o/\Q o H') X.xe s
def FJ:TO:=λ_ H Q=>Q none H
def Km (t:TE):TO:=λσ H Q=>t σ H λx H1=>∃i,x=.int i/\Q (some i) H1
def intsAre_of {ns:List Int}:∀{us:abF},Vals (ns.map V.int) us->IntsAre us ns:=by
 induction ns with
 |nil=>intro us r;rw[aah] at r;cases r;exact .nil
 |cons n ns ih =>
  intro us r;rw[Zb] at r;cases r with
  |cons r1 r2 =>obtain⟨t,e⟩:=r1;subst e;exact .cons n t (ih r2)
section
variable {X:Cx}{e:Expr}{te:TE}{lo hi:Option Expr}{tl th:TO}{pos p2:Pos}
def fQ:PO X none FJ:=by intro MG s σ H Q I h;rw[evalPart_none];exact Y2 ⟨none,H,I,.none,h⟩
def di (h:PE X e te):PO X (some e) (Km te):=by intro MG s σ H Q I hw;rw[evalPart_some];refine bE (h MG s σ H _ I hw) λu s1 ⟨x,H1,I1,r1,q1⟩=>?_;obtain⟨i,rfl,q⟩:=q1;obtain⟨t,rfl⟩:=r1;exact⟨some i,H1,I1,.int i t,q⟩
def JO (X:Cx)(r:V->Option Int->Option Int->Hp->VK->Prop):Prop :=
 ∀(MG:abE) (s:Shared) (σ:St) (H:Hp) (x:V) (v vl vu:Value) (lo hi:Option Int) (sl:Addr) (Q:VK),Inv X MG σ H s->RelV x v->s.heap.IsSliceOf sl vl vu .none->IsPart vl lo->IsPart vu hi->r x lo hi H Q ->
  ∃T id,typeLookup (.type T) "__getitem__"=pure (some (.builtin id))/\s.TypeIs v T/\wpAny (model X.prog X.w) X.A (getItem v (.ref sl)) (EP X MG σ Q) X.xe s
def Mp (r:V->Option Int->Option Int->Hp->VK->Prop)(te:TE)(tl th:TO):TE:=λσ H Q=>te σ H λx H1=>tl σ H1 λl H2=>th σ H2 λu H3=>r x l u H3 Q
def cT {r:V->Option Int->Option Int->Hp->VK->Prop}(hr:JO X r)(he:PE X e te)(hl:PO X lo tl)(hu:PO X hi th):PE X (.Subscript e (.Slice lo hi none p2) pos) (Mp r te tl th):=by intro MG s σ H Q I h;refine Subscript_ (bE (he MG s σ H _ I h) λv s1 ⟨x,H1,I1,r1,q1⟩=>?_);refine wpAny_Slice (bE (hl MG s1 σ H1 _ I1 q1) λvl s2 ⟨l,H2,I2,pl,q2⟩=>bE (hu MG s2 σ H2 _ I2 q2) λvu s3 ⟨u,H3,I3,pu,q3⟩=>?_);rw[evalPart_none];refine Y2 ?_;have I4:Inv X MG σ H3 {s3 with heap:=s3.heap.push {cls:=.type "slice",data:=.fields #[vl,vu,.none]}}:=I3.kept (t':=s3.toks) λb ob q=>YZ _ q;obtain⟨T,id,hT,ht,hg⟩:=hr MG {s3 with heap:=s3.heap.push {cls:=.type "slice",data:=.fields #[vl,vu,.none]}} σ H3 x v vl vu l u s3.heap.objs.size Q I4 r1 (Heap.IsSliceOf.new ..) pl pu q3;show wpAny (model X.prog X.w) X.A (subscriptTail e (.Slice lo hi none p2) v (.ref s3.heap.objs.size)) (EP X MG σ Q) X.xe {s3 with heap:=s3.heap.push {cls:=.type "slice",data:=.fields #[vl,vu,.none]}};exact tail_any (ops:=[.ref s3.heap.objs.size,v]) ht hT hg (by with_unfolding_all rfl)
def fY (xs:List V)(lo hi:Option Int):List V:=(xs.drop (HT.cq xs.length 0 lo)).take (HT.cq xs.length xs.length hi - HT.cq xs.length 0 lo)
def oV (xs:List V)(lo hi:Option Int):(fY xs lo hi).length<=xs.length:=by unfold fY;rw[Zh,ZM];omega
def Lv (K:abB):V->Option Int->Option Int->Hp->VK->Prop:=λx lo hi H Q=>∃a xs,x=.ref a/\bY K H a xs /\
 ¬(HT.cq xs.length 0 lo=0/\HT.cq xs.length xs.length hi=xs.length)/\∀p,H p=none->Q (.ref p) (upd H p (.tup (fY xs lo hi)))
def Jv:JO X (Lv X.K):=by
 intro MG s σ H x v vl vu lo hi sl Q I rx hs pl pu h;obtain⟨a,xs,rfl,hx,hw,q⟩:=h;cases rx;obtain⟨MJ,r,ht,hz⟩:=I.tuple hx;have hlen:MJ.toArray.size=xs.length:=by rw[Zf];exact r.length.symm
 refine⟨"tuple",_,Z_.lookup,ht.typeIs,?_⟩;refine HT.nJ ht hs pl pu (by rw[hlen];exact hw) ?_ (by rw[hlen];exact hz);rw[hlen];refine⟨.ref s.heap.objs.size,_,I.laid (t':=s.toks) (o:=.tup (fY xs lo hi)) (λb ob q=>YZ _ q) (Y5 _) ?_,rfl,q _ (I.bw.fresh (Y5 _))⟩;exact⟨ZH (oV xs lo hi) hz,_,(r.drop (HT.cq xs.length 0 lo)).take (HT.cq xs.length xs.length hi - HT.cq xs.length 0 lo),IsTup.new _ _⟩
def JK (K:abB):R2:=λx y H Q=>∃a b xs ys,x=.ref a/\y=.ref b/\bY K H a xs/\bY K H b ys/\xs≠[]/\xs.length+ys.length<=sizeLine /\
 (ys=[]->Q (.ref a) H)/\(ys≠[]->∀p,H p=none->Q (.ref p) (upd H p (.tup (xs++ys))))
def Vals.pH {xs:List V}{us:abF}(r:Vals xs us):us=[]↔xs=[]:=by
 cases r with
 |nil=>simp|cons _ _=>simp
def E8:jT X (binaryOp .Add) (JK X.K):=by intro MG s σ H x y v u Q I rx ry h;obtain⟨a,b,xs,ys,rfl,rfl,ha,hb,hx,hz,q1,q2⟩:=h;cases rx;cases ry;obtain⟨MJ,r1,p1,_⟩:=I.tuple ha;obtain⟨M8,r2,p2,_⟩:=I.tuple hb;refine HT.ER p1 p2 (λz=>hx (r1.pH.mp z)) (λz=>⟨.ref a,H,I,rfl,q1 (r2.pH.mp z)⟩) (λz=>?_) (by rw[<-r1.length,<-r2.length];exact hz);refine⟨.ref s.heap.objs.size,_,I.laid (t':=s.toks) (o:=.tup (xs++ys)) (λb ob q=>YZ _ q) (Y5 _) ?_,rfl,q2 (λw=>z (r2.pH.mpr w)) _ (I.bw.fresh (Y5 _))⟩;exact⟨by rw[Zg];exact hz,_,r1.append r2,IsTup.new _ _⟩
end
def EL (n:Nat)(i:Int):Option Nat:=if 0<=i then (if i < n then some i.toNat else none) else if -(n:Int)<=i then some (i+n).toNat else none
def oN {α:Type}(xs:List α)(i:Int):Option α:=(EL xs.length i).bind λj=>xs[j]?
def zw {n:Nat}{i:Int}{j:Nat}(h:EL n i=some j):seqIndex? i n=some j/\j < n/\-(n:Int)<=i/\i < n:=by
 unfold EL at h;by_cases h0:0<=i
 . rw[YY h0] at h;by_cases h1:i < n
   . rw[YY h1] at h;have e:i.toNat=j:=Zw h;exact⟨by rw[seqIndex_of h0 h1,e],by omega,by omega,h1⟩
   rw[YX h1] at h;cases h
 rw[YX h0] at h;by_cases h1:-(n:Int)<=i
 . rw[YY h1] at h;have e:(i+n).toNat=j:=Zw h;exact⟨by rw[seqIndex_neg (by omega) h1,e],by omega,h1,by omega⟩
 rw[YX h1] at h;cases h
def vo {α:Type}{xs:List α}{i:Int}{v:α}(h:oN xs i=some v):∃j,seqIndex? i xs.length=some j/\xs[j]?=some v/\j < xs.length/\-(xs.length:Int)<=i/\i < xs.length:=by
 unfold oN at h;cases e:EL xs.length i with
 |none=>rw[e] at h;cases h|some j =>rw[e] at h;obtain⟨h1,h2,h3,h4⟩:=zw e;exact⟨j,h1,h,h2,h3,h4⟩
def cz {α:Type}{xs:List α}{j:Nat}{v:α}(h:xs[j]?=some v):oN xs (j:Int)=some v:=by
 have hj:j < xs.length:=(Y9.mp h).1;have e:EL xs.length (j:Int)=some j:=by unfold EL;rw[YY (by omega),YY (by omega)];simp
 unfold oN;rw[e];exact h
def Gx (b:Expr):Prop:=∀o i,subscripted b false o i=operate [o,i] (getItem o i)
def K5 (X:Cx)(r:R2):Prop :=
 ∀(value slice:Expr) (MG:abE) (s:Shared) (σ:St) (H:Hp) (x y:V) (v u:Value) (Q:VK),Inv X MG σ H s->RelV x v->RelV y u->r x y H Q ->
  subscripted slice false v u=operate [v,u] (getItem v u)->wpAny (model X.prog X.w) X.A (subscriptTail value slice v u) (EP X MG σ Q) X.xe s
def CY (X:Cx)(id:String)(r:V->List V->Hp->VK->Prop):Prop :=
 ∀(MG:abE) (s:Shared) (σ:St) (H:Hp) (x:V) (xs:List V) (v:Value) (us:abF) (Q:VK),Inv X MG σ H s->RelV x v->Vals xs us->r x xs H Q ->
  wpAny (model X.prog X.w) X.A (call (.builtin id) (v::us)) (EP X MG σ Q) X.xe s
section
variable {X:Cx}{a b:Expr}{ta tb:TE}{pos:Pos}
def bh {r:R2} (hr:K5 X r) (ha:PE X a ta) (hb:PE X b tb) (hs:Gx b):PE X (.Subscript a b pos) (j_ r ta tb):=by intro MG s σ H Q I h;exact Subscript_ (Io ha hb I h λv u s2 x y H2 I2 rx ry q=>hr a b MG s2 σ H2 x y v u Q I2 rx ry q (hs _ _))
def AF (K:abB):R2:=λx y H Q=>∃p xs i v,x=.ref p/\y=.int i/\aP K H p xs/\oN xs i=some v/\Q v H
def Kx (K:abB):R2:=λx y H Q=>∃p xs i v,x=.ref p/\y=.int i/\bY K H p xs/\oN xs i=some v/\Q v H
def JY:R2:=λx y H Q=>∃z i c,x=.str z/\y=.int i/\z.length<=sizeLine/\oN z.cps.toList i=some c/\Q (.str ⟨#[c]⟩) H
def aM:K5 X (AF X.K):=by
 intro value slice MG s σ H x y v u Q I rx ry h hs;obtain⟨p,xs,i,z,rfl,rfl,hq,he,q⟩:=h;cases rx;obtain⟨t,rfl⟩:=ry;obtain⟨MJ,r,pl,hz⟩:=I.list hq;obtain⟨j,h1,h2,h3,h4,h5⟩:=vo he;obtain⟨w,ew,O0⟩:=r.get h2;have hl:=r.length;have hn:=lZ;have fin:EP X MG σ Q w s:=⟨z,H,I,O0,q⟩;by_cases h0:0<=i
 . have hj:i.toNat=j:=by
    rw[seqIndex_of h0 h5] at h1;exact Zw h1
   exact item_listR pl.isList h0 (by omega) (by rw[hj];simpa using ew) fin hs
 have hj:(i+(MJ.toArray.size:Int)).toNat=j:=by rw[seqIndex_neg (by omega) h4] at h1;rw[Zf,<-hl];exact Zw h1
 exact subscriptTail_builtinR (x:=w) pl.isList.typeIs slot_list_getitem.lookup
  (wpAny_getItem_list_neg (Q:=λr s'=>r=w/\EP X MG σ Q r s') pl.isList (by omega) (by rw[Zf] <;> omega) (by omega) (by rw[hj];simpa using ew) ⟨rfl,fin⟩) hs
def DC:K5 X (Kx X.K):=by
 intro value slice MG s σ H x y v u Q I rx ry h hs;obtain⟨p,xs,i,z,rfl,rfl,hq,he,q⟩:=h;cases rx;obtain⟨t,rfl⟩:=ry;obtain⟨MJ,r,pl,hz⟩:=I.tuple hq;obtain⟨j,h1,h2,h3,h4,h5⟩:=vo he;obtain⟨w,ew,O0⟩:=r.get h2;have hl:=r.length;have hn:=lZ;have fin:EP X MG σ Q w s:=⟨z,H,I,O0,q⟩;exact subscriptTail_builtinR (x:=w) pl.typeIs slot_tuple_getitem.lookup
  (getItem_tuple (j:=j) (Q:=λr s'=>r=w/\EP X MG σ Q r s') pl (by omega) (by omega) (by rw[Zf,<-hl];exact h1) (by simpa using ew) ⟨rfl,fin⟩) hs
def uQ:K5 X JY:=by
 intro value slice MG s σ H x y v u Q I rx ry h hs;obtain⟨z,i,c,rfl,rfl,hz,he,q⟩:=h;obtain⟨t,rfl⟩:=rx;obtain⟨t',rfl⟩:=ry;obtain⟨j,h1,h2,h3,h4,h5⟩:=vo he;have hl:z.cps.toList.length=z.length:=by simp[Str.length]
 rw[hl] at h1 h4 h5;have hn:=lZ;exact tail_any (abf s z t) slot_str_getitem.lookup (getItem_str (c:=c) (by have e1:decide (i < -(2 ^ 63:Int))=false:=ZI (by omega);have e2:decide (i ≥ 2 ^ 63)=false:=ZI (by omega);rw[e1,e2,aa3]) (by rw[h1];simpa using h2) ⟨.str ⟨#[c]⟩,H,I.tok _,⟨_,rfl⟩,q⟩) hs
def yw (MJ:abF)(n j:Nat)(u:Value):Obj.mapSeq (·.setIfInBounds j u) {cls:=.type "list",data:=.seq MJ.toArray n}={cls:=.type "list",data:=.seq (MJ.set j u).toArray n}:=by simp[Obj.mapSeq]
theorem Inv.lst {MG:abE}{σ:St}{H:Hp}{s:Shared}{p:Addr}{xs:List V}(I:Inv X MG σ H s)(h:H p=some (.lst xs)) :
  ∃(MJ:abF) (n:Nat),Vals xs MJ/\s.heap.get? p=some {cls:=.type "list",data:=.seq MJ.toArray n}/\xs.length<=sizeLine:=by
 obtain⟨z,MJ,n,r,e⟩:=I.bw p _ h;exact⟨MJ,n,r,e,z⟩
def Inv.Hl {MG:abE}{σ:St}{H:Hp}{s:Shared}{p:Addr}{xs ys:List V}{MJ its':abF}{n n':Nat}{f:Obj->Obj}(I:Inv X MG σ H s)(h:H p=some (.lst xs))
  (ho:s.heap.get? p=some {cls:=.type "list",data:=.seq MJ.toArray n})(hf:f {cls:=.type "list",data:=.seq MJ.toArray n}={cls:=.type "list",data:=.seq its'.toArray n'})(r:Vals ys its')(hz:ys.length<=sizeLine)(t:Nat) :
  Inv X MG σ (upd H p (.lst ys)) {s with heap:=s.heap.update p f,toks:=t}:=by
 have e:(s.heap.update p f).get? p=some {cls:=.type "list",data:=.seq its'.toArray n'}:=by rw[ZT f ho (by rw[hf] <;> rfl),hf]
 refine I.write (x:=p) (e:=p) (by rw[h];trivial) (.inl rfl) (λb u hb q=>(aaO _ _ (abr hb)).trans q) ⟨_,e⟩ ?_;exact⟨hz,its',n',r,e⟩
def KI:V->V->V->Hp->(Hp->Prop)->Prop:=λo i v H Q=>∃p xs k j,o=.ref p/\i=.int k/\H p=some (.lst xs)/\EL xs.length k=some j/\Q (upd H p (.lst (xs.set j v)))
def set_list:Kd X KI:=by
 intro MG s σ H o i v ov iv u Q I ro ri rv h;obtain⟨p,xs,k,j,rfl,rfl,hp,hj,q⟩:=h;cases ro;obtain⟨t,rfl⟩:=ri;obtain⟨MJ,n,r,ho,hz⟩:=I.lst hp;obtain⟨h1,h2,h3,h4⟩:=zw hj;have hl:=r.length;have hn:=lZ;have I':Inv X MG σ (upd H p (.lst (xs.set j v))) {s with heap:=s.heap.update p (Obj.mapSeq (·.setIfInBounds j u))} :=
  I.Hl hp ho (yw MJ n j u) (r.set rv j) (by rw[List.length_set];exact hz) s.toks
 by_cases h0:0<=k
 . have hk:k.toNat=j:=by
    rw[seqIndex_of h0 h4] at h1;exact Zw h1
   exact PySem.W.ki_setAt ho h0 (by omega) (by rw[Zf,<-hl];exact h4) (by rw[hk];exact⟨_,I',q⟩)
 have hk:(k+(MJ.toArray.size:Int)).toNat=j:=by rw[seqIndex_neg (by omega) h3] at h1;rw[Zf,<-hl];exact Zw h1
 exact PySem.W.ki_setBack ho (by omega) (by rw[Zf,<-hl];exact h3) (by omega) (by rw[hk];exact⟨_,I',q⟩)
def uJ (lo hi:Option Int)(n:Nat):(sliceBounds lo hi none n).1=((HT.cq n 0 lo:Nat):Int)/\(sliceBounds lo hi none n).2.1=((HT.cq n n hi:Nat):Int)/\(sliceBounds lo hi none n).2.2=1:=by
 refine⟨?_,?_,rfl⟩
 . cases lo with
   |none=>simp[sliceBounds,HT.cq]
   |some i =>
    simp only[sliceBounds,HT.cq,Option.getD_none,show (1:Int) > 0 by decide,aaB];by_cases h:i < 0
    . simp only[h,aaB] <;> omega
    simp only[h,aaQ] <;> omega
 cases hi with
 |none=>simp[sliceBounds,HT.cq]
 |some i =>
  simp only[sliceBounds,HT.cq,Option.getD_none,show (1:Int) > 0 by decide,aaB];by_cases h:i < 0
  . simp only[h,aaB] <;> omega
  simp only[h,aaQ] <;> omega
def sx (MJ:abF)(lo hi:Option Int):slicePick MJ.toArray lo hi none=((MJ.drop (HT.cq MJ.length 0 lo)).take (HT.cq MJ.length MJ.length hi - HT.cq MJ.length 0 lo)).toArray:=by obtain⟨h1,h2,h3⟩:=uJ lo hi MJ.toArray.size;unfold slicePick;rw[h1,h2,h3];simp only[sliceRange_one,pick_run,Zf] <;> rfl
def L4 (K:abB):V->Option Int->Option Int->Hp->VK->Prop:=λx lo hi H Q=>∃a xs,x=.ref a/\aP K H a xs/\∀p,H p=none->Q (.ref p) (upd H p (.lst (fY xs lo hi)))
def fO:JO X (L4 X.K):=by intro MG s σ H x v vl vu lo hi sl Q I rx hs pl pu h;obtain⟨a,xs,rfl,hx,q⟩:=h;cases rx;obtain⟨MJ,r,ht,hz⟩:=I.list hx;have hlen:=r.length;refine⟨"list",_,slot_list_getitem.lookup,ht.isList.typeIs,?_⟩;refine wpAny_getItem_list_slice ht.isList hs pl pu .none (by simp) ?_ (by rw[Zf] <;> omega);rw[sx,<-hlen];refine⟨.ref s.heap.objs.size,_,I.laid (t':=s.toks) (o:=.lst (fY xs lo hi)) (λb ob q=>YZ _ q) (Y5 _) ?_,rfl,q _ (I.bw.fresh (Y5 _))⟩;exact⟨ZH (oV xs lo hi) hz,_,0,(r.drop (HT.cq xs.length 0 lo)).take (HT.cq xs.length xs.length hi - HT.cq xs.length 0 lo),Za _ rfl⟩
def d_:V->Bool
 |.cv=>true|.bl _=>true|.int _=>true|.str _=>true|_=>false
def sC:V->V->Bool
 |.cv,.cv=>true|.bl a,.bl b=>a==b|.bl a,.int b=>(if a then 1 else 0)==b|.int a,.bl b=>a==(if b then 1 else 0)|.int a,.int b=>a==b|.str a,.str b=>a==b|_,_=>false
def Ht {A:Around}{s:Shared}{y x:V}{u v:Value}(ry:RelV y u)(rx:RelV x v)(fy:d_ y=true)(fx:d_ x=true):SeqAt.EqAt A s u v (sC y x):=by
 cases y with
 |cv =>
  cases ry;cases x with
  |cv=>cases rx;exact SeqAt.EqAt.same _|bl b=>cases rx;exact SeqAt.EqAt.none_bool b|int b=>obtain⟨t,rfl⟩:=rx;exact SeqAt.EqAt.none_int b t
  |str b=>obtain⟨t,rfl⟩:=rx;exact SeqAt.EqAt.none_str b t
  |_=>exact absurd (show false=true from fx) Zi
 |bl a =>
  cases ry;cases x with
  |cv=>cases rx;exact SeqAt.EqAt.bool_none a|bl b=>cases rx;exact SeqAt.EqAt.bool_bool a b|int b=>obtain⟨t,rfl⟩:=rx;exact SeqAt.EqAt.bool_int a b t
  |str b=>obtain⟨t,rfl⟩:=rx;exact SeqAt.EqAt.bool_str a b t
  |_=>exact absurd (show false=true from fx) Zi
 |int a =>
  obtain⟨t',rfl⟩:=ry;cases x with
  |cv=>cases rx;exact SeqAt.EqAt.int_none a t'|bl b=>cases rx;exact SeqAt.EqAt.int_bool a t' b|int b=>obtain⟨t,rfl⟩:=rx;exact SeqAt.EqAt.int_int a t' b t
  |str b=>obtain⟨t,rfl⟩:=rx;exact SeqAt.EqAt.int_str a t' b t
  |_=>exact absurd (show false=true from fx) Zi
 |str a =>
  obtain⟨t',rfl⟩:=ry;cases x with
  |cv=>cases rx;exact SeqAt.EqAt.str_none a t'|bl b=>cases rx;exact SeqAt.EqAt.str_bool a t' b|int b=>obtain⟨t,rfl⟩:=rx;exact SeqAt.EqAt.str_int a t' b t
  |str b=>obtain⟨t,rfl⟩:=rx;exact SeqAt.EqAt.str_str a t' b t
  |_=>exact absurd (show false=true from fx) Zi
 |_=>exact absurd (show false=true from fy) Zi
def xo (x:V)(u:Value):Bool:=match u with
 |.none=>sC .cv x|.bool b=>sC (.bl b) x|.int i _=>sC (.int i) x|.str z _=>sC (.str z) x|_=>false
def mj {x y:V}{u:Value}(r:RelV y u)(f:d_ y=true):xo x u=sC y x:=by
 cases y with
 |cv=>cases r;rfl|bl b=>cases r;rfl|int i=>obtain⟨t,rfl⟩:=r;rfl
 |str z=>obtain⟨t,rfl⟩:=r;rfl
 |_=>exact absurd (show false=true from f) Zi
theorem mV {x:V}:∀{xs:List V} {us:abF},Vals xs us->xs.all d_=true->us.any (xo x)=xs.any λy=>sC y x
 |_,_,.nil,_=>rfl|y::xs,u::us,.cons r t,f=>by rw[aa2,Y3] at f;rw[aaq,aaq,mj r f.1,mV t f.2]
theorem ib {A:Around}{s:Shared}{x:V}{v:Value}(rx:RelV x v)(fx:d_ x=true):∀{xs:List V} {us:abF},Vals xs us->xs.all d_=true->∀u∈us,SeqAt.EqAt A s u v (xo x u)
 |_,_,.nil,_=>λu hu=>by cases hu
 |y::xs,u::us,.cons r t,f=>λu' hu=>by
  rw[aa2,Y3] at f;rcases Y0.mp hu with rfl|hu
  . rw[mj r f.1];exact Ht r rx f.1 fx
  exact ib rx fx t f.2 u' hu
def o4 (x:V)(xs:List V):Bool:=xs.any λy=>sC y x
def Ie (K:abB)(neg:Bool):R2:=λx y H Q=>∃p xs,y=.ref p/\(aP K H p xs\/bY K H p xs)/\d_ x=true/\xs.all d_=true/\Q (.bl (if neg then !o4 x xs else o4 x xs)) H
def gP:jT X (compareOp .In) (Ie X.K false):=by
 intro MG s σ H x y v u Q I rx ry h;obtain⟨p,xs,rfl,hq,fx,fs,q⟩:=h;cases ry;rcases hq with hq|hq
 . obtain⟨MJ,r,pl,hz⟩:=I.list hq;refine SeqAt.in_listAt (xo x) pl.isList (λw hw=>ib rx fx r fs w (by simpa using hw)) ⟨.bl _,H,I,rfl,?_⟩;rw[show MJ.toArray.any (xo x)=MJ.any (xo x) by simp,mV r fs];exact q
 obtain⟨MJ,r,pl,hz⟩:=I.tuple hq;refine SeqAt.in_tupleAt (xo x) pl (λw hw=>ib rx fx r fs w (by simpa using hw)) ⟨.bl _,H,I,rfl,?_⟩;rw[show MJ.toArray.any (xo x)=MJ.any (xo x) by simp,mV r fs];exact q
def eZ:jT X (compareOp .NotIn) (Ie X.K true):=by
 intro MG s σ H x y v u Q I rx ry h;obtain⟨p,xs,rfl,hq,fx,fs,q⟩:=h;cases ry;rcases hq with hq|hq
 . obtain⟨MJ,r,pl,hz⟩:=I.list hq;refine SeqAt.notIn_listAt (xo x) pl.isList (λw hw=>ib rx fx r fs w (by simpa using hw)) ⟨.bl _,H,I,rfl,?_⟩;rw[show MJ.toArray.any (xo x)=MJ.any (xo x) by simp,mV r fs];exact q
 obtain⟨MJ,r,pl,hz⟩:=I.tuple hq;refine SeqAt.notIn_tupleAt (xo x) pl (λw hw=>ib rx fx r fs w (by simpa using hw)) ⟨.bl _,H,I,rfl,?_⟩;rw[show MJ.toArray.any (xo x)=MJ.any (xo x) by simp,mV r fs];exact q
def ux:i5 X (.builtin "len") (λxs H Q=>∃p ys,xs=[.ref p]/\(aP X.K H p ys\/bY X.K H p ys)/\Q (.int ys.length) H):=by
 intro MG s σ H xs us Q I r h;obtain⟨p,ys,rfl,hq,q⟩:=h;obtain⟨u,rfl,rx⟩:=vals1 r;cases rx;have hn:=lZ;rcases hq with hq|hq
 . obtain⟨MJ,r',pl,hz⟩:=I.list hq;have hlen:=r'.length;exact Calls.call_len_list pl.isList (by simp only[Zf] <;> omega) ⟨.int ys.length,H,I.tok _,⟨s.toks+1,by rw[Zf,hlen]⟩,q⟩
 obtain⟨MJ,r',pl,hz⟩:=I.tuple hq;have hlen:=r'.length;exact len_tuple pl (by simp only[Zf] <;> omega) ⟨.int ys.length,H,I.tok _,⟨s.toks+1,by rw[Zf,hlen]⟩,q⟩
def gq:i5 X (.builtin "len") (λxs H Q=>∃z,xs=[.str z]/\z.length<=sizeLine/\Q (.int z.length) H):=by intro MG s σ H xs us Q I r h;obtain⟨z,rfl,hz,q⟩:=h;obtain⟨u,rfl,t,rfl⟩:=vals1 r;have hn:=lZ;exact len_str (by omega) ⟨.int z.length,H,I.tok _,⟨_,rfl⟩,q⟩
def su:i5 X (.type "tuple") (λxs H Q=>∃p ys,xs=[.ref p]/\((aP X.K H p ys/\∀l,H l=none->Q (.ref l) (upd H l (.tup ys)))\/(bY X.K H p ys/\Q (.ref p) H))):=by
 intro MG s σ H xs us Q I r h;obtain⟨p,ys,rfl,h⟩:=h;obtain⟨u,rfl,rx⟩:=vals1 r;cases rx;rcases h with ⟨hq,q⟩|⟨hq,q⟩
 . obtain⟨MJ,r',pl,hz⟩:=I.list hq;have hlen:=r'.length;refine call_tuple_list pl.isList (λh' kp=>?_) (by simp only[Zf] <;> omega);have I1:Inv X MG σ H {s with heap:=h'}:=I.kept (t':=s.toks) kp;have I2:Inv X MG σ (upd H h'.objs.size (.tup ys)) {s with heap:=h'.push {cls:=.type "tuple",data:=.seq MJ.toArray}} :=
    I1.laid (t':=s.toks) (λb o e=>YZ _ e) (Y5 _) (show bL X.prog X.w _ _ _ (.tup ys) from ⟨hz,MJ,r',IsTup.new _ _⟩)
   exact⟨.ref h'.objs.size,_,I2,rfl,q _ (I1.bw.fresh (Y5 _))⟩
 obtain⟨MJ,r',pl,hz⟩:=I.tuple hq;exact call_tuple_same pl ⟨.ref p,H,I,rfl,q⟩
def Mb (K:abB)(T:String)(x:V)(H:Hp):Prop:=match x with
 |.str _=>T="str"|.int _=>T="int"
 |.ref p=>(T="list"/\∃xs,aP K H p xs)\/(T="tuple"/\∃o,K.lookup p=some o/\o.cls=.type "tuple"/\o.dict=none) \/
   (T="dict"/\((∃MI,H p=some (.dK MI))\/∃MI,H p=some (.dT MI)))\/(T="set"/\∃S n,H p=some (.set S n))
 |_=>False
def Jj {MG:abE}{σ:St}{H:Hp}{s:Shared}{T:String}{x:V}{v:Value}(I:Inv X MG σ H s)(r:RelV x v)(ty:Mb X.K T x H) :
  s.TypeIs v T/\∀a,v=.ref a->∃ob,s.heap.get? a=some ob/\ob.dict=none:=by
 cases x with
 |str z =>obtain⟨t,rfl⟩:=r;cases (show T="str" from ty);exact⟨abf s z t,λ_ e=>nomatch e⟩
 |int i =>obtain⟨t,rfl⟩:=r;cases (show T="int" from ty);exact⟨typeIs_int s i t,λ_ e=>nomatch e⟩
 |ref p =>
  cases r;rcases ty with ⟨rfl,xs,hq⟩|⟨rfl,o,hk,hc,hd⟩|⟨rfl,hk⟩|⟨rfl,S,n,hk⟩
  . obtain⟨MJ,_,pl,_⟩:=I.list hq;refine⟨pl.isList.typeIs,λa e=>?_⟩;cases e;obtain⟨o,n,e,c,hd,_⟩:=pl;exact⟨o,e,hd⟩
  . refine⟨⟨o,I.n_ p o hk,hc⟩,λa e=>?_⟩;cases e;exact⟨o,I.n_ _ o hk,hd⟩
  . have z:∃o,s.heap.get? p=some o/\o.ExactDict:=by
     rcases hk with ⟨MI,hk⟩|⟨MI,hk⟩
     . obtain⟨_,_,_,_,o,_,_,e,ex,_⟩:=I.bw p _ hk;exact⟨o,e,ex⟩
     obtain⟨_,_,_,_,o,_,_,e,ex,_⟩:=I.bw p _ hk;exact⟨o,e,ex⟩
    obtain⟨o,e,ex⟩:=z;refine⟨⟨o,e,ex.1⟩,λa e2=>?_⟩;cases e2;exact⟨o,e,ex.2.1⟩
  obtain⟨o,_,_,_,e,ex,_⟩:=I.bw p _ hk;refine⟨⟨o,e,ex.1⟩,λa e2=>?_⟩;cases e2;exact⟨o,e,ex.2.1⟩
 |_=>exact False.elim ty
def Mu (K:abB)(T:String)(r:V->List V->Hp->VK->Prop)(to:TE)(t:TA):TE:=λσ H Q=>to σ H λx H1=>Mb K T x H1/\t σ H1 λxs H2=>r x xs H2 Q
variable {o e:Expr}{es:List Expr}{to:TE}{t:TA}{name:Str}{apos MO:Pos}{T id:String}{r:V->List V->Hp->VK->Prop}
def qw (pa:PlainAttrs T) (slot:Slot T name id) (Pn:typeOf (.builtin id)=pure (.type "method_descriptor")) (hm:CY X id r) (ho:PE X o to) (ha:PA X (e::es) t)
  (MV:attributeBase o name X.env (eval o X.env)=eval o X.env:=by rfl)
  (Si:((backTo MO (starEach (e::es) X.env)).all (λx=>!x.1)&&(backToKw MO (keywordEach [] X.env)).all (λx=>x.1.isSome)
   && decide ((e::es).length+([]:List Keyword).length+(if ([]:List Keyword).isEmpty then 0 else 1) < 30))=true:=by rfl)
  (MW:(apos.endLine==MO.line)=true:=by rfl) (hs:starEach (e::es) X.env=(false,eval e X.env)::starEach es X.env:=by rfl) (O1:(backTo MO (starEach es X.env)).any (·.1)=false:=by rfl) :
  PE X (.Call (.Attribute o name apos) (e::es) [] MO) (Mu X.K T r to t):=by
 intro MG s σ H Q I h;refine wpAny_Call_method_late MV Si MW rfl (bE (ho MG s σ H _ I h) λv s1 ⟨x,H1,I1,r1,ty,q1⟩=>?_);obtain⟨h1,h2⟩:=Jj I1 r1 ty;refine⟨T,id,pa,slot,Pn,h1,h2,?_⟩;have hA:=ha MO MG s1 σ H1 _ I1 q1;rw[hs] at hA ⊢;refine abd (by show (false||(backTo MO (starEach es X.env)).any (·.1))=false;rw[O1] <;> rfl) (Calls.evalArgs_plain ?_);exact bE hA λus s2 ⟨vs,H2,I2,r2,q2⟩=>hm MG s2 σ H2 x vs v us Q I2 r1 r2 q2
end
def Mg (X:Cx)(id:String)(r:V->List V->Hp->VK->Prop):Prop :=
 ∀(MG:abE) (s:Shared) (σ:St) (H:Hp) (x:V) (xs:List V) (v:Value) (us:abF) (Q:VK),Inv X MG σ H s->RelV x v->Vals xs us->r x xs H Q ->
  wpAny (model X.prog X.w) X.A (call (.builtin id) (v::us)) (EP X MG σ Q) X.xe s
def Vals.one:∀{x:V} {us:abF},Vals [x] us->∃u,us=[u]/\RelV x u
 |_,_,.cons r .nil=>⟨_,rfl,r⟩
section
variable {X:Cx}{MG:abE}{σ:St}{H:Hp}{s:Shared}{l b:Addr}{xs ys zs:List V}
def Inv.Lq {MJ its':abF} {n:Nat} {f:Array Value->Array Value} {t':Nat} (I:Inv X MG σ H s) (hH:H l=some (.lst xs))
  (e:s.heap.get? l=some {cls:=.type "list",data:=.seq MJ.toArray n}) (hf:f MJ.toArray=its'.toArray) (hv:Vals ys its') (hz:ys.length<=sizeLine) :
  Inv X MG σ (upd H l (.lst ys)) {s with heap:=s.heap.update l (Obj.mapSeq f),toks:=t'}:=by
 have q:=PySem.IsL.update e f;rw[hf] at q;refine I.write (x:=l) (e:=l) (by rw[hH];exact trivial) (.inl rfl) (λb' u hb hu=>(aaO s.heap (Obj.mapSeq f) (abr hb)).trans hu) ⟨_,q⟩ ?_;exact⟨hz,its',_,hv,q⟩
def Inv.LD {MJ:abF}{t':Nat}(I:Inv X MG σ H s)(hv:Vals ys MJ)(hz:ys.length<=sizeLine) :
  Inv X MG σ (upd H s.heap.objs.size (.lst ys)) {s with heap:=s.heap.push {cls:=.type "list",data:=.seq MJ.toArray},toks:=t'} :=
 I.laid (λ_ _ q=>YZ _ q) (Y5 _) ⟨hz,MJ,0,hv,Za _ rfl⟩
theorem Inv.fresh (I:Inv X MG σ H s):H s.heap.objs.size=none:=I.bw.fresh (Y5 _)
def Inv.Ij (I:Inv X MG σ H s)(hH:H l=some (.lst xs)):xs.length<=sizeLine/\∃(MJ:abF) (n:Nat),Vals xs MJ/\xs.length=MJ.length/\s.heap.get? l=some {cls:=.type "list",data:=.seq MJ.toArray n}:=by obtain⟨z,MJ,n,r,e⟩:=I.bw l _ hH;exact⟨z,MJ,n,r,r.length,e⟩
end
section
variable {X:Cx}
def EO:V->List V->Hp->VK->Prop:=λx vs H Q=>∃l xs y,x=.ref l/\vs=[y]/\H l=some (.lst xs)/\xs.length < sizeLine/\Q .cv (upd H l (.lst (xs++[y])))
def i_:Mg X "list.append" EO:=by intro MG s σ H x vs v us Q I rx rv h;obtain⟨l,xs,y,rfl,rfl,hH,hz,q⟩:=h;cases rx;obtain⟨u,rfl,ru⟩:=rv.one;obtain⟨z,MJ,n,r,hl,e⟩:=I.Ij hH;refine call_meets F.slot_list_append ⟨_,e,rfl⟩ F.entry_list_append (F.args_list_append_2 _ _) (PySem.list_append l MJ.toArray n u (by rw[Zf];omega)) ⟨e,?_⟩;refine⟨.cv,_,I.Lq (its':=MJ++[u]) hH e (by simp) (r.append (.cons ru .nil)) ?_,rfl,q⟩;rw[Zg,Z7];omega
def LI:R2:=λx y H Q=>∃l b xs zs,x=.ref l/\y=.ref b/\H l=some (.lst xs)/\H b=some (.lst zs)/\xs.length+zs.length<=sizeLine/\∀p,H p=none->Q (.ref p) (upd H p (.lst (xs++zs)))
def xU:jT X (binaryOp .Add) LI:=by
 intro MG s σ H x y v u Q I rx ry h;obtain⟨l,b,xs,zs,rfl,rfl,hH,hB,hz,q⟩:=h;cases rx;cases ry;obtain⟨z,MJ,n,r,hl,e⟩:=I.Ij hH;obtain⟨z2,M8,n2,r2,Wj,e2⟩:=I.Ij hB;refine PySem.P.add_list e e2 ?_ (by rw[Zf,Zf];omega);have ea:MJ.toArray++M8.toArray=(MJ++M8).toArray:=by simp
 rw[ea];exact⟨.ref _,_,I.LD (t':=s.toks) (r.append r2) (by rw[Zg];omega),rfl,q _ I.fresh⟩
end
section
variable {prog:Program}{w:World}{A:Around}{E:abC}{s:Shared}
end
section
variable {X:Cx}
end
theorem Vals.ints:∀{ns:List Int} {us:abF},Vals (ns.map V.int) us->IntsAre us ns
 |[],us,h=>by rw[aah] at h;cases h;exact IntsAre.nil
 |n::ns,us,h=>by
  rw[Zb] at h;cases h with
  |cons r t =>obtain⟨k,rfl⟩:=r;exact IntsAre.cons n k (Vals.ints t)
theorem m8:∀{us:abF} {ns:List Int},IntsAre us ns->Vals (ns.map V.int) us
 |_,_,.nil=>by rw[aah];exact Paired.nil|_,_,.cons n t h=>by rw[Zb];exact Paired.cons (show RelV (V.int n) (Value.int n t) from ⟨t,rfl⟩) (m8 h)
theorem Vals.LB:∀{bs:List Bool} {us:abF},Vals (bs.map V.bl) us->us=bs.map Value.bool
 |[],us,h=>by rw[aah] at h;cases h;rfl
 |b::bs,us,h=>by
  rw[Zb] at h;cases h with
  |cons r t =>cases r;rw[Vals.LB t,Zb]
def Vals.yG {a:Addr}{us:abF}(r:Vals [V.ref a] us):us=[Value.ref a]:=by
 cases r with
 |cons r t =>cases t;cases r;rfl
section
variable {prog:Program}{w:World}{A:Around}{E:abC}{s:Shared}{l:Addr}{MJ:abF}{ns:List Int}{Q:abC}
def GH (hh:A.handled=none) (hl:s.heap.IsList l MJ.toArray) (hi:IntsAre MJ ns)
  (h:∀h' tk t',(∀b o,s.heap.get? b=some o->h'.get? b=some o)->Q (.int ns.sum t') {s with heap:=h',toks:=tk}):wpAny (model prog w) A (call (.builtin "sum") [.ref l]) Q E s:=by
 obtain⟨xs,e⟩:=hi.allInts.items;have hn:numsOf (intItems xs).toList=ns:=by rw[<-e];exact hi.numsOf
 rw[nums_intItems] at hn;rw[e] at hl;refine PySem.sum_intListG hh hl λh' tk t' hk=>?_;have:=h h' tk t' hk;rw[preSum_eq,ZQ (by simp),hn];exact this
end
section
variable {X:Cx}
def Kg (K:abB):List V->Hp->VK->Prop:=λvs H Q=>∃(a:Addr) (ns:List Int),vs=[V.ref a]/\aP K H a (ns.map V.int)/\Q (.int ns.sum) H
def xB (hc:X.calm=true):i5 X (.builtin "sum") (Kg X.K):=by intro MG s σ H vs us Q I r h;obtain⟨a,ns,rfl,hs,q⟩:=h;obtain⟨MJ,rv,hl,_⟩:=I.list hs;rw[Vals.yG r];exact GH (I.ok.hd hc) hl.isList rv.ints λh' tk t' hk=>⟨.int _,H,I.kept hk,⟨_,rfl⟩,q⟩
def Af {n:Nat}(h:n < 64):n<=sizeLine:=by rw[Zl];omega
end
section
variable {X:Cx}
def HI (K:abB):V->List V->Hp->VK->Prop:=λx xs H Q=>∃(a:Addr) (ys:List V) (y:V) (j:Nat) (z:V),x=V.ref a/\xs=[y]/\aP K H a ys/\d_ y=true/\ys.all d_=true/\ys[j]?=some z/\sC z y=true /\
 (∀(m:Nat) (z':V),m < j->ys[m]?=some z'->sC z' y=false)/\Q (.int (j:Nat)) H
def nM {ys:List V}(f:ys.all d_=true){j:Nat}{z:V}(h:ys[j]?=some z):d_ z=true:=Zn.mp f z (Zm h)
def DM:CY X "list.index" (HI X.K):=by
 intro MG s σ H x xs v us Q I rx Sj h;obtain⟨a,ys,y,j,z,rfl,rfl,hs,fy,OA,hz,Ww,N4,q⟩:=h;cases rx;cases Sj with
 |cons ry rt =>
  rename_i uy ut;cases rt;obtain⟨MJ,rv,⟨⟨cls,dd,data,sl⟩,n,ho,hc,Q5,hd⟩,hlen⟩:=I.list hs;simp only at hc hd;subst hc hd;obtain⟨u,hu,ru⟩:=rv.get hz;obtain⟨Po,Wx⟩:=Y9.mp hu;have hvl:=rv.length;have hj:j < MJ.toArray.size:=by simpa using Po
  have O2:=Zl;refine call_meets PySem.F.slot_list_index ⟨_,ho,rfl⟩ PySem.F.entry_list_index (PySem.F.args_list_index_2 _ _)
   (SeqAt.list_indexAt a MJ.toArray n dd sl uy (xo y) j hj (by omega) ?_ ?_) ⟨ho,λu' Sk=>ib ry fy rv OA u' (by simpa using Sk),?_⟩
  . have e1:MJ.toArray[j]=u:=by simpa using Wx
    rw[e1,mj ru (nM OA hz)];exact Ww
  . intro m hm Wy;have OB:m < MJ.length:=by simpa using hm
    have Wz:m < ys.length:=by omega
    have OC:ys[m]?=some ys[m]:=Y6 Wz;obtain⟨u2,Sm,So⟩:=rv.get OC;obtain⟨_,WA⟩:=Y9.mp Sm;have e1:MJ.toArray[m]=u2:=by simpa using WA
    rw[e1,mj So (nM OA OC)];exact N4 m _ Wy OC
  exact⟨.int (j:Nat),H,I.tok _,⟨_,rfl⟩,q⟩
end
section
variable {X:Cx}
end
def xj {prog:Program}{w:World}{A:Around}{E:abC}{s:Shared}{l:Addr}{items:Array Value}{Q:abC}(hl:s.heap.IsList l items)
  (h:∀s₂:Shared,s₂={s with heap:=s.heap.push {cls:=.type "list_iterator",data:=.fields #[.ref l,.int 0 0]}} ->
   (s₂.heap.IsListIter s.heap.objs.size l 0/\s₂.heap.IsList l items)->l≠s.heap.objs.size->Q (.ref s.heap.objs.size) s₂):wpAny (model prog w) A (pyIter (.ref l)) Q E s:=by
 have MN:l < s.heap.objs.size:=by obtain⟨_,e,_⟩:=hl;exact Y8 e
 exact wpAny_pyIter_list hl (h _ rfl ⟨⟨_,Za _ rfl,rfl,rfl⟩,hl.push _⟩ (Zv MN))
def oS {prog:Program}{w:World}{A:Around}{bs:List Bool}{MJ:abF}(e:MJ=bs.map Value.bool) :
  TruthOf prog w A (λi v=>MJ.toArray[i]?=some v) (λi=>bs.getD i false):=λi v s Q E hv hq=>by
 have Q2:MJ[i]?=some v:=by simpa using hv
 rw[e,Y1] at Q2;obtain⟨b,hb,rfl⟩:=Zu.mp Q2;have hg:bs.getD i false=b:=by rw[ZD,hb] <;> rfl
 have N3:Q (bs.getD i false) s:=hq;rw[hg] at N3;exact Z8 N3
theorem any_range:∀bs:List Bool,(List.range bs.length).any (λi=>bs.getD i false)=bs.any id
 |[]=>rfl
 |b::bs=>by
  rw[Y7,List.range_succ_eq_map,aaq,abb,aaq,<-any_range bs]
  all_goals rfl
theorem all_range:∀bs:List Bool,(List.range bs.length).all (λi=>bs.getD i false)=bs.all id
 |[]=>rfl
 |b::bs=>by
  rw[Y7,List.range_succ_eq_map,aa2,aaY,aa2,<-all_range bs]
  all_goals rfl
section
variable {X:Cx}
def Lr (K:abB):List V->Hp->VK->Prop:=λvs H Q=>∃(a:Addr) (bs:List Bool),vs=[V.ref a]/\aP K H a (bs.map V.bl)/\Q (.bl (bs.any id)) H
def Ls (K:abB):List V->Hp->VK->Prop:=λvs H Q=>∃(a:Addr) (bs:List Bool),vs=[V.ref a]/\aP K H a (bs.map V.bl)/\Q (.bl (bs.all id)) H
def Cf (hc:X.calm=true):i5 X (.builtin "any") (Lr X.K):=by
 intro MG s σ H vs us Q I r h;obtain⟨a,bs,rfl,hs,q⟩:=h;obtain⟨MJ,rv,hl,_⟩:=I.list hs;rw[Vals.yG r];have hb:=rv.LB;refine call_any_walk (xj hl.isList λs₂ e2 st MT=>?_);subst e2;refine⟨_,_,_,_,_,_,_,rfl,Walks.list (A:=X.A.in1) (I.ok.hd hc) _ a MT MJ.toArray,st,oS hb,λh' tk hk=>?_⟩;refine⟨.bl _,H,I.kept λb o eo=>hk b o (λNp=>?_) (YZ _ eo),?_,q⟩
 . rcases Y0.mp Np with e1|Np
   . exact absurd (e1 ▸ Y8 eo) (aad _)
   cases Np
 show Value.bool _=Value.bool _;rw[<-any_range,hb,Zf,YW]
def y_ (hc:X.calm=true):i5 X (.builtin "all") (Ls X.K):=by
 intro MG s σ H vs us Q I r h;obtain⟨a,bs,rfl,hs,q⟩:=h;obtain⟨MJ,rv,hl,_⟩:=I.list hs;rw[Vals.yG r];have hb:=rv.LB;refine call_all_walk (xj hl.isList λs₂ e2 st MT=>?_);subst e2;refine⟨_,_,_,_,_,_,_,rfl,Walks.list (A:=X.A.in1) (I.ok.hd hc) _ a MT MJ.toArray,st,oS hb,λh' tk hk=>?_⟩;refine⟨.bl _,H,I.kept λb o eo=>hk b o (λNp=>?_) (YZ _ eo),?_,q⟩
 . rcases Y0.mp Np with e1|Np
   . exact absurd (e1 ▸ Y8 eo) (aad _)
   cases Np
 show Value.bool _=Value.bool _;rw[<-all_range,hb,Zf,YW]
end
mutual
inductive Dp (K:abB)(H:Hp):V->PyData->Prop
 |cv:Dp K H .cv .none|bl (b:Bool):Dp K H (.bl b) (.bool b)|int (i:Int):Dp K H (.int i) (.int i)|str (x:Str):Dp K H (.str x) (.str x)|lst {a:Addr} {xs:List V} {ds:List PyData}:aP K H a xs->sS K H xs ds->Dp K H (.ref a) (.list ds)|tup {a:Addr} {xs:List V} {ds:List PyData}:bY K H a xs->sS K H xs ds->Dp K H (.ref a) (.tuple ds)
inductive sS (K:abB)(H:Hp):List V->List PyData->Prop
 |nil:sS K H [] []|cons {v:V} {vs:List V} {d:PyData} {ds:List PyData}:Dp K H v d->sS K H vs ds->sS K H (v::vs) (d::ds)
end
section
variable {X:Cx}{MG:abE}{σ:St}{H:Hp}{s:Shared}
mutual
theorem Dp.reads (I:Inv X MG σ H s):∀(d:PyData) (v:V) (u:Value),Dp X.K H v d->RelV v u->∃as,Reads s.heap u d as
 |.none,_,_,h,r=>by cases h;cases r;exact⟨_,Reads.none⟩|.bool b,_,_,h,r=>by cases h;cases r;exact⟨_,Reads.bool b⟩|.int i,_,_,h,r=>by cases h;obtain⟨t,rfl⟩:=r;exact⟨_,Reads.int i t⟩
 |.str x,_,_,h,r=>by cases h;obtain⟨t,rfl⟩:=r;exact⟨_,Reads.str x t⟩
 |.list ds,_,_,h,r=>by
  cases h with
  |lst hs ha =>cases r;obtain⟨MJ,rv,⟨o,n,ho,hc,_,hd⟩,_⟩:=I.list hs;obtain⟨as,hr⟩:=Dp.readsAll I ds _ MJ ha rv;exact⟨_,Reads.list ho hc hd hr⟩
 |.tuple ds,_,_,h,r=>by
  cases h with
  |tup hs ha =>cases r;obtain⟨MJ,rv,⟨o,ho,hc,n,hd⟩,_⟩:=I.tuple hs;obtain⟨as,hr⟩:=Dp.readsAll I ds _ MJ ha rv;exact⟨_,Reads.tuple ho hc hd hr⟩
 |.dict _,_,_,h,_=>by cases h
theorem Dp.readsAll (I:Inv X MG σ H s):∀(ds:List PyData) (vs:List V) (us:abF),sS X.K H vs ds->Vals vs us->∃as,ReadsAll s.heap us ds as
 |[],_,_,h,r=>by cases h;cases r;exact⟨_,ReadsAll.nil⟩
 |d::ds,_,_,h,r=>by
  cases h with
  |cons h1 h2 =>
   cases r with
   |cons r1 r2 =>obtain⟨as,q1⟩:=Dp.reads I d _ _ h1 r1;obtain⟨bs,q2⟩:=Dp.readsAll I ds _ _ h2 r2;exact⟨_,ReadsAll.cons q1 q2⟩
end
end
section
variable {X:Cx}
def LX (K:abB):R2:=λx y H Q=>∃d e,Dp K H x d/\Dp K H y e/\SeqAt.shaped d=true/\SeqAt.shaped e=true/\Q (.bl (PyData.eqv d e)) H
def Hv (hu:X.A.units+64 < cLine):jT X (compareOp .Eq) (LX X.K):=by intro MG s σ H x y v u Q I rx ry h;obtain⟨d,e,hd,he,sd,se,q⟩:=h;obtain⟨as,r1⟩:=Dp.reads I d x v hd rx;obtain⟨bs,r2⟩:=Dp.reads I e y u he ry;exact SeqAt.compareEq_shaped r1 r2 sd se hu ⟨.bl _,H,I,rfl,q⟩
end
end L2
namespace L2
open PySem PySem.Spec PyProof.Rows
abbrev BJ (h:Heap)(c:Addr)(v:Option Value):Prop:=h.IsCell c v
def L5 (scope sc:Scope):Scope :=
 {scope with names:=scope.names.map λ(n,k)=>if (k==.free&&sc.kind==.function&&sc.names.lookup n==some .cell) then (n,.cell) else (n,k)}
def bN (cells:List (Str×Addr)):List (Str×NameKind)->List (Str×Addr)->List (Str×Addr)
 |[],acc=>acc|(n,k)::r,acc=>if k==.free then bN cells r ((n,(cells.lookup n).getD 0)::acc) else bN cells r acc
theorem m7 (env:Env)(f:Str×NameKind->List (Str×Addr)->Sem (ForInStep (List (Str×Addr))))
  (hf:∀n k c,f (n,k) c=if k==.free then (do let a <-cellOf env n;pure (.yield ((n,a)::c))) else pure (.yield c)) :
  ∀(names:List (Str×NameKind)) (acc:List (Str×Addr)),(∀y∈names,y.2=.free->∃c,env.cells.lookup y.1=some c)->forIn names acc f=pure (bN env.cells names acc)
 |[],acc,_=>by rw[List.forIn_nil];rfl
 |(n,k)::r,acc,h=>by
  rw[List.forIn_cons,hf];have ih:=λacc=>m7 env f hf r acc λy hy=>h y (Zc _ hy);unfold bN;by_cases hk:(k==NameKind.free)=true
  . rw[YY hk,YY hk];obtain⟨c,hc⟩:=h (n,k) ZG (by simpa using hk);have e:cellOf env n=pure c:=by unfold cellOf;rw[hc]
    rw[e];have e2:(env.cells.lookup n).getD 0=c:=by rw[hc];rfl
    rw[e2];exact ih _
  rw[YX hk,YX hk];exact ih _
def xK {scope:Scope}{env:Env}(h:∀y∈scope.names,y.2=.free->∃c,env.cells.lookup y.1=some c):closureFor scope env=pure (bN env.cells scope.names []):=by simp only[closureFor];rw[m7 env _ (λn k c=>rfl) scope.names [] h];rfl
theorem mem_lookup {α:Type}:∀{l:List (Str×α)} {n:Str} {c:α},(n,c)∈l->∃c',l.lookup n=some c'
 |(k,v)::r,n,c,h=>by
  rw[aaH];cases hb:n==k with
  |true=>exact⟨_,rfl⟩
  |false =>
   rcases Y0.mp h with e|h
   . cases e;simp at hb
   exact mem_lookup h
theorem il {cells:List (Str×Addr)}:∀{names:List (Str×NameKind)} {acc:List (Str×Addr)} {n:Str} {c:Addr},(n,c)∈bN cells names acc->(n,c)∈acc\/((n,.free)∈names/\c=(cells.lookup n).getD 0)
 |[],_,_,_,h=>.inl h
 |(m,k)::r,acc,n,c,h=>by
  unfold bN at h;split at h
  . rename_i hk;have hk:k=.free:=by simpa using hk
    rcases il h with h|⟨h1,h2⟩
    . rcases Y0.mp h with e|h
      . cases e;exact .inr ⟨hk ▸ ZG,rfl⟩
      exact .inl h
    exact .inr ⟨Zc _ h1,h2⟩
  rcases il h with h|⟨h1,h2⟩
  . exact .inl h
  exact .inr ⟨Zc _ h1,h2⟩
theorem kq {cells:List (Str×Addr)}:∀{names:List (Str×NameKind)} {acc:List (Str×Addr)} {p:Str×Addr},p∈acc->p∈bN cells names acc
 |[],_,_,h=>h
 |(m,k)::r,acc,p,h=>by
  unfold bN;split
  . exact kq (Zc _ h)
  exact kq h
theorem ku {cells:List (Str×Addr)}:∀{names:List (Str×NameKind)} {acc:List (Str×Addr)} {n:Str},(n,.free)∈names->(n,(cells.lookup n).getD 0)∈bN cells names acc
 |(m,k)::r,acc,n,h=>by
  unfold bN;rcases Y0.mp h with e|h
  . cases e;exact kq ZG
  split
  . exact ku h
  exact ku h
theorem iS:∀{names:List (Str×NameKind)} {h:Heap} {acc:List (Str×Addr)} {x:Str} {c:Addr},(x,c)∈cellsFrom h.objs.size names acc ->
  (x,c)∈acc\/((x,.cell)∈names/\h.objs.size<=c/\BJ (pushCells h names) c none)
 |[],_,_,_,_,h=>.inl h
 |(n,k)::r,h,acc,x,c,hm=>by
  unfold cellsFrom at hm;unfold pushCells;split at hm
  . rename_i hk;rw[YY hk];have hk:k=.cell:=by simpa using hk
    rw[<-Z2 h {cls:=.type "cell",data:=.cell none}] at hm;rcases iS hm with hm|⟨h1,h2,h3⟩
    . rcases Y0.mp hm with e|hm
      . cases e;exact .inr ⟨hk ▸ ZG,Y5 _,_,pushCells_keeps r _ _ _ (Za _ rfl),rfl⟩
      exact .inl hm
    rw[Z2] at h2;exact .inr ⟨Zc _ h1,Nat.le_of_succ_le h2,h3⟩
  rename_i hk;rw[YX hk];rcases iS hm with hm|⟨h1,h2,h3⟩
  . exact .inl hm
  exact .inr ⟨Zc _ h1,h2,h3⟩
theorem k9:∀{names:List (Str×NameKind)} {n:Nat} {acc:List (Str×Addr)} {p:Str×Addr},p∈acc->p∈cellsFrom n names acc
 |[],_,_,_,h=>h
 |(m,k)::r,n,acc,p,h=>by
  unfold cellsFrom;split
  . exact k9 (Zc _ h)
  exact k9 h
theorem n8:∀{names:List (Str×NameKind)} {n:Nat} {acc:List (Str×Addr)} {x:Str},(x,.cell)∈names->∃c,(x,c)∈cellsFrom n names acc
 |(m,k)::r,n,acc,x,h=>by
  unfold cellsFrom;rcases Y0.mp h with e|h
  . cases e;exact⟨n,k9 ZG⟩
  split
  . exact n8 h
  exact n8 h
theorem oy:∀{names:List (Str×NameKind)} {h:Heap} {acc:List (Str×Addr)} {x y:Str} {c:Addr},(∀p∈acc,p.2 < h.objs.size)->(∀x y c,(x,c)∈acc->(y,c)∈acc->x=y) ->
  (x,c)∈cellsFrom h.objs.size names acc->(y,c)∈cellsFrom h.objs.size names acc->x=y
 |[],_,_,_,_,_,_,hi,h1,h2=>hi _ _ _ h1 h2
 |(n,k)::r,h,acc,x,y,c,hl,hi,h1,h2=>by
  unfold cellsFrom at h1 h2;split at h1
  . rename_i hk;rw[YY hk] at h2;rw[<-Z2 h {cls:=.type "cell",data:=.cell none}] at h1 h2;refine oy (h:=h.push _) (λp hp=>?_) (λx y c a b=>?_) h1 h2
    . rw[Z2];rcases Y0.mp hp with rfl|hp
      . exact abg _
      exact Nat.lt_succ_of_lt (hl p hp)
    rcases Y0.mp a with e|a <;> rcases Y0.mp b with e'|b
    . cases e;cases e';rfl
    . cases e;exact absurd (hl _ b) (aad _)
    . cases e';exact absurd (hl _ a) (aad _)
    exact hi _ _ _ a b
  rename_i hk;rw[YX hk] at h2;exact oy hl hi h1 h2
def vZ {M:Model}{A:Around}{E:abC}{s:Shared}{scope:Scope}{globals:Addr}{closure:List (Str×Addr)}{qual:Str}{func:Option Addr}{code:Value}{around:Env}{builtins:Addr}{Q:Env->Shared->Prop}
  (h:Q (newEnv scope s.heap.objs.size globals (cellsFrom (s.heap.objs.size+1) scope.names closure) qual func code (some around) builtins)
   {s with heap:=pushCells (s.heap.push {cls:=.type "dict",data:=.dict #[]}) scope.names}) :
  wpAny M A (newFunctionEnv scope globals closure [] qual func code (some around) builtins) Q E s:=by
 simp only[newFunctionEnv,Option.isSome_some,aaB];refine YV (wpAny_alloc ?_);refine YV (wpAny_layCells _ (λn k c=>rfl) scope.names closure _ _ ?_);rw[show ({s with heap:=s.heap.push {cls:=.type "dict",data:=.dict #[]}}:Shared).heap.objs.size=s.heap.objs.size+1 from Z2 ..];rw[List.forIn_nil];exact YV (Y2 (Y2 h))
theorem j5 {sc:Scope}:∀{names:List (Str×NameKind)} {x:Str} {k:NameKind},
  (names.map λ(n,k)=>if (k==NameKind.free&&sc.kind==.function&&sc.names.lookup n==some .cell) then (n,NameKind.cell) else (n,k)).lookup x=some k ->
  ∃k',names.lookup x=some k'/\(k=k'\/(k'=.free/\k=.cell))
 |[],_,_,h=>by simp at h
 |(n,k₀)::r,x,k,h=>by
  have ih:=@j5 sc r x k;have h':List.lookup x ((if (k₀==NameKind.free&&sc.kind==.function&&sc.names.lookup n==some .cell)=true then (n,NameKind.cell) else (n,k₀))::(r.map _))=some k:=h;cases hx:x==n with
  |true =>
   simp only[aaH,hx];by_cases hc:(k₀==NameKind.free&&sc.kind==.function&&sc.names.lookup n==some .cell)=true
   . rw[YY hc] at h';simp only[aaH,hx] at h';cases h';simp only[Y3,ZK] at hc;exact⟨k₀,rfl,.inr ⟨hc.1.1,rfl⟩⟩
   rw[YX hc] at h';simp only[aaH,hx] at h';cases h';exact⟨_,rfl,.inl rfl⟩
  |false =>
   simp only[aaH,hx];by_cases hc:(k₀==NameKind.free&&sc.kind==.function&&sc.names.lookup n==some .cell)=true
   . rw[YY hc] at h';simp only[aaH,hx] at h';exact ih h'
   rw[YX hc] at h';simp only[aaH,hx] at h';exact ih h'
structure vO (N:List Str)(sc scope:Scope)(own:List (Str×Nat)):Prop where
 kind:scope.kind=.function
 uniq:∀y∈scope.names,scope.names.lookup y.1=some y.2
 ix:∀p∈own,N[p.2]?=some p.1
 free:∀y∈scope.names,y.2=.free->sc.names.lookup y.1=some .cell\/sc.names.lookup y.1=some .free
 own:∀y∈scope.names,y.2=.local\/y.2=.cell->y.1∈own.map (·.1)\/y.1∉N
def wipe (σ:St):abA->St
 |[]=>σ|v::vs=>(wipe σ vs).set v none
theorem ki (σ:St):∀vs:abA,(wipe σ vs).length=σ.length
 |[]=>rfl|v::vs=>by unfold wipe;rw[List.length_set,ki σ vs]
theorem ou {σ:St}{i:Nat}{x:V}:∀{vs:abA},(wipe σ vs)[i]?=some (some x)->σ[i]?=some (some x)/\i∉vs
 |[],h=>⟨h,by simp⟩
 |v::vs,h=>by
  unfold wipe at h;by_cases hi:v=i
  . subst hi;by_cases hv:v < (wipe σ vs).length
    . rw[aa9 hv] at h;cases h
    rw[ZX (by simpa using hv)] at h;cases h
  rw[List.getElem?_set_ne hi] at h;obtain⟨h1,h2⟩:=ou h;exact⟨h1,by simp only[Y0,not_or];exact⟨λe=>hi e.symm,h2⟩⟩
abbrev Cx.r_ (X:Cx)(s:Shared)(H:Hp)(scope:Scope)(MM:Env)(fp:List Addr):Cx:={X with lA:=s,Jz:=H,env:=MM,outer:=X.stack,ex:=fp,fn:=λx=>scope.names.lookup x==some .cell,pn:=[],xe:=λ_ _=>False}
section
variable {X:Cx}{MG:abE}{σ:St}{H:Hp}{s:Shared}
def wJ {scope:Scope} {own:List (Str×Nat)} {fp:List Addr} (I:Inv X MG σ H s) (ok:vO X.N X.env.scope scope own) (hN:X.N.Nodup) (OD:∀b∈fp,nQ X MG H b/\b < s.heap.objs.size) :
  Inv (X.r_ s H scope (compEnvC scope (cellsFrom (s.heap.objs.size+1) scope.names (bN X.env.cells scope.names [])) s.heap.objs.size X.env) fp) [] (wipe σ (own.map (·.2))) H {s with heap:=pushCells (s.heap.push {cls:=.type "dict",data:=.dict #[]}) scope.names}:=by
 have M5:∀y∈scope.names,y.2=.free->∃c,X.env.cells.lookup y.1=some c:=λy hy e=>by
  rcases ok.free y hy e with k|k
  . exact I.ok.has _ (.inl k)
  exact I.ok.has _ (.inr k)
 generalize Ng:compEnvC scope (cellsFrom (s.heap.objs.size+1) scope.names (bN X.env.cells scope.names [])) s.heap.objs.size X.env=MM;have kp:∀b o,s.heap.get? b=some o->(pushCells (s.heap.push {cls:=.type "dict",data:=.dict #[]}) scope.names).get? b=some o:=λb o e=>pushCells_keeps _ _ _ _ (YZ _ e);have hL:MM.locals=s.heap.objs.size:=by rw[<-Ng];rfl
 have O3:MM.cells=cellsFrom (s.heap.objs.size+1) scope.names (bN X.env.cells scope.names []):=by rw[<-Ng];rfl
 have Sq:MM.scope=L5 scope X.env.scope:=by rw[<-Ng];rfl
 rw[<-Z2 s.heap {cls:=.type "dict",data:=.dict #[]}] at O3;have cm:∀{y c},(y,c)∈bN X.env.cells scope.names []->X.env.cells.lookup y=some c/\c < s.heap.objs.size:=λ{y c} hm=>by
  rcases il hm with hm|⟨h1,rfl⟩
  . cases hm
  obtain⟨c,hc⟩:=M5 _ h1 rfl;rw[hc];obtain⟨w,z⟩:=I.cell _ _ hc;exact⟨rfl,z.lt⟩
 have mem:∀{y c},MM.cells.lookup y=some c->(X.env.cells.lookup y=some c/\c < s.heap.objs.size)\/(s.heap.objs.size+1<=c/\BJ (pushCells (s.heap.push {cls:=.type "dict",data:=.dict #[]}) scope.names) c none):=λ{y c} e=>by
  rw[O3] at e;rcases iS (PySem.mem_of_lookup e) with hm|⟨_,h2,h3⟩
  . exact .inl (cm hm)
  rw[Z2] at h2;exact .inr ⟨h2,h3⟩
 have look:∀{y},scope.names.lookup y=some .free->∃c,MM.cells.lookup y=some c/\X.env.cells.lookup y=some c:=λ{y} hl=>by
  have hy:(y,NameKind.free)∈scope.names:=PySem.mem_of_lookup hl;obtain⟨c',e'⟩:=mem_lookup (k9 (names:=scope.names) (n:=(s.heap.push {cls:=.type "dict",data:=.dict #[]}).objs.size) (ku (cells:=X.env.cells) (acc:=[]) hy));rw[<-O3] at e';refine⟨c',e',?_⟩;rw[O3] at e';rcases iS (PySem.mem_of_lookup e') with hm|⟨h1,_,_⟩
  . exact (cm hm).1
  have:=ok.uniq _ h1;rw[hl] at this;cases this
 have WB:(X.r_ s H scope MM fp).Ok:=by
  refine⟨I.ok.mod,by show MM.scope.kind=_;rw[Sq];exact ok.kind,by show MM.globals=_;rw[<-Ng];exact I.ok.glob,by show MM.builtins=_;rw[<-Ng];exact I.ok.blt,by show s.heap.objs.size<=MM.locals;rw[hL];exact Y5 _,
   λy z c e1 e2=>?_,λy hy=>?_,λy c z e=>?_,I.ok.hd,I.ok.frames,.inl rfl,λb hb=>⟨?_,λy c e z=>?_⟩,I.bs,ZH I.ok.D3 I.sz,λb o e hb=>?_,λb hb z=>?_,I.stack,I.uP⟩
  . have e1:MM.cells.lookup y=some c:=e1;have e2:MM.cells.lookup z=some c:=e2;rw[O3] at e1 e2;refine oy (λp hp=>?_) (λy z c a b=>I.ok.inj y z c (cm a).1 (cm b).1) (PySem.mem_of_lookup e1) (PySem.mem_of_lookup e2);rw[Z2];exact Nat.lt_succ_of_lt (cm (y:=p.1) (c:=p.2) hp).2
  . show ∃c,MM.cells.lookup y=some c;have key:∀k,MM.kindOf y=some k->(k=.cell\/k=.free)->∃c,MM.cells.lookup y=some c:=λk hk Sr=>by
     unfold Env.kindOf at hk;rw[Sq] at hk;obtain⟨k',e,r⟩:=j5 hk;have:k'=.cell\/k'=.free:=by
      rcases r with rfl|⟨rfl,_⟩
      . exact Sr
      exact .inr rfl
     rcases this with rfl|rfl
     . obtain⟨c,hm⟩:=n8 (n:=(s.heap.push {cls:=.type "dict",data:=.dict #[]}).objs.size) (acc:=bN X.env.cells scope.names []) (PySem.mem_of_lookup e);obtain⟨c',e'⟩:=mem_lookup hm;exact⟨c',by rw[O3];exact e'⟩
     obtain⟨c,h1,_⟩:=look e;exact⟨c,h1⟩
    rcases hy with hy|hy
    . exact key _ hy (.inl rfl)
    exact key _ hy (.inr rfl)
  . have z:(scope.names.lookup y==some NameKind.cell)=true:=z;have z:scope.names.lookup y=some .cell:=by simpa using z
    have e:MM.cells.lookup y=some c:=e;rw[O3] at e;rcases iS (PySem.mem_of_lookup e) with hm|⟨_,h2,_⟩
    . rcases il hm with hm|⟨h1,_⟩
      . cases hm
      have q:=ok.uniq _ h1;rw[z] at q;cases q
    rw[Z2] at h2;exact Nat.le_of_succ_le h2
  . show b≠MM.locals;rw[hL];exact Zv (OD b hb).2
  . have e:MM.cells.lookup y=some c:=e;rcases mem e with ⟨h1,_⟩|⟨h1,_⟩
    . exact (OD b hb).1.2.2.2.2.1 y c h1 z
    have h2:s.heap.objs.size+1<=b:=by rw[<-z];exact h1
    exact absurd (Zz (OD b hb).2 (Nat.le_of_succ_le h2)) (aad _)
  . rcases (OD b hb).1.2.2.2.1 with z|z
    . exact I.ok.Bp b o e z
    exact absurd (Zz (Y8 e) (ZH I.ok.D3 z)) (aad _)
  rcases Y0.mp (I.yE b z) with z|z
  . exact (OD b hb).1.2.1 z
  exact (OD b hb).1.2.2.1 z
 refine⟨WB,rfl,I.bare,Un.kept kp,⟨λ_=>none,?_,λi y av e1 e2 e3=>?_⟩,λy c e=>?_,?_,λy c e=>?_,λp hp=>?_,I.bw.kept kp,by rw[ki];exact I.len⟩
 . show Heap.Ns _ MM.locals _;rw[hL];exact Heap.Ns.keeps (Heap.Ns.new ..) λb o e=>pushCells_keeps _ _ _ _ e
 . obtain⟨e2,MT⟩:=ou e2;have Q6:scope.names.lookup y=some .free/\(MM.kindOf y=some .cell\/MM.kindOf y=some .free):=by
    have key:∀k,MM.scope.names.lookup y=some k->k=.local\/k=.cell\/k=.free->scope.names.lookup y=some .free/\(MM.kindOf y=some .cell\/MM.kindOf y=some .free):=λk hk Sr=>by
     have PY:=hk;rw[Sq] at hk;obtain⟨k',e,r⟩:=j5 hk;have no:¬(k'=.local\/k'=.cell):=λhh=>by
      rcases ok.own _ (PySem.mem_of_lookup e) hh with e'|e'
      . obtain⟨p,hp,WC⟩:=Zr.mp e';have e3:=ok.ix p hp;have:p.1=y:=WC;rw[this] at e3;exact MT (Zr.mpr ⟨p,hp,qk hN e3 e1⟩)
      exact e' (Zm e1)
     rcases r with rfl|⟨rfl,rfl⟩
     . rcases Sr with rfl|rfl|rfl
       . exact absurd (.inl rfl) no
       . exact absurd (.inr rfl) no
       exact⟨e,.inr PY⟩
     exact⟨e,.inl PY⟩
    have e3:Jx MM.scope y:=e3;rcases e3 with e3|e3|e3
    . exact key _ e3 (.inl rfl)
    . exact key _ e3 (.inr (.inl rfl))
    exact key _ e3 (.inr (.inr rfl))
   obtain⟨m,hn,hl⟩:=I.loc;have Ss:Jx X.env.scope y:=(ok.free _ (PySem.mem_of_lookup Q6.1) rfl).elim (λk=>.inr (.inl k)) (λk=>.inr (.inr k));obtain⟨w,r,q⟩:=hl i y av e1 e2 Ss;refine⟨w,r,.inr ⟨Q6.2,?_⟩⟩;obtain⟨c,h1,h2⟩:=look Q6.1;rcases q with ⟨k,_⟩|⟨_,c',e',z⟩
   . have k:X.env.scope.names.lookup y=some .local:=k;rcases ok.free _ (PySem.mem_of_lookup Q6.1) rfl with k'|k' <;> rw[show X.env.scope.names.lookup y=_ from k'] at k <;> cases k
   rw[h2] at e';cases e';exact⟨c,h1,z.keeps kp⟩
 . have e:MM.cells.lookup y=some c:=e;rcases mem e with ⟨h1,_⟩|⟨_,z⟩
   . obtain⟨w,z⟩:=I.cell y c h1;exact⟨w,z.keeps kp⟩
   exact⟨_,z⟩
 . show H MM.locals=none;rw[hL];exact I.bw.fresh (Y5 _)
 . have e:MM.cells.lookup y=some c:=e;rcases mem e with ⟨h1,_⟩|⟨h1,_⟩
   . exact I.h_ y c h1
   exact I.bw.fresh (Nat.le_of_succ_le h1)
 exact absurd (show p∈([]:abE)++[] from hp) (by simp)
def IZ {E:abC}{D:Addr}{xs:List V}{y:V}{v:Value}{Q:abC}(I:Inv X MG σ H s)(hD:H D=some (.lst xs))(hz:xs.length < sizeLine)(r:RelV y v)
  (h:∀s',Inv X MG σ (upd H D (.lst (xs++[y]))) s'->Q .none s'):wpAny (model X.prog X.w) X.A (call (.builtin "list.append") [.ref D,v]) Q E s:=by
 obtain⟨hz',MJ,n,ri,e⟩:=I.bw D _ hD;have hl:=ri.length;refine append_at (hsz:=by rw[Zf];omega) e λh' sb M3=>?_;refine h {s with heap:=h'} (I.write (t':=s.toks) (by rw[hD];trivial) (.inl rfl) (λb u hb q=>(sb.2 b hb).trans q) ⟨_,M3⟩ ⟨by rw[Zg];exact hz,MJ++[v],n+1,ri.append (.cons r .nil),?_⟩);rw[M3];simp
def Kh (X:Cx)(ifs:List Expr)(t:TT):Prop :=
 ∀(MG:abE) (s:Shared) (σ:St) (H:Hp) (Q:Bool->Hp->Prop),Inv X MG σ H s->t σ H Q ->
  wpAny (model X.prog X.w) X.A (forIn ifs true λc r=>if r=true then do let ok <-isTrue c X.env (eval c X.env);pure (ForInStep.yield ok) else pure (ForInStep.yield r)) (TP X MG σ Q) X.xe s
def BQ:TT:=λ_ H Q=>Q true H
def cC:Kh X [] BQ:=λ_ _ _ H _ I h=>wpAny_tests_nil ⟨H,I,h⟩
def pb {c:Expr}{t:TT}(h:PT X c t):Kh X [c] t:=λMG s σ H Q I hw=>wpAny_tests_one (h MG s σ H Q I hw)
end
def Be {α:Type}{t:Sem α}{Q Q':α->Shared->Prop}{M:Model}{A:Around}{E:abC}{s:Shared}(h:wpAny M A t Q (λ_ _=>False) s)(hQ:∀a s,Q a s->Q' a s):wpAny M A t Q' E s:=aaa h hQ λ_ _ z=>False.elim z
def vC {prog:Program}{w:World}{A:Around}{R:Result->Shared->Prop}{s:Shared}{elt target iter:Expr}{ifs:List Expr}{scope:Scope}{pos:Pos}{it acc:Value}{env:Env}(I:Nat->Shared->Prop)
  (turn:∀n s,I n s->wpAny (model prog w) A (pyNext it) (λr s₁=>match r with
   |none=>R (.ok .next) s₁
   |some v=>wpAny (model prog w) A (letOwnedTupleGo target it v) (λ_ s₁'=>wpAny (model prog w) A (assign target env v) (λ_ s₂ =>
     wpAny (model prog w) A (forIn ifs true λc r=>if r=true then do let ok <-isTrue c env (eval c env);pure (ForInStep.yield ok) else pure (ForInStep.yield r)) (λok s₃ =>
      if ok=true then wpAny (model prog w) A (eval elt env) (λx s₄ =>wpAny (model prog w) A (call (.builtin "list.append") [acc,x]) (λ_ s₅=>∃m,m < n/\I m s₅) (notedBy (model prog w) A env λe s'=>R (.error e) s') s₄) (notedBy (model prog w) A env λe s'=>R (.error e) s') s₃
      else ∃m,m < n/\I m s₃) (notedBy (model prog w) A env λe s'=>R (.error e) s') s₂) (notedBy (model prog w) A env λe s'=>R (.error e) s') s₁') (notedBy (model prog w) A env λe s'=>R (.error e) s') s₁) (notedBy (model prog w) A env λe s'=>R (.error e) s') s)
  (n:Nat) (h:I n s) :
  codeAny (model prog w) A (.compLoop (.ListComp elt [⟨target,iter,ifs,0⟩] scope pos) 0 it acc env) R s:=by
 refine codeAny_loop rfl I (λn s hI=>?_) n h;show wpAny _ A ((compTurn (.ListComp elt [⟨target,iter,ifs,0⟩] scope pos) 0 it acc env).onRaise (λx=>do noteFrame x env;theTreesLotGoes x)) _ _ s;refine wpAny_noted ?_;rw[compTurn_list];refine YV (wpAny_standAt (YV (aaa (turn n s hI) (λr s₁ h₁=>?_) λ_ _ h'=>h')));cases r with
 |none=>exact Y2 h₁
 |some v =>
  refine YV (aaa h₁ (λ_ s₁' h₁'=>?_) λ_ _ h'=>h');refine YV (aaa h₁' (λ_ s₂ h₂=>YV (aaa h₂ (λok s₃ h₃=>?_) λ_ _ h'=>h')) λ_ _ h'=>h');cases ok with
  |false=>exact Y2 ⟨rfl,h₃⟩|true =>exact YV (YV (aaa h₃ (λx s₄ h₄=>YV (aaa h₄ (λ_ s₅ h₅=>Y2 (Y2 ⟨rfl,h₅⟩)) λ_ _ h'=>h')) λ_ _ h'=>h'))
section
variable {X:Cx}
def HL (wi:TI) (g:TG) (tt:TT) (te:TE) (vs:abA):TE:=λσ H Q=>wi σ H λJ H1=>∀D,H1 D=none->∃W:Nat->Nat->Hp->Prop,(∃m,W 0 m (upd H1 D (.lst [])))/\∀i m H,W i m H ->
 (J.stop i H/\Q (.ref D) H)\/(J.go i H/\∃Nx:Hp->Prop,(∀H',Nx H'->∃m',m' < m/\W (i+1) m' H')/\∀x H',J.xn i H x H'->g x (wipe σ vs) H' λσ2 H2=>wipe σ2 vs=wipe σ vs/\tt σ2 H2 λb H3 =>if b=true then te σ2 H3 λy H4=>∃acc,H4 D=some (.lst acc)/\acc.length < sizeLine/\Nx (upd H4 D (.lst (acc++[y]))) else Nx H3)
def zC {MG:abE}{s:Shared}{σ:St}{H:Hp}{Q:VK}{elt tg iter:Expr}{ifs:List Expr}{scope:Scope}{own:List (Str×Nat)}{pos pos':Pos}{wi:TI}{g:TG}{tt:TT}{te:TE}{use:Option (Value->Sem Unit)}{Qf:abC}
  (hc:X.calm=true)(hN:X.N.Nodup)(I:Inv X MG σ H s)(hi:PI X tg iter wi)(ok:vO X.N X.env.scope scope own)
  (hg:∀(s:Shared) (H:Hp) (C:Addr) (cl:List (Str×Addr)) (fp:List Addr),PG (X.r_ s H scope (compEnvC scope cl C X.env) fp) tg g)(ht:∀(s:Shared) (H:Hp) (C:Addr) (cl:List (Str×Addr)) (fp:List Addr),Kh (X.r_ s H scope (compEnvC scope cl C X.env) fp) ifs tt)
  (he:∀(s:Shared) (H:Hp) (C:Addr) (cl:List (Str×Addr)) (fp:List Addr),PE (X.r_ s H scope (compEnvC scope cl C X.env) fp) elt te)(hs:∀x,foldedSetIterable iter X.env x=pure x)
  (h:HL wi g tt te (own.map (·.2)) σ H Q)
  (WD:∀D C s' m H',Inv X MG σ H' s'->Q (.ref D) H'->s'.heap.Ns C m->nQ X MG H' C->compPost (model X.prog X.w) X.A X.xe use Qf (.ref D) C (.ok .next) s') :
  wpAny (model X.prog X.w) X.A (comprehension (.ListComp elt [⟨tg,iter,ifs,0⟩] scope pos) scope X.env pos' (newList []) false (eval iter X.env) use) Qf X.xe s:=by
 have M5:∀y∈scope.names,y.2=.free->∃c,X.env.cells.lookup y.1=some c:=λy hy e=>by
  rcases ok.free y hy e with k|k
  . exact I.ok.has _ (.inl k)
  exact I.ok.has _ (.inr k)
 refine wpAny_comprehension_free (use:=use) rfl hs (xK M5) ok.kind (λy hy e=>by rw[ok.uniq y hy,e])
  (bE (hi MG s σ H _ I h) λxv s1 hx=>bE hx λQ1 s2 h2=>?_)
 obtain⟨it,fp,tn,J,H2,e,I2,T,Pk,f2,q⟩:=h2;subst e;refine aak (vZ ?_) (by show 0<=sizeLine;decide);generalize hD:s2.heap.objs.size=D;have WE:H2 D=none:=I2.bw.fresh (abt hD);obtain⟨W,⟨m0,w0⟩,turn⟩:=q D WE;generalize Uu:({s2 with heap:=s2.heap.push {cls:=.type "list",data:=.seq ([]:abF).toArray}}:Shared)=s3;have I3:Inv X MG σ (upd H2 D (.lst [])) s3:=by rw[<-Uu];refine I2.laid (t':=s2.toks) (λb o e=>YZ _ e) (abt hD) ⟨Zo _,[],0,.nil,?_⟩;rw[<-hD];exact Za _ rfl
 have h3:s3.heap=s2.heap.push {cls:=.type "list",data:=.seq ([]:abF).toArray}:=by rw[<-Uu]
 have sz:∀b∈fp,b < s2.heap.objs.size:=λb hb=>by obtain⟨o,e,_⟩:=T.obj _ _ Pk b hb;exact Y8 e
 have f3:∀b∈fp,nQ X MG (upd H2 D (.lst [])) b/\b < s3.heap.objs.size:=λb hb=>by have MN:=sz b hb;refine⟨⟨?_,(f2 b hb).2⟩,by rw[h3,Z2];exact Nat.lt_succ_of_lt MN⟩;rw[aq (by rw[<-hD];exact Zv MN)];exact (f2 b hb).1
 have OX:tn 0 s3.heap:=T.keep _ _ _ Pk λb _ o e=>by rw[h3];exact YZ _ e
 have I4:=wJ I3 ok hN f3;have pg:=hg s3 (upd H2 D (.lst [])) s3.heap.objs.size (cellsFrom (s3.heap.objs.size+1) scope.names (bN X.env.cells scope.names [])) fp;have pt:=ht s3 (upd H2 D (.lst [])) s3.heap.objs.size (cellsFrom (s3.heap.objs.size+1) scope.names (bN X.env.cells scope.names [])) fp;have pe:=he s3 (upd H2 D (.lst [])) s3.heap.objs.size (cellsFrom (s3.heap.objs.size+1) scope.names (bN X.env.cells scope.names [])) fp;show codeAny _ _ (.compStart (.ListComp elt [⟨tg,iter,ifs,0⟩] scope pos) 0 (.ref it) (.ref D) (compEnvC scope (cellsFrom (s3.heap.objs.size+1) scope.names (bN X.env.cells scope.names [])) s3.heap.objs.size X.env)) (compPost (model X.prog X.w) X.A X.xe use Qf (.ref D) s3.heap.objs.size) {s3 with heap:=pushCells (s3.heap.push {cls:=.type "dict",data:=.dict #[]}) scope.names};have P7:∀b∈fp,(upd H2 D (.lst [])) b=none:=λb hb=>(f3 b hb).1.1;generalize WG:compEnvC scope (cellsFrom (s3.heap.objs.size+1) scope.names (bN X.env.cells scope.names [])) s3.heap.objs.size X.env=ce at I4 pg pt pe ⊢;have cL:ce.locals=s3.heap.objs.size:=by subst WG;rfl
 generalize hH3:upd H2 D (.lst [])=H3 at I3 I4 pg pt pe w0 P7 f3;generalize WH:({s3 with heap:=pushCells (s3.heap.push {cls:=.type "dict",data:=.dict #[]}) scope.names}:Shared)=s4 at I4 ⊢;have Uv:tn 0 s4.heap:=T.keep _ _ _ OX λb _ o e=>by rw[<-WH];exact pushCells_keeps _ _ _ _ (YZ _ e)
 have M0:∀{σ':St} {H':Hp} {s':Shared},Inv (X.r_ s3 H3 scope ce fp) [] σ' H' s'->(∀b∈fp,H' b=none)->∀b∈fp,nQ (X.r_ s3 H3 scope ce fp) [] H' b:=λ{σ' H' s'} I' hn b hb =>⟨hn b hb,(I'.ok.JV b hb).1,I'.ok.Ba b hb,.inl hb,λx c e=>(I'.ok.JV b hb).2 x c e,λp hp=>absurd (show p∈([]:abE)++[] from hp) (by simp)⟩
 have loop:codeAny (model X.prog X.w) X.A (.compLoop (.ListComp elt [⟨tg,iter,ifs,0⟩] scope pos) 0 (.ref it) (.ref D) ce) (compPost (model X.prog X.w) X.A X.xe use Qf (.ref D) s3.heap.objs.size) s4:=by
  refine vC (λn s'=>∃i H',Inv (X.r_ s3 H3 scope ce fp) [] (wipe σ (own.map (·.2))) H' s'/\tn i s'.heap/\(∀b∈fp,H' b=none)/\W i n H') ?_ m0 ⟨0,H3,I4,Uv,P7,w0⟩;rintro n s5 ⟨i,H5,I5,N2,n5,w5⟩;rcases turn i n H5 w5 with ⟨stop,qq⟩|⟨go,Nx,WI,step⟩
  . have td:=T.done (X.r_ s3 H3 scope ce fp) rfl rfl rfl hc i [] s5 _ H5 (λ_ _=>False) I5 (M0 I5 n5) N2 stop;refine Be td λr s6 ⟨hr,I6⟩=>?_;subst hr;have I7:Inv X MG σ H5 s6:=I3.G6 (ch:=fp) I6.os I6.MH I6.bw I6.bare λb hb=>⟨(f3 b hb).1.2.2.2.1,(f3 b hb).1.2.1,(f3 b hb).1.2.2.2.2.1,(f3 b hb).1.2.2.2.2.2⟩;have nC:H5 s3.heap.objs.size=none:=by
     have z:H5 ce.locals=none:=I6.free;rw[cL] at z;exact z
    obtain⟨m,hn,_⟩:=I6.loc;have hn:s6.heap.Ns ce.locals m:=hn;rw[cL] at hn;exact WD D s3.heap.objs.size s6 m H5 I7 qq hn (I3.yu (Y5 _) nC)
  have ti:=T.item (X.r_ s3 H3 scope ce fp) rfl rfl rfl hc i [] s5 _ H5 (λ_ _=>False) I5 (M0 I5 n5) N2 go;refine Be ti λr s6 ⟨u,hr,h6⟩=>?_;subst hr;refine Be h6 λ_ s7 ⟨x,H7,I7,r7,y7,Su,n7⟩=>?_;have WJ:=I7.pinned (M0 I7 n7) (T.obj _ _ Su);refine Be (pg _ s7 _ H7 x u _ WJ r7 (step x H7 y7)) λ_ s8 ⟨σ8,H8,I8,Uw,q8⟩=>?_;refine Be (pt _ s8 σ8 H8 _ I8 q8) λb s9 ⟨H9,I9,q9⟩=>?_;have fin:∀{s':Shared} {H':Hp},Inv (X.r_ s3 H3 scope ce fp) ([]++oq fp s7.heap) σ8 H' s'->Nx H'->∃m,m < n/\∃i H',Inv (X.r_ s3 H3 scope ce fp) [] (wipe σ (own.map (·.2))) H' s'/\tn i s'.heap/\(∀b∈fp,H' b=none)/\W i m H':=λ{s' H'} I' nx=>by
   obtain⟨m',hm,w'⟩:=WI H' nx;have P8:∀b∈fp,∀o,s7.heap.get? b=some o->s'.heap.get? b=some o/\H' b=none:=λb hb o e =>
    let z:=I'.pin (b,o) (ZS _ (ZS _ (g_ hb e)))
    ⟨z.1,z.2.1⟩
   have hl:(wipe σ (own.map (·.2))).length=σ8.length:=by rw[<-Uw,ki]
   refine⟨m',hm,i+1,H',(I'.iW (MG:=[])).weak hl (λj v e=>?_),T.keep _ _ _ Su λb hb o e=>(P8 b hb o e).1,λb hb=>?_,w'⟩
   . rw[<-Uw] at e;exact (ou e).1
   obtain⟨o,e,_⟩:=T.obj _ _ Su b hb;exact (P8 b hb o e).2
  cases b with
  |false =>simp only[aai,aaQ] at q9 ⊢;exact fin I9 q9|true =>simp only[aaB] at q9 ⊢;refine Be (pe _ s9 σ8 H9 _ I9 q9) λz s10 ⟨yv,H10,WK,WL,acc,Sv,Sw,nx⟩=>?_;exact IZ (X:=X.r_ s3 H3 scope ce fp) WK Sv Sw WL λs11 WM=>fin WM nx
 exact codeAny_compStart_list loop (T.self X.A 0 _ _ _ Uv loop)
def fX {elt tg iter:Expr}{ifs:List Expr}{scope:Scope}{own:List (Str×Nat)}{pos:Pos}{wi:TI}{g:TG}{tt:TT}{te:TE}(hc:X.calm=true)(hN:X.N.Nodup)(hi:PI X tg iter wi)(ok:vO X.N X.env.scope scope own)
  (hg:∀(s:Shared) (H:Hp) (C:Addr) (cl:List (Str×Addr)) (fp:List Addr),PG (X.r_ s H scope (compEnvC scope cl C X.env) fp) tg g)(ht:∀(s:Shared) (H:Hp) (C:Addr) (cl:List (Str×Addr)) (fp:List Addr),Kh (X.r_ s H scope (compEnvC scope cl C X.env) fp) ifs tt)
  (he:∀(s:Shared) (H:Hp) (C:Addr) (cl:List (Str×Addr)) (fp:List Addr),PE (X.r_ s H scope (compEnvC scope cl C X.env) fp) elt te)(hs:∀x,foldedSetIterable iter X.env x=pure x:=by intro _;rfl) :
  PE X (.ListComp elt [⟨tg,iter,ifs,0⟩] scope pos) (HL wi g tt te (own.map (·.2))):=by
 intro MG s σ H Q I h;rw[eval_ListComp];refine zC hc hN I hi ok hg ht he hs h λD C s' m H' I' q hn f=>⟨m,hn,λOE sb=>?_⟩;obtain⟨f0,f1,f2,f3,f4,f5⟩:=f;exact⟨.ref D,H',I'.turned (t':=s'.toks) (λb o hb e=>(sb.2 b hb).trans e) f0 f1 f3 f4 f5,rfl,q⟩
def qg {i:Nat}{y:Str}{py:Pos}{elt tg iter:Expr}{ifs:List Expr}{scope:Scope}{own:List (Str×Nat)}{pos P9:Pos}{wi:TI}{g:TG}{tt:TT}{te:TE}(hc:X.calm=true)(hN:X.N.Nodup)(hy:X.N[i]?=some y)(Ux:X.env.scope.names.lookup y=some .local)
  (WN:swapsWith (.ListComp elt [⟨tg,iter,ifs,0⟩] scope pos) (some (.Name y py)) P9.line X.env=pure true)(hi:PI X tg iter wi)(ok:vO X.N X.env.scope scope own)
  (hg:∀(s:Shared) (H:Hp) (C:Addr) (cl:List (Str×Addr)) (fp:List Addr),PG (X.r_ s H scope (compEnvC scope cl C X.env) fp) tg g)(ht:∀(s:Shared) (H:Hp) (C:Addr) (cl:List (Str×Addr)) (fp:List Addr),Kh (X.r_ s H scope (compEnvC scope cl C X.env) fp) ifs tt)
  (he:∀(s:Shared) (H:Hp) (C:Addr) (cl:List (Str×Addr)) (fp:List Addr),PE (X.r_ s H scope (compEnvC scope cl C X.env) fp) elt te)(hs:∀x,foldedSetIterable iter X.env x=pure x:=by intro _;rfl) :
  PS X (.Assign [.Name y py] (.ListComp elt [⟨tg,iter,ifs,0⟩] scope pos) P9) (xi (HL wi g tt te (own.map (·.2))) (f7 i)):=by
 intro MG s σ H D I h;rw[exec_Assign_Name_used _ _ _ _ WN];refine YV (wpAny_standAt (YV ?_));show wpAny _ X.A (do let _ <-comprehension (.ListComp elt [⟨tg,iter,ifs,0⟩] scope pos) scope X.env (firstIterPos [⟨tg,iter,ifs,0⟩] pos) (newList []) false (eval iter X.env) (some (assign (.Name y py) X.env))) _ _ s;have h:HL wi g tt te (own.map (·.2)) σ H (λx H1=>f7 i x σ H1 D.nx):=h;refine YV (bE (zC (Qf:=λ_ s'=>SP X MG D .next s') hc hN I hi ok hg ht he hs h λL C s' m H' I' q hn f=>?_) λ_ s' hq=>Y2 (Y2 hq));show wpAny _ _ (assign (.Name y py) X.env (.ref L)) _ _ _;refine wpAny_assign_Name (sP (v:=V.ref L) I' hN hy (.inl Ux) rfl (λs2 I2 ⟨a,sb,ha⟩=>?_) (.inr Ux));obtain⟨f0,f1,f2,f3,f4,f5⟩:=f;have WO:C≠a:=by
  rcases ha with z|z
  . rw[z];exact f1
  exact λe=>f4 y a z e.symm
 refine⟨m,hn.sameBut sb WO,λh3 WQ=>?_⟩;exact⟨_,H',I2.turned (t':=s2.toks) (λb o hb e=>(WQ.2 b hb).trans e) f0 f1 f3 f4 f5,q⟩
def va {elt:Expr}{gs:List Comprehension}{scope:Scope}{pos py:Pos}{y:Str}{l:Nat}{env:Env}(hk:env.scope.kind=.function)(hy:env.scope.names.lookup y=some .local)(hl:(py.line==pos.line)=true)
  (ha:(scope.names.any λ(n,k)=>n==y&&(k==.local||k==.cell))=false):swapsWith (.ListComp elt gs scope pos) (some (.Name y py)) l env=pure true:=by
 have ky:env.kindOf y=some .local:=hy;have hb:env.blockKind=.function:=by unfold Env.blockKind;rw[hk];rfl
 unfold swapsWith;simp only[hb,ky,ha,Expr.pos,hl];rfl
end
def nv {lo:Int}{n:Nat}{g:TG}{tt:TT}{te:TE}{vs:abA}{σ:St}{H1:Hp}{D:Addr}{Qd:Hp->Prop}(Pv:Nat->Hp->Prop)(h0:Pv 0 (upd H1 D (.lst [])))
  (hs:∀i H,i < n->Pv i H->g (.int (lo+i)) (wipe σ vs) H λσ2 H2=>wipe σ2 vs=wipe σ vs/\tt σ2 H2 λb H3 =>if b=true then te σ2 H3 λy H4=>∃acc,H4 D=some (.lst acc)/\acc.length < sizeLine/\Pv (i+1) (upd H4 D (.lst (acc++[y]))) else Pv (i+1) H3) (hd:∀H,Pv n H->Qd H) :
  ∃W:Nat->Nat->Hp->Prop,(∃m,W 0 m (upd H1 D (.lst [])))/\∀i m H,W i m H ->
   ((Bx lo n).stop i H/\Qd H)\/((Bx lo n).go i H/\∃Nx:Hp->Prop,(∀H',Nx H'->∃m',m' < m/\W (i+1) m' H')/\∀x H',(Bx lo n).xn i H x H'->g x (wipe σ vs) H' λσ2 H2=>wipe σ2 vs=wipe σ vs/\tt σ2 H2 λb H3 =>if b=true then te σ2 H3 λy H4=>∃acc,H4 D=some (.lst acc)/\acc.length < sizeLine/\Nx (upd H4 D (.lst (acc++[y]))) else Nx H3):=by
 refine⟨λi m H=>m=n - i/\i<=n/\Pv i H,⟨n,by simp,Zo _,h0⟩,?_⟩;rintro i m H ⟨rfl,hi,p⟩;by_cases MN:i < n
 . refine .inr ⟨MN,Pv (i+1),λH' p'=>⟨n - (i+1),by omega,rfl,MN,p'⟩,λx H' y=>?_⟩;obtain⟨e,y⟩:=y;subst e y;exact hs i _ MN p
 have e:i=n:=by omega
 subst e;exact .inl ⟨Y5 _,hd H p⟩
def jG {K:abB}{a:Addr}{xs:List V}{g:TG}{tt:TT}{te:TE}{vs:abA}{σ:St}{H1:Hp}{D:Addr}{Qd:Hp->Prop}(Pv:Nat->Hp->Prop)(h0:Pv 0 (upd H1 D (.lst [])))(hl:∀i H,i<=xs.length->Pv i H->aP K H a xs)
  (hs:∀i x H,xs[i]?=some x->Pv i H->g x (wipe σ vs) H λσ2 H2=>wipe σ2 vs=wipe σ vs/\tt σ2 H2 λb H3 =>if b=true then te σ2 H3 λy H4=>∃acc,H4 D=some (.lst acc)/\acc.length < sizeLine/\Pv (i+1) (upd H4 D (.lst (acc++[y]))) else Pv (i+1) H3) (hd:∀H,Pv xs.length H->Qd H) :
  ∃W:Nat->Nat->Hp->Prop,(∃m,W 0 m (upd H1 D (.lst [])))/\∀i m H,W i m H ->
   ((Dq K a).stop i H/\Qd H)\/((Dq K a).go i H/\∃Nx:Hp->Prop,(∀H',Nx H'->∃m',m' < m/\W (i+1) m' H')/\∀x H',(Dq K a).xn i H x H'->g x (wipe σ vs) H' λσ2 H2=>wipe σ2 vs=wipe σ vs/\tt σ2 H2 λb H3 =>if b=true then te σ2 H3 λy H4=>∃acc,H4 D=some (.lst acc)/\acc.length < sizeLine/\Nx (upd H4 D (.lst (acc++[y]))) else Nx H3):=by
 refine⟨λi m H=>m=xs.length - i/\i<=xs.length/\Pv i H,⟨xs.length,by simp,Zo _,h0⟩,?_⟩;rintro i m H ⟨rfl,hi,p⟩;have q:=hl i H hi p;by_cases MN:i < xs.length
 . refine .inr ⟨⟨xs,xs[i],q,by simp[MN]⟩,Pv (i+1),λH' p'=>⟨xs.length - (i+1),by omega,rfl,MN,p'⟩,λx H' y=>?_⟩;obtain⟨e,y⟩:=y;subst e;exact hs i x _ (y xs q) p
 have e:i=xs.length:=by omega
 subst e;exact .inl ⟨⟨xs,q,Y5 _⟩,hd H p⟩
def Jg {K:abB}{a:Addr}{xs:List V}{g:TG}{tt:TT}{te:TE}{vs:abA}{σ:St}{H1:Hp}{D:Addr}{Qd:Hp->Prop}(Pv:Nat->Hp->Prop)(h0:Pv 0 (upd H1 D (.lst [])))(hl:∀i H,i<=xs.length->Pv i H->bY K H a xs)
  (hs:∀i x H,xs[i]?=some x->Pv i H->g x (wipe σ vs) H λσ2 H2=>wipe σ2 vs=wipe σ vs/\tt σ2 H2 λb H3 =>if b=true then te σ2 H3 λy H4=>∃acc,H4 D=some (.lst acc)/\acc.length < sizeLine/\Pv (i+1) (upd H4 D (.lst (acc++[y]))) else Pv (i+1) H3) (hd:∀H,Pv xs.length H->Qd H) :
  ∃W:Nat->Nat->Hp->Prop,(∃m,W 0 m (upd H1 D (.lst [])))/\∀i m H,W i m H ->
   ((KO K a).stop i H/\Qd H)\/((KO K a).go i H/\∃Nx:Hp->Prop,(∀H',Nx H'->∃m',m' < m/\W (i+1) m' H')/\∀x H',(KO K a).xn i H x H'->g x (wipe σ vs) H' λσ2 H2=>wipe σ2 vs=wipe σ vs/\tt σ2 H2 λb H3 =>if b=true then te σ2 H3 λy H4=>∃acc,H4 D=some (.lst acc)/\acc.length < sizeLine/\Nx (upd H4 D (.lst (acc++[y]))) else Nx H3):=by
 refine⟨λi m H=>m=xs.length - i/\i<=xs.length/\Pv i H,⟨xs.length,by simp,Zo _,h0⟩,?_⟩;rintro i m H ⟨rfl,hi,p⟩;have q:=hl i H hi p;by_cases MN:i < xs.length
 . refine .inr ⟨⟨xs,xs[i],q,by simp[MN]⟩,Pv (i+1),λH' p'=>⟨xs.length - (i+1),by omega,rfl,MN,p'⟩,λx H' y=>?_⟩;obtain⟨e,y⟩:=y;subst e;exact hs i x _ (y xs q) p
 have e:i=xs.length:=by omega
 subst e;exact .inl ⟨⟨xs,q,Y5 _⟩,hd H p⟩
def KL (N:List Str)(sc scope:Scope)(own:List (Str×Nat)):Bool :=
 (match scope.kind with|.function=>true|_=>false)&&(scope.names.all λy=>decide (scope.names.lookup y.1=some y.2))&&(own.all λp=>decide (N[p.2]?=some p.1)) &&
  (scope.names.all λy=>match y.2 with
   |.free=>(match sc.names.lookup y.1 with|some .cell=>true|some .free=>true|_=>false)
   |.local=>decide (y.1∈own.map (·.1))||decide (y.1∉N)|.cell=>decide (y.1∈own.map (·.1))||decide (y.1∉N)|_=>true)
def bC {N:List Str}{sc scope:Scope}{own:List (Str×Nat)}(h:KL N sc scope own=true):vO N sc scope own:=by
 unfold KL at h;simp only[Y3,Zn,Y4] at h;obtain⟨⟨⟨h1,h2⟩,h3⟩,h4⟩:=h;refine⟨?_,h2,h3,λy hy e=>?_,λy hy e=>?_⟩
 . split at h1
   . assumption
   cases h1
 . have q:=h4 y hy;simp only[e] at q;split at q <;> first|exact .inl (by assumption)|exact .inr (by assumption)|cases q
 have q:=h4 y hy;rcases e with e|e <;> (simp only[e,ZU,Y4] at q;exact q)
section
variable {prog:Program}{w:World}{A:Around}{R:Result->Shared->Prop}{s:Shared}{elt t0 i0 t1 i1:Expr}{ifs0 ifs1:List Expr}{scope:Scope}{pos:Pos}{it acc:Value}{env:Env}
end
section
variable {X:Cx}
end
section
variable {κ:Type} [DecidableEq κ]
def c_ (MI:List (κ×V)) (k:κ):Option V:=(MI.find? λkv=>decide (kv.1=k)).map (·.2)
def putK (MI:List (κ×V))(k:κ)(v:V):List (κ×V) :=
 if (MI.any λkv=>decide (kv.1=k))=true then MI.map (λkv=>if kv.1=k then (kv.1,v) else kv) else MI++[(k,v)]
def dC {p:κ×V}{r:List (κ×V)}{k:κ}(e:p.1=k):c_ (p::r) k=some p.2:=by simp[c_,aaw,e]
def dB {p:κ×V}{r:List (κ×V)}{k:κ}(e:¬p.1=k):c_ (p::r) k=c_ r k:=by simp[c_,aaw,e]
theorem mI (k:κ):∀MI:List (κ×V),(MI.any λkv=>decide (kv.1=k))=(c_ MI k).isSome
 |[]=>rfl
 |p::r=>by
  rw[aaq];by_cases e:p.1=k
  . simp only[dC e,Zy e,Bool.true_or,Option.isSome_some]
  rw[dB e,ZI e,Bool.false_or];exact mI k r
theorem xl (k j:κ)(y:V):∀MI:List (κ×V),c_ (MI.map λkv=>if kv.1=k then (kv.1,y) else kv) j=(c_ MI j).map λx=>if j=k then y else x
 |[]=>rfl
 |p::r=>by
  have ih:=xl k j y r;rw[Zb];by_cases h:p.1=k
  . rw[YY h];by_cases e:p.1=j
    . rw[dC (p:=(p.1,y)) e,dC e,Option.map_some,YY (e.symm.trans h)]
    rw[dB (p:=(p.1,y)) e,dB e,ih]
  rw[YX h];by_cases e:p.1=j
  . rw[dC (p:=p) e,dC e,Option.map_some,YX (λz=>h (e.trans z))]
  rw[dB (p:=p) e,dB e,ih]
theorem tJ (k j:κ)(y:V):∀MI:List (κ×V),c_ MI k=none->c_ (MI++[(k,y)]) j=if j=k then some y else c_ MI j
 |[],_=>by
  by_cases e:k=j
  . rw[YY e.symm];exact dC (p:=(k,y)) e
  rw[YX (λz=>e z.symm)];exact dB (p:=(k,y)) e
 |p::r,hn=>by
  rw[aaX];have hk:¬p.1=k:=λz=>by rw[dC z] at hn;cases hn
  rw[dB hk] at hn;have ih:=tJ k j y r hn;by_cases e:p.1=j
  . rw[dC e,dC e,YX (λz=>hk (e.trans z))]
  rw[dB e,dB e,ih]
def rX (MI:List (κ×V))(k j:κ)(y:V):c_ (putK MI k y) j=if j=k then some y else c_ MI j:=by
 unfold putK;by_cases a:(MI.any λkv=>decide (kv.1=k))=true
 . rw[YY a,xl];rw[mI] at a;by_cases e:j=k
   . obtain⟨x,hx⟩:=aa1.mp a;rw[YY e,e,hx,Option.map_some,YY rfl]
   rw[YX e];cases c_ MI j with
   |none=>rfl|some x=>rw[Option.map_some,YX e]
 rw[YX a];refine tJ k j y MI ?_;rw[mI] at a;cases q:c_ MI k with
 |none=>rfl|some x=>rw[q] at a;exact (a rfl).elim
def iq (MI:List (κ×V))(k:κ)(v:V):(putK MI k v).length<=MI.length+1:=by
 unfold putK;split
 . rw[YW];omega
 rw[Zg,Y7,aas];omega
def jt.iZ {o:Option V}{u:Option Value}(r:jt o u):o.isSome=u.isSome:=by
 cases o with
 |none=>cases u with
  |none=>rfl|some _=>exact (show False from r).elim
 |some _=>cases u with
  |none=>exact (show False from r).elim|some _=>rfl
theorem jt.getD {o:Option V}{u:Option Value}{d:V}{d':Value}(r:jt o u)(rd:RelV d d'):RelV (o.getD d) (u.getD d'):=by
 cases o with
 |none=>cases u with
  |none=>exact rd|some _=>exact (show False from r).elim
 |some _=>cases u with
  |none=>exact (show False from r).elim|some _=>exact r
def KV.val {MI:List (κ×V)}{vs:List (κ×Value)}(r:KV MI vs)(k:κ):jt (c_ MI k) (valueAt vs k):=by
 unfold KV at r
 induction r with
 |nil=>exact True.intro
 |@cons p q ps qs h t ih =>
  obtain⟨h1,h2⟩:=h;by_cases e:p.1=k
  . have e':q.1=k:=h1.symm.trans e;have b:valueAt (q::qs) k=some q.2:=by simp[valueAt,aaw,e']
    rw[dC e,b];exact h2
  have e':¬q.1=k:=λz=>e (h1.trans z);have b:valueAt (q::qs) k=valueAt qs k:=by simp[valueAt,aaw,e']
  rw[dB e,b];exact ih
theorem KV.any {MI:List (κ×V)}{vs:List (κ×Value)}(r:KV MI vs)(k:κ):(MI.any λkv=>decide (kv.1=k))=vs.any λkv=>decide (kv.1=k):=by
 unfold KV at r
 induction r with
 |nil=>rfl|cons h t ih=>rw[aaq,aaq,ih,h.1]
def KV.Ih {MI:List (κ×V)}{vs:List (κ×Value)}(r:KV MI vs)(k:κ){y:V}{u:Value}(ry:RelV y u) :
  KV (MI.map λkv=>if kv.1=k then (kv.1,y) else kv) (vs.map λkv=>if kv.1=k then (kv.1,u) else kv):=by
 unfold KV at r ⊢
 induction r with
 |nil=>exact .nil
 |@cons p q ps qs h t ih =>
  rw[Zb,Zb];refine .cons ?_ ih;obtain⟨h1,h2⟩:=h;by_cases e:p.1=k
  . rw[YY e,YY (h1.symm.trans e)];exact⟨h1,ry⟩
  rw[YX e,YX (λz=>e (h1.trans z))];exact⟨h1,h2⟩
def KV.put {MI:List (κ×V)}{vs:List (κ×Value)}(r:KV MI vs)(k:κ){y:V}{u:Value}(ry:RelV y u):KV (putK MI k y) (stored vs k u):=by
 unfold putK stored;rw[r.any k];by_cases e:(vs.any λkv=>decide (kv.1=k))=true
 . rw[YY e,YY e];exact r.Ih k ry
 rw[YX e,YX e];exact Paired.snoc r ⟨rfl,ry⟩
theorem KV.length {MI:List (κ×V)}{vs:List (κ×Value)}(r:KV MI vs):MI.length=vs.length:=Paired.length r
end
def rn {P:Program}{w:World}{k:Key}{u:Value}(r:RelV (kV k) u):(cA P w).is k u=true:=by
 cases k with
 |inl i=>obtain⟨t,e⟩:=(show ∃t,u=Value.int i t from r);subst e;exact wq P w i t
 |inr x=>obtain⟨t,e⟩:=(show ∃t,u=Value.str x t from r);subst e;exact wO P w x t
theorem tX {P:Program}{w:World}:∀{ks:List Key} {us:abF},Vals (ks.map kV) us->ItemsAre (cA P w) ks us
 |[],_,r=>by rw[aah] at r;cases r;exact .nil
 |k::ks,_,r=>by
  rw[Zb] at r;cases r with
  |cons h t=>exact .cons (rn h) (tX t)
abbrev KT (H:Hp):List (List Key×V)->List (List Key×Addr×Value)->Prop:=Paired λp q=>p.1=q.1/\H q.2.1=some (.tup (p.1.map kV))/\RelV p.2 q.2.2
def KT.val {H:Hp}{MI:List (List Key×V)}{xs:List (List Key×Addr×Value)}(r:KT H MI xs)(k:List Key):jt (c_ MI k) ((atKey xs k).map (·.2)):=by
 induction r with
 |nil=>exact True.intro
 |@cons p q ps qs h t ih =>
  obtain⟨h1,_,h2⟩:=h;by_cases e:p.1=k
  . have e':q.1=k:=h1.symm.trans e;have b:atKey (q::qs) k=some q.2:=by simp[atKey,aaw,e']
    rw[dC e,b];exact h2
  have e':¬q.1=k:=λz=>e (h1.trans z);have b:atKey (q::qs) k=atKey qs k:=by simp[atKey,aaw,e']
  rw[dB e,b];exact ih
def KT.Ih {H:Hp}{MI:List (List Key×V)}{xs:List (List Key×Addr×Value)}(r:KT H MI xs)(k:List Key){y:V}{u:Value}(ry:RelV y u) :
  KT H (MI.map λkv=>if kv.1=k then (kv.1,y) else kv) (xs.map (putAt k u)):=by
 induction r with
 |nil=>exact .nil
 |@cons p q ps qs h t ih =>
  rw[Zb,Zb];refine .cons ?_ ih;obtain⟨h1,h2,h3⟩:=h;unfold putAt;by_cases e:p.1=k
  . rw[YY e,YY (h1.symm.trans e)];exact⟨h1,h2,ry⟩
  rw[YX e,YX (λz=>e (h1.trans z))];exact⟨h1,h2,h3⟩
def KT.put {H:Hp}{MI:List (List Key×V)}{xs:List (List Key×Addr×Value)}(r:KT H MI xs)(k:List Key){b:Addr}{y:V}{u:Value}(hb:H b=some (.tup (k.map kV)))(ry:RelV y u) :
  KT H (putK MI k y) (storedH xs k b u):=by
 have e:(MI.any λkv=>decide (kv.1=k))=(atKey xs k).isSome:=by rw[mI,(r.val k).iZ,Option.isSome_map]
 unfold putK storedH;rw[e];by_cases q:(atKey xs k).isSome=true
 . rw[YY q,YY q];exact r.Ih k ry
 rw[YX q,YX q];exact Paired.snoc r ⟨rfl,hb,ry⟩
def KT.keeps {H H':Hp}{MI:List (List Key×V)}{xs:List (List Key×Addr×Value)}(r:KT H MI xs)(ht:∀b ys,H b=some (.tup ys)->H' b=some (.tup ys)):KT H' MI xs :=
 Paired.eV r λ_ _ z=>⟨z.1,ht _ _ z.2.1,z.2.2⟩
section
variable {P:Program}{w:World}{H:Hp}{h:Heap}{a:Addr}
def GU {u:HO} (ok:iO P w H h) (e:Rd H a u):bL P w H h a u:=e.ok ok
def w8 {MI:List (Key×V)}(ok:iO P w H h)(e:Rd H a (.dK MI)):MI.length<=sizeLine/\(a==sysModules)=false/\∃vs,KV MI vs/\h.DictOf (cA P w) a vs :=
 show bL P w H h a (.dK MI) from GU ok e
def JZ {MI:List (Key×V)}(ok:iO P w H h)(e:H a=some (.dK MI)):MI.length<=sizeLine/\(a==sysModules)=false/\∃vs,KV MI vs/\h.DictOf (cA P w) a vs:=w8 ok (.inl e)
def qJ {ks:List Key}(ok:iO P w H h)(e:H a=some (.tup (ks.map kV))):(tupleKind (cA P w)).is h ks a:=by obtain⟨_,MJ,r,o,h1,h2,n,h3⟩:=(show bL P w H h a (.tup (ks.map kV)) from ok a _ e);exact⟨o,MJ.toArray,n,h1,h2,h3,by simpa using tX r⟩
def wC {MI:List (List Key×V)}(ok:iO P w H h)(e:Rd H a (.dT MI)):MI.length<=sizeLine/\(a==sysModules)=false /\
  ∃xs,KT H MI xs/\h.DictOfH (tupleKind (cA P w)) a xs:=by
 obtain⟨z,y,xs,r,o,es,ep,h1,h2,h3,h4,h5⟩:=(show bL P w H h a (.dT MI) from GU ok e);refine⟨z,y,xs,r,o,es,ep,h1,h2,h3,h4,λx hx=>?_,h5⟩;have all:∀{l:List (List Key×V)} {m:List (List Key×Addr×Value)},KT H l m->∀x∈m,(tupleKind (cA P w)).is h x.1 x.2.1:=by
  intro l m q
  induction q with
  |nil=>intro x hx;exact nomatch hx
  |@cons p q ps qs hq t ih =>
   intro x hx;rcases Y0.mp hx with e|hx
   . subst e;exact qJ ok (by rw[<-hq.1];exact hq.2.1)
   exact ih x hx
 exact all r x hx
def J8 {MI:List (List Key×V)}(ok:iO P w H h)(e:H a=some (.dT MI)):MI.length<=sizeLine/\(a==sysModules)=false /\
  ∃xs,KT H MI xs/\h.DictOfH (tupleKind (cA P w)) a xs:=wC ok (.inl e)
end
def gZ (H:Hp)(a:Addr)(y:V)(r:Option V):Prop :=
 (∃MI k,Rd H a (.dK MI)/\y=kV k/\r=c_ MI k)\/∃MI k b,Rd H a (.dT MI)/\y=.ref b/\H b=some (.tup (k.map kV))/\r=c_ MI k
def Ko (H:Hp)(a:Addr)(y v:V)(H':Hp):Prop :=
 (∃MI k,H a=some (.dK MI)/\y=kV k/\MI.length < sizeLine/\H'=upd H a (.dK (putK MI k v))) \/
 ∃MI k b,H a=some (.dT MI)/\y=.ref b/\H b=some (.tup (k.map kV))/\MI.length < sizeLine/\H'=upd H a (.dT (putK MI k v))
theorem gZ.k {H:Hp}{a:Addr}{MI:List (Key×V)}{k:Key}(e:H a=some (.dK MI)):gZ H a (kV k) (c_ MI k):=.inl ⟨MI,k,.inl e,rfl,rfl⟩
def gZ.t {H:Hp}{a b:Addr}{MI:List (List Key×V)}{k:List Key}(e:H a=some (.dT MI))(eb:H b=some (.tup (k.map kV))):gZ H a (.ref b) (c_ MI k):=.inr ⟨MI,k,b,.inl e,rfl,eb,rfl⟩
section
variable {X:Cx}{MG:abE}{σ:St}{H:Hp}{s:Shared}{a:Addr}{y v:V}{u r:Value}{o:Option V}{A:Around}{E:abC}
def Inv.big (I:Inv X MG σ H s):sysModules < s.heap.objs.size:=by have h:mainGlobals < s.heap.objs.size:=(I.mod.glob.keeps I.bk).lt;exact Nat.lt_trans (by decide) h
def L9 {Q:abC}(hu:A.units+1 < cLine)(I:Inv X MG σ H s)(g:gZ H a y o)(ry:RelV y u)(h:∀s',Inv X MG σ H s'->Q (.bool o.isSome) s') :
  wpAny (model X.prog X.w) A (compareOp .In u (.ref a)) Q E s:=by
 rcases g with ⟨MI,k,e,ey,l⟩|⟨MI,k,b,e,ey,eb,l⟩
 . subst ey;obtain⟨z,hd,vs,rel,dd⟩:=w8 I.bw e;refine wpAny_in_of (rn ry) hd dd.mapOf ?_;rw[<-(rel.val k).iZ,<-l];exact h _ (I.tok _)
 subst ey;cases (show u=Value.ref b from ry);obtain⟨z,hd,xs,rel,dd⟩:=wC I.bw e;refine wpAny_in_heap (abu hu) (qJ I.bw eb) hd dd ?_;have q:=(rel.val k).iZ;rw[Option.isSome_map] at q;rw[<-q,<-l];exact h _ (I.tok _)
def E_ {Q:abC}(hu:A.units+1 < cLine)(I:Inv X MG σ H s)(g:gZ H a y o)(ry:RelV y u)(h:∀s',Inv X MG σ H s'->Q (.bool (!o.isSome)) s') :
  wpAny (model X.prog X.w) A (compareOp .NotIn u (.ref a)) Q E s:=by
 rcases g with ⟨MI,k,e,ey,l⟩|⟨MI,k,b,e,ey,eb,l⟩
 . subst ey;obtain⟨z,hd,vs,rel,dd⟩:=w8 I.bw e;refine wpAny_notIn_of (rn ry) hd dd.mapOf ?_;rw[<-(rel.val k).iZ,<-l];exact h _ (I.tok _)
 subst ey;cases (show u=Value.ref b from ry);obtain⟨z,hd,xs,rel,dd⟩:=wC I.bw e;refine wpAny_notIn_heap (abu hu) (qJ I.bw eb) hd dd ?_;have q:=(rel.val k).iZ;rw[Option.isSome_map] at q;rw[<-q,<-l];exact h _ (I.tok _)
def za {h':Heap}{t':Nat}{ob:HO}(I:Inv X MG σ H s)(mu:JE (H a))(hs:Heap.SameBut a s.heap h')(he:∃q,h'.get? a=some q)(new:bL X.prog X.w (upd H a ob) h' a ob) :
  Inv X MG σ (upd H a ob) {s with heap:=h',toks:=t'} :=
 I.write (x:=a) (e:=a) mu (.inl rfl) (λb q hb z=>(hs.2 b hb).trans z) he new
def Hy {P:Program}{w:World}{H':Hp}{h':Heap}{MI:List (Key×V)}{vs:List (Key×Value)}(z:MI.length<=sizeLine)(hd:(a==sysModules)=false)(rel:KV MI vs)(dd:h'.DictOf (cA P w) a vs) :
  bL P w H' h' a (.dK MI):=⟨z,hd,vs,rel,dd⟩
def AX {H':Hp}{Q:Unit->Shared->Prop}(hu:A.units+1 < cLine)(I:Inv X MG σ H s)(g:Ko H a y v H')(ry:RelV y u)(rv:RelV v r)(h:∀s',Inv X MG σ H' s'->Q () s') :
  wpAny (model X.prog X.w) A (setItem (.ref a) u r) Q E s:=by
 rcases g with ⟨MI,k,e,ey,l,eH⟩|⟨MI,k,b,e,ey,eb,l,eH⟩
 . subst ey eH;obtain⟨z,hd,vs,rel,dd⟩:=JZ I.bw e;have hz:vs.length<=sizeLine:=by rw[<-rel.length];exact z
   have hl:(putK MI k v).length<=sizeLine:=by have:=iq MI k v;omega
   refine wpAny_setItem_pairs (hsz:=hz) (rn ry) dd λh' Q7 hs=>h _ ?_;have he:∃q,h'.get? a=some q:=let ⟨q,_,_,hq,_⟩:=Q7;⟨q,hq⟩;exact za I (by rw[e];exact True.intro) hs he (Hy hl hd (rel.put k rv) Q7)
 subst ey eH;cases (show u=Value.ref b from ry);obtain⟨z,hd,xs,rel,dd⟩:=J8 I.bw e;have hz:xs.length<=sizeLine:=by rw[<-Paired.length rel];exact z
 have hl:(putK MI k v).length<=sizeLine:=by have:=iq MI k v;omega
 refine wpAny_setItem_heap (hsz:=hz) (abu hu) (qJ I.bw eb) dd λh' Q7 hs=>h _ ?_;obtain⟨q,es,ep,hq,h2,h3,h4,_,h5⟩:=Q7;refine za I (by rw[e];exact True.intro) hs ⟨q,hq⟩ ⟨hl,hd,_,(rel.put k eb rv).keeps λc ys ec=>?_,q,es,ep,hq,h2,h3,h4,h5⟩;rw[aq (dQ ec e (λz=>nomatch z))];exact ec
end
section
variable {X:Cx}{MG:abE}{σ:St}{H:Hp}{s:Shared}{a:Addr}{MI:List (Key×V)}{k:Key}{u:Value}{A:Around}{E:abC}
end
def Ks (i:Expr):Prop:=∀ov iv,subscripted i false ov iv=operate [ov,iv] (getItem ov iv)
def FV {prog:Program}{w:World}{A:Around}{E:abC}{s:Shared}{env:Env}{value slice:Expr}{pos:Pos}{T id:String}{Q:abC}
  (hl:typeLookup (.type T) "__getitem__"=pure (some (.builtin id)))(hs:Ks slice)
  (h:wpAny (model prog w) A (eval value env) (λo s₁=>wpAny (model prog w) A (eval slice env) (λi s₂=>s₂.TypeIs o T/\wpAny (model prog w) A (getItem o i) Q E s₂) E s₁) E s) :
  wpAny (model prog w) A (eval (.Subscript value slice pos) env) Q E s:=by
 refine Subscript_ (aaa h (λo s₁ h₁=>aaa h₁ (λi s₂ h₂=>?_) λ_ _ x=>x) λ_ _ x=>x);obtain⟨hT,h₂⟩:=h₂;unfold subscriptTail;refine YV ?_;rw[getitemInPython_of_ne hT.not_modules];refine YV (wpAny_specialOf hT hl ?_);have fin:wpAny (model prog w) A (subscripted slice false o i) (λr s₃=>wpAny (model prog w) A (letTemporaryGo value o r >>= λ_=>pure r) Q E s₃) E s₂:=by rw[hs o i];exact wpAny_operating (aaa h₂ (λr s₃ h₃=>YV (wpAny_letTemporaryGo (Y2 h₃))) λ_ _ x=>x)
 first
  |exact Y2 (YV fin)|exact YV (Y2 (YV fin))|exact YV fin
def JJ (ty td:TE):TE:=λσ H Q=>ty σ H λy H1=>td σ H1 λx H2=>∃a o,x=.ref a/\gZ H2 a y o/\Q (.bl o.isSome) H2
def Fg (ty td:TE):TE:=λσ H Q=>ty σ H λy H1=>td σ H1 λx H2=>∃a o,x=.ref a/\gZ H2 a y o/\Q (.bl (!o.isSome)) H2
def Kq (td ty tv:TE):TS:=λD σ H=>tv σ H λv H1=>td σ H1 λx H2=>ty σ H2 λy H3=>∃a H4,x=.ref a/\Ko H3 a y v H4/\D.nx σ H4
section
variable {X:Cx}{o i e value:Expr}{pos pos' MX:Pos}{td ty tv:TE}
def uH (hu:X.A.units+1 < cLine) (hi:PE X i ty) (ho:PE X o td):PC X .In i o (JJ ty td):=by intro MG s σ H Q I h;refine bE (hi MG s σ H _ I h) λiv s1 ⟨y,H1,I1,ry,q1⟩=>bE (ho MG s1 σ H1 _ I1 q1) λu s2 ⟨x,H2,I2,rx,a,ov,ex,g,q2⟩=>?_;subst ex;obtain rfl:u=Value.ref a:=rx;exact L9 hu I2 g ry λs3 I3=>⟨.bl ov.isSome,H2,I3,rfl,q2⟩
def Bj (hu:X.A.units+1 < cLine)(hi:PE X i ty)(ho:PE X o td):PC X .NotIn i o (Fg ty td):=by intro MG s σ H Q I h;refine bE (hi MG s σ H _ I h) λiv s1 ⟨y,H1,I1,ry,q1⟩=>bE (ho MG s1 σ H1 _ I1 q1) λu s2 ⟨x,H2,I2,rx,a,ov,ex,g,q2⟩=>?_;subst ex;obtain rfl:u=Value.ref a:=rx;exact E_ hu I2 g ry λs3 I3=>⟨.bl (!ov.isSome),H2,I3,rfl,q2⟩
def mX (hu:X.A.units+1 < cLine)(ho:PE X o td)(hi:PE X i ty)(hv:PE X value tv)(hs:swapsWith value (some (.Subscript o i pos')) pos.line X.env=pure false) :
  PS X (.Assign [.Subscript o i pos'] value pos) (Kq td ty tv):=by
 intro MG s σ H D I h;refine wpAny_Assign_Subscript (bE (hv MG s σ H _ I h) λr s1 ⟨v,H1,I1,rv,q1⟩=>bE (ho MG s1 σ H1 _ I1 q1) λu s2 ⟨x,H2,I2,rx,q2⟩=>bE (hi MG s2 σ H2 _ I2 q2) λiv s3 ⟨y,H3,I3,ry,a,H4,ex,g,q3⟩=>?_) hs;subst ex;obtain rfl:u=Value.ref a:=rx;exact AX hu I3 g ry rv λs4 I4=>⟨σ,H4,I4,q3⟩
end
def Dh {P:Program}{w:World}{H:Hp}(h:Heap)(hb:sysModules < h.objs.size):bL P w H (h.push {cls:=.type "dict",data:=.dict #[]}) h.objs.size (.dK []) :=
 ⟨Zo _,Zq.mpr (abr (Zv hb)),[],.nil,Heap.DictOf.new h⟩
def Cn {P:Program}{w:World}{H:Hp}(h:Heap)(hb:sysModules < h.objs.size):bL P w H (h.push {cls:=.type "dict",data:=.dict #[]}) h.objs.size (.dT []) :=
 ⟨Zo _,Zq.mpr (abr (Zv hb)),[],.nil,_,#[],0,Za _ rfl,⟨rfl,rfl,rfl⟩,rfl,rfl,List.nodup_nil⟩
def HC:TE:=λ_ H Q=>∀p,H p=none->Q (.ref p) (upd H p (.dK []))
def Iy:TE:=λ_ H Q=>∀p,H p=none->Q (.ref p) (upd H p (.dT []))
section
variable {X:Cx}{pos:Pos}
def qj:PE X (.Dict [] [] pos) HC:=λMG s σ H Q I h =>wpAny_Dict_empty ⟨.ref s.heap.objs.size,_,I.laid (a:=s.heap.objs.size) (o:=.dK []) (t':=s.toks) (λ_ _ q=>YZ _ q) (Y5 _) (Dh s.heap I.big),rfl,h _ (I.bw.fresh (Y5 _))⟩
def qC:PE X (.Dict [] [] pos) Iy:=λMG s σ H Q I h =>wpAny_Dict_empty ⟨.ref s.heap.objs.size,_,I.laid (a:=s.heap.objs.size) (o:=.dT []) (t':=s.toks) (λ_ _ q=>YZ _ q) (Y5 _) (Cn s.heap I.big),rfl,h _ (I.bw.fresh (Y5 _))⟩
end
structure M2 (X:Cx)(o:Expr)(m:Str)(apos:Pos)(e f:Expr)(MO:Pos):Prop where
 MH:attributeBase o m X.env (eval o X.env)=eval o X.env
 xr:((backTo MO (starEach [e,f] X.env)).all (λx=>!x.1)&&(backToKw MO (keywordEach [] X.env)).all (λx=>x.1.isSome)
  && decide (([e,f]:List Expr).length+([]:List Keyword).length+(if ([]:List Keyword).isEmpty then 0 else 1) < 30))=true
 line:(apos.endLine==MO.line)=true
 trees:backTo MO (starEach [e,f] X.env)=[(false,eval e X.env),(false,eval f X.env)]
def Mh (H:Hp)(a:Addr):Prop:=(∃MI,Rd H a (.dK MI))\/∃MI,Rd H a (.dT MI)
def Iv {X:Cx}{MG:abE}{σ:St}{H:Hp}{s:Shared}{a:Addr}(I:Inv X MG σ H s)(d:Mh H a) :
  s.TypeIs (.ref a) "dict"/\(∀b,Value.ref a=.ref b->∃ob,s.heap.get? b=some ob/\ob.dict=none)/\(a==sysModules)=false:=by
 rcases d with ⟨MI,e⟩|⟨MI,e⟩
 . obtain⟨_,hd,vs,_,dd⟩:=w8 I.bw e;refine⟨dd.typeIs,λb q=>?_,hd⟩;cases q;obtain⟨ob,_,_,h1,h2,_⟩:=dd;exact⟨ob,h1,h2.2.1⟩
 obtain⟨_,hd,xs,_,dd⟩:=wC I.bw e;refine⟨dd.typeIs,λb q=>?_,hd⟩;cases q;obtain⟨ob,_,_,h1,h2,_⟩:=dd;exact⟨ob,h1,h2.2.1⟩
section
variable {X:Cx}{MG:abE}{σ:St}{H:Hp}{s:Shared}{a:Addr}{y d:V}{u r:Value}{o:Option V}{A:Around}{E:abC}
def HB {Q:abC} (hu:A.units+1 < cLine) (I:Inv X MG σ H s) (g:gZ H a y o) (ry:RelV y u) (rd:RelV d r) (h:∀w' s',Inv X MG σ H s'->RelV (o.getD d) w'->Q w' s') :
  wpAny (model X.prog X.w) A (call (.builtin "dict.get") [.ref a,u,r]) Q E s:=by
 rcases g with ⟨MI,k,e,ey,l⟩|⟨MI,k,b,e,ey,eb,l⟩
 . subst ey;obtain⟨z,hd,vs,rel,dd⟩:=w8 I.bw e;refine call_meetsIn PySem.F.slot_dict_get dd.typeIs PySem.F.entry_dict_get (PySem.F.args_dict_get_3 _ _ _) (meets_dict_get_default (cA X.prog X.w) a (rn ry) hd r) ⟨_,dd.mapOf,h _ _ (I.tok _) ?_⟩;rw[l];exact (rel.val k).getD rd
 subst ey;cases (show u=Value.ref b from ry);obtain⟨z,hd,xs,rel,dd⟩:=wC I.bw e;refine call_meetsIn PySem.F.slot_dict_get dd.typeIs PySem.F.entry_dict_get (PySem.F.args_dict_get_3 _ _ _) (meetsH_dict_get_default (tupleKind (cA X.prog X.w)) a b hd r) ⟨abu hu,k,xs,qJ I.bw eb,dd,h _ _ (I.tok _) ?_⟩;rw[l];exact (rel.val k).getD rd
end
def Jk (td ty tx:TE):TE:=λσ H Q=>td σ H λx H1=>∃a,x=.ref a/\Mh H1 a/\ty σ H1 λy H2=>tx σ H2 λz H3=>∃o,gZ H3 a y o/\Q (o.getD z) H3
section
variable {X:Cx}{o e f:Expr}{apos MO:Pos}{td ty tx:TE}
def vT (hu:X.A.units+1 < cLine) (ho:PE X o td) (he:PE X e ty) (hf:PE X f tx) (m:M2 X o "get" apos e f MO):PE X (.Call (.Attribute o "get" apos) [e,f] [] MO) (Jk td ty tx):=by
 intro MG s σ H Q I h;refine wpAny_Call_method m.MH m.xr m.line PySem.F.plainAttrs_dict PySem.F.slot_dict_get PySem.F.type_dict_get (bE (ho MG s σ H _ I h) λu s1 ⟨x,H1,I1,rx,a,ex,d,q1⟩=>?_);subst ex;obtain rfl:u=Value.ref a:=rx;obtain⟨t1,t2,_⟩:=Iv I1 d;refine⟨t1,t2,?_⟩;rw[m.trees];refine abd rfl (Calls.evalArgs_plain (aby (bE (he MG s1 σ H1 _ I1 q1) λiv s2 ⟨y,H2,I2,ry,q2⟩ =>aby (bE (hf MG s2 σ H2 _ I2 q2) λfv s3 ⟨z,H3,I3,rz,ov,g,q3⟩=>Calls.spliced_nil ?_))))
 exact HB hu I3 g ry rz λw' s4 I4 O0=>⟨_,H3,I4,O0,q3⟩
end
section
variable {X:Cx}{MG:abE}{σ:St}{H:Hp}{s:Shared}{a:Addr}{MI:List (Key×V)}{A:Around}{E:abC}
end
section
variable {X:Cx}{MG:abE}{σ:St}{H:Hp}{s:Shared}{a:Addr}{y:V}{u:Value}{A:Around}{E:abC}
end
section
variable {prog:Program}{w:World}{A:Around}{E:abC}
end
section
variable {X:Cx}
end
section
variable {X:Cx}{MG:abE}{σ:St}{H:Hp}{s:Shared}{h':Heap}
def Inv.Gw {t':Nat} {ch:List Addr} (I:Inv X MG σ H s) (k:∀b o,b∉ch->s.heap.get? b=some o->h'.get? b=some o) (hf:∀b∈ch,nQ X MG H b):Inv X MG σ H {s with heap:=h',toks:=t'}:=by
 have Oz:∀b u,H b=some u->b∉ch:=λb u e z=>by have q:=(hf b z).1;rw[q] at e;cases e
 refine I.step (g':=s.gens) (d':=s.drawn) (ch:=ch) (λb hb=>⟨(hf b hb).2.2.2.1,(hf b hb).2.1,(hf b hb).2.2.2.2.1,(hf b hb).2.2.2.2.2⟩) (λb o _ _ hc e _=>k b o hc e) (λb o _ _ hc e _=>⟨o.slots,k b o hc e⟩)
  (λ_ _ _ _ n=>n) (λb o hc e=>⟨o,k b o hc e⟩) (λ_ _ e=>e) (λ_ _ _ e=>e) (λb ps e=>⟨#[],by rw[e];simp⟩) (λm hm=>?_) (λb u e=>?_) I.bare
 . obtain⟨o,es,ep,ho,r⟩:=hm;exact⟨o,es,ep,k _ o (λz=>(hf _ z).2.1 rfl) ho,r⟩
 refine (I.bw b u e).ly (λc v hc q=>k c v ?_ q) (λ_ q=>q) λ_ _ q=>q;rcases hc with z|z
 . rw[z];exact Oz b u e
 exact Oz c _ z
def Inv.tf {t':Nat}{ch:List Addr}{T:Addr}{ob:HO}(I:Inv X MG σ H s)(k:∀b o,b∉ch->s.heap.get? b=some o->h'.get? b=some o)(hf:∀b∈ch,nQ X MG H b)(hT:s.heap.objs.size<=T)
  (new:bL X.prog X.w (upd H T ob) h' T ob):Inv X MG σ (upd H T ob) {s with heap:=h',toks:=t'}:=by
 have hn:H T=none:=I.bw.fresh hT;have Oz:∀b u,H b=some u->b∉ch:=λb u e z=>by have q:=(hf b z).1;rw[q] at e;cases e
 refine I.step (g':=s.gens) (d':=s.drawn) (ch:=ch) (λb hb=>⟨(hf b hb).2.2.2.1,(hf b hb).2.1,(hf b hb).2.2.2.2.1,(hf b hb).2.2.2.2.2⟩) (λb o _ _ hc e _=>k b o hc e) (λb o _ _ hc e _=>⟨o.slots,k b o hc e⟩)
  (λb o _ e n=>?_) (λb o hc e=>⟨o,k b o hc e⟩) (λb xs e=>?_) (λb o u e=>?_) (λb ps e=>⟨#[],?_⟩) (λm hm=>?_) (λb u e=>?_) I.bare
 . rw[aq (Zv (Zz (Y8 e) hT))];exact n
 . rw[aq (ao e hn)];exact e
 . rw[aq (ao e hn)];exact e
 . rw[aq (ao e hn),e];simp
 . obtain⟨o,es,ep,ho,r⟩:=hm;exact⟨o,es,ep,k _ o (λz=>(hf _ z).2.1 rfl) ho,r⟩
 by_cases hb:b=T
 . subst hb;rw[ae] at e;cases e;exact new
 rw[aq hb] at e;refine (I.bw b u e).ly (λc v hc q=>k c v ?_ q) (λc q=>by rw[aq (ao q hn)];exact q) λc xs q=>by rw[aq (ao q hn)];exact q
 rcases hc with z|z
 . rw[z];exact Oz b u e
 exact Oz c _ z
end
section
variable {X:Cx}
def yg {tg:Expr} {MG:abE} {σ:St} {H:Hp} {s:Shared} {R:It->Hp->Prop} {J:It} {tn:Nat->Heap->Prop} {tk:Nat} (I:Inv X MG σ H s) (o:Obj)
  (T:Turn X.prog X.w X.K tg J [s.heap.objs.size] s.heap.objs.size tn) (st:tn 0 (s.heap.push o)) (q:R J H):LU X MG σ tg R (.ref s.heap.objs.size) {s with heap:=s.heap.push o,toks:=tk}:=by
 refine⟨s.heap.objs.size,[s.heap.objs.size],tn,J,H,rfl,I.kept λb ob e=>YZ _ e,T,st,λb hb=>?_,q⟩;have e:b=s.heap.objs.size:=by simpa using hb
 subst e;exact I.yu (Y5 _) (I.bw.fresh (Y5 _))
end
def Jy (lo c:Int)(n:Nat):It:=⟨λi _=>i < n,λi H x H'=>H'=H/\x=.int (lo+(i:Nat)*c),λi _=>n<=i⟩
def vV {P:Program}{w:World}{K:abB}{tg:Expr}(it:Addr)(lo c:Int)(n:Nat):Turn P w K tg (Jy lo c n) [it] it (λi h=>IsRangeIter h it (lo+(i:Nat)*c) ((n:Int) - (i:Nat)) c) where
 mem:=by simp
 obj:=λi h st b hb=>by
  have e:b=it:=by simpa using hb
  subst e;exact⟨_,st,λv z=>nomatch z⟩
 keep:=λi h h' st k=>k it (by simp) _ st
 item:=by intro X hP hw hK hc i MG s σ H E I hf st hg;subst hP hw hK;obtain⟨f0,f1,f2,f3,f4,f5⟩:=hf it (by simp);have W:=Walks.range (prog:=X.prog) (w:=X.w) (I.ok.hd hc) it lo c n;refine W.item i s _ _ hg st λv h' tk hv Nw kk=>?_;obtain⟨t,rfl⟩:=hv;have I1:Inv X MG σ H {s with heap:=h',toks:=tk}:=I.turned (λb o hb e=>kk b o (by simpa using hb) e) f0 f1 f3 f4 f5;exact⟨_,rfl,xf (s:={s with heap:=h',toks:=tk}) (n:="range_iterator") Nw rfl rfl (by decide) ⟨.int (lo+(i:Nat)*c),H,I1,⟨t,rfl⟩,⟨rfl,rfl⟩,Nw,λb hb=>(hf b hb).1⟩⟩
 done:=by intro X hP hw hK hc i MG s σ H E I hf st hg;subst hP hw hK;obtain⟨f0,f1,f2,f3,f4,f5⟩:=hf it (by simp);exact wpAny_pyNext_range_end (I.ok.hd hc) st (by have:n<=i:=hg;omega) λh' eb=>⟨rfl,I.turned (t':=s.toks) (λb o hb e=>eb b o hb e) f0 f1 f3 f4 f5⟩
 self:=λA i s Q E st h=>wpAny_pyIter_rangeiter st h
def JG (i j c:Int)(n:Nat):Prop:=c≠0/\c.natAbs < 1073741824/\Builtin.Range.small i j c=true/\Builtin.Range.rangeSize i j c=n
def JG.neg {i j:Int}(ha:-(2 ^ 62)<=i)(Sx:i < 2 ^ 62)(hb:-(2 ^ 62)<=j)(Q8:j < 2 ^ 62):JG i j (-1) (i - j).toNat :=
 ⟨by decide,by decide,PySem.W.small_down ha Sx hb Q8,PySem.W.rangeSize_downNat i j⟩
def G0 (ta:TA):TI:=λσ H R=>ta σ H λvs H1=>∃(i j c:Int) (n:Nat),vs=[.int i,.int j,.int c]/\JG i j c n/\R (Jy i c n) H1
section
variable {X:Cx}{tg:Expr}
def sQ {a b c:Expr} {ta:TA} {p pos:Pos} (hg:Gl X "range") (hm:X.mg "range"=none) (ha:PA X [a,b,c] ta)
  (hs:starEach [a,b,c] X.env=(false,eval a X.env)::starEach [b,c] X.env:=by rfl) (MR:(backTo pos (starEach [b,c] X.env)).any (·.1)=false:=by rfl) :
  PI X tg (.Call (.Name "range" p) [a,b,c] [] pos) (G0 ta):=by
 intro MG s σ H R I h;refine Call_ (lM I hg hm boot_range (aaj (bE (ha pos MG s σ H _ I h) λus s1 ⟨vs,H1,I1,r1,q1⟩=>?_) hs MR));obtain⟨i,j,k,n,e,⟨c0,c1,c2,c3⟩,q⟩:=q1;subst e;cases r1 with
 |cons r rr =>
  cases rr with
  |cons r' rr =>
   cases rr with
   |cons WR rr =>
    cases rr;obtain⟨t,rfl⟩:=r;obtain⟨t',rfl⟩:=r';obtain⟨WS,rfl⟩:=WR;refine call_range_3 c0 ?_ (.inl (PyProof.noPylong_small c1));refine wpAny_pyIter_range (IsRange.new ..) c2 ?_;have I2:Inv X MG σ H1 {s1 with heap:=s1.heap.push {cls:=.type "range",data:=.fields #[.int i t,.int j t',.int k WS]}}:=I1.kept (t':=s1.toks) λb o e=>YZ _ e;refine yg (tk:=s1.toks) I2 _ (vV _ i k n) ?_ q;have e1:i+((0:Nat):Int)*k=i:=by simp
    have e2:(n:Int) - ((0:Nat):Int)=Builtin.Range.rangeSize i j k:=by rw[c3];simp
    show IsRangeIter _ _ (i+((0:Nat):Int)*k) ((n:Int) - ((0:Nat):Int)) k;rw[e1,e2];exact Za _ rfl
end
def rJ {lo c:Int}{n:Nat}{g:TG}{tb:TS}{D:Ends}{σ:St}{H:Hp}(Pv:Nat->St->Hp->Prop)(h0:Pv 0 σ H)
  (hs:∀i σ H,i < n->Pv i σ H->g (.int (lo+(i:Nat)*c)) σ H λσ2 H2=>tb {D with nx:=Pv (i+1),ct:=Pv (i+1),bk:=D.nx} σ2 H2)(hd:∀σ H,Pv n σ H->D.nx σ H) :
  ∃W:Nat->Nat->St->Hp->Prop,(∃m,W 0 m σ H)/\∀i m σ H,W i m σ H ->
   ((Jy lo c n).stop i H/\D.nx σ H)\/((Jy lo c n).go i H/\∃N:St->Hp->Prop,(∀σ' H',N σ' H'->∃m',m' < m/\W (i+1) m' σ' H')/\∀x H',(Jy lo c n).xn i H x H'->g x σ H' λσ2 H2=>tb {D with nx:=N,ct:=N,bk:=D.nx} σ2 H2):=by
 refine⟨λi m σ H=>m=n - i/\i<=n/\Pv i σ H,⟨n,by simp,Zo _,h0⟩,?_⟩;rintro i m σ H ⟨rfl,hi,p⟩;by_cases MN:i < n
 . refine .inr ⟨MN,Pv (i+1),λσ' H' p'=>⟨n - (i+1),by omega,rfl,MN,p'⟩,λx H' y=>?_⟩;obtain⟨e,y⟩:=y;subst e y;exact hs i σ _ MN p
 have e:i=n:=by omega
 subst e;exact .inl ⟨Y5 _,hd σ H p⟩
section
variable {X:Cx}{tg:Expr}
end
def J9 (x:Str):It:=⟨λi _=>i < x.cps.size,λi H v H'=>H'=H/\∃c,x.cps[i]?=some c/\v=.str ⟨#[c]⟩,λi _=>x.cps.size<=i⟩
def wV {P:Program}{w:World}{K:abB}{tg:Expr}(it:Addr)(x:Str)(t:Tok)(ty:String)(Pn:ty="str_ascii_iterator"\/ty="str_iterator") :
  Turn P w K tg (J9 x) [it] it (λi h=>h.IsStrIter it ty x t i) where
 mem:=by simp
 obj:=λi h st b hb=>by
  have e:b=it:=by simpa using hb
  subst e;obtain⟨o,e,c,d⟩:=st;exact⟨o,e,λv z=>by rw[d] at z;cases z⟩
 keep:=λi h h' st k=>let ⟨o,ho,r⟩:=st;⟨o,k it (by simp) o ho,r⟩
 item:=by
  intro X hP hw hK hc i MG s σ H E I hf st hg;subst hP hw hK;obtain⟨f0,f1,f2,f3,f4,f5⟩:=hf it (by simp);have W:Walks X.prog X.w X.A it [it] [it] x.cps.size (SignAt x) (λi h=>h.IsStrIter it ty x t i):=by
   rcases Pn with e|e
   . rw[e];exact Walks.strAscii (I.ok.hd hc) it x t
   rw[e];exact Walks.strWide (I.ok.hd hc) it x t
  have N4:["enumerate","zip","dict_itemiterator","dict_reverseitemiterator","odict_iterator","itertools.zip_longest","itertools.pairwise"].contains ty=false:=by
   rcases Pn with e|e
   . rw[e];decide
   rw[e];decide
  refine W.item i s _ _ hg st λv h' tk hv Nw kk=>?_;obtain⟨c,u,WT,rfl⟩:=hv;have I1:Inv X MG σ H {s with heap:=h',toks:=tk}:=I.turned (λb o hb e=>kk b o (by simpa using hb) e) f0 f1 f3 f4 f5;obtain⟨oi,e,cc,dd⟩:=id Nw;exact⟨_,rfl,xf (s:={s with heap:=h',toks:=tk}) e cc dd N4 ⟨.str ⟨#[c]⟩,H,I1,⟨u,rfl⟩,⟨rfl,c,WT,rfl⟩,Nw,λb hb=>(hf b hb).1⟩⟩
 done:=by
  intro X hP hw hK hc i MG s σ H E I hf st hg;subst hP hw hK;obtain⟨f0,f1,f2,f3,f4,f5⟩:=hf it (by simp);have hx:x.cps[i]?=none:=Array.getElem?_eq_none hg;rcases Pn with e|e
  . rw[e] at st;exact wpAny_pyNext_ascii_end (I.ok.hd hc) st hx λh' eb=>⟨rfl,I.turned (t':=s.toks) (λb o hb e=>eb b o hb e) f0 f1 f3 f4 f5⟩
  rw[e] at st;exact wpAny_pyNext_wide_end (I.ok.hd hc) st hx λh' eb=>⟨rfl,I.turned (t':=s.toks) (λb o hb e=>eb b o hb e) f0 f1 f3 f4 f5⟩
 self:=λA i s Q E st h=>by
  rcases Pn with e|e
  . rw[e] at st;exact wpAny_pyIter_striter_ascii st h
  rw[e] at st;exact wpAny_pyIter_striter_wide st h
def Lz (te:TE):TI:=λσ H R=>te σ H λv H1=>∃x,v=.str x/\R (J9 x) H1
def HQ {X:Cx}{tg e:Expr}{te:TE}(he:PE X e te):PI X tg e (Lz te):=by
 intro MG s σ H R I h;refine bE (he MG s σ H _ I h) λv s1 ⟨y,H1,I1,r1,x,ex,q⟩=>?_;subst ex;obtain⟨t,rfl⟩:=r1;cases ha:x.cps.all (· < 128)
 . exact wpAny_pyIter_wide ha (yg (tk:=s1.toks) I1 _ (wV _ x t "str_iterator" (.inr rfl)) ⟨_,Za _ rfl,rfl,rfl⟩ q)
 exact wpAny_pyIter_ascii ha (yg (tk:=s1.toks) I1 _ (wV _ x t "str_ascii_iterator" (.inl rfl)) ⟨_,Za _ rfl,rfl,rfl⟩ q)
section
variable {prog:Program}{w:World}{A:Around}{E:abC}{s:Shared}
def Aw {d:Addr} {o:Obj} {es:Array DictEntry} {ep:Nat} {Q:abC} (hd:(d==sysModules)=false) (ho:s.heap.get? d=some o) (hc:o.ExactDict) (P_:o.data=.dict es ep)
  (hQ:Q (.ref s.heap.objs.size) {s with heap:=s.heap.push {cls:=.type "dict_keyiterator",data:=.fields #[.ref d,.int 0 0,.int es.size 0,.int ep 0]}}) :
  wpAny (model prog w) A (pyIter (.ref d)) Q E s:=by
 have hT:s.TypeIs (.ref d) "dict":=⟨o,ho,hc.1⟩;refine wpAny_pyIter_slot hT F.slot_dict_iter (aae F.slot_dict_iter hT F.entry_dict_iter ?_ (F.args_dict_iter_1 _));unfold Builtin.«dict.__iter__»;refine YV ?_;unfold Builtin.Dict.dictSlotNone;refine YV (wpAny_notOrdered_dict hT ?_);show wpAny _ _ (pure (Value.ref d)) _ _ s;refine Y2 ?_;show wpAny _ _ (Builtin.Dict.showsAll d >>= _) _ _ s;unfold Builtin.Dict.showsAll;rw[YX (by rw[hd];exact Zi)];refine YV (Y2 ?_);refine YV (wpAny_dictEntries ho P_ ?_);refine YV (wpAny_dictEpoch ho P_ ?_);refine YV (aak (Y2 ⟨_,rfl,"dict_keyiterator",_,⟨_,Za _ rfl,rfl⟩,aat.lookup,?_⟩));simpa [rawInt] using hQ
def sv {it d:Addr}{i n ep:Nat}{od:Obj}{es:Array DictEntry}{en:DictEntry}{Q:Option Value->Shared->Prop}(hit:s.heap.IsKeyIter it d i n ep)(Qa:s.heap.get? d=some od)(Qb:od.data=.dict es ep)
  (hsz:es.size=n)(hx:es[i]?=some en)(hQ:∀h',h'.IsKeyIter it d (i+1) n ep->Heap.SameBut it s.heap h'->Q (some en.key) {s with heap:=h'}):wpAny (model prog w) A (pyNext (.ref it)) Q E s:=by
 obtain⟨o,ho,hc,hd⟩:=id hit;unfold pyNext;refine YV (wpAny_attempt (Z9 (name:=Str.ofString "__next__") hit.typeIs aat
  (aae aat hit.typeIs F.entry_dict_keyiterator_next ?_ (F.args_dict_keyiterator_next_1 _))))
 refine YV (Y2 ?_);refine YV ?_;refine YV ?_
 first|refine YV (aaL hit.typeIs (Y2 ?_))|refine YV (aa0 hit.typeIs (Y2 ?_))
 refine YV (wpAny_fieldsOf ho hd ?_);have O4:Builtin.Dict_items.ownsTuple "dict_keyiterator"=false:=by decide
 simp only[O4,aai,aaQ];show wpAny _ _ (if (Value.ref d==Value.none)=true then _ else _) _ _ s;rw[YX (show ¬((Value.ref d==Value.none)=true) from Zi)];refine YV (Y2 ?_);refine YV (wpAny_dictEntries Qa Qb ?_);rw[YX (by rw[hsz];simp)];refine YV (Y2 ?_);refine YV (wpAny_dictEpoch Qa Qb ?_);rw[YX (by simp)];refine Y2 ?_;obtain⟨Sy,Pp⟩:=Array.getElem?_eq_some_iff.mp hx;simp only[show ¬((i:Int) < 0) from by omega,aaQ,ZF,Array.getElem?_eq_getElem Sy];refine YV ?_
 first|refine YV (aaL hit.typeIs (Y2 ?_))|refine YV (aa0 hit.typeIs (Y2 ?_))
 refine YV (wpAny_isOneOf_keyiter hit.typeIs ?_);show wpAny _ _ (setField (.ref it) 1 (rawInt ((i:Int)+1)) >>= _) _ _ s;refine YV (wpAny_setField ho hd (by simp) ?_);have Of:(s.heap.update it (Obj.mapFields (·.setIfInBounds 1 (rawInt ((i:Int)+1))))).IsKeyIter it d (i+1) n ep :=
  ⟨_,ZT _ ho (Obj.isFreed_of_fields (Obj.data_mapFields hd _)),(Obj.cls_mapFields ..).trans hc,by rw[Obj.data_mapFields hd];simp[rawInt]⟩
 refine YV (aaS ?_);refine YV (wpAny_isOneOf_keyiter (s:={s with heap:=s.heap.update it (Obj.mapFields (·.setIfInBounds 1 (rawInt ((i:Int)+1))))}) Of.typeIs ?_);show wpAny _ _ (pure es[i].key) _ _ _;rw[Pp];exact Y2 (Y2 ⟨_,rfl,Y2 (hQ _ Of (Zj ..))⟩)
def u5 {it d:Addr}{i n ep:Nat}{od:Obj}{es:Array DictEntry}{Q:Option Value->Shared->Prop}(hh:A.handled=none)(hit:s.heap.IsKeyIter it d i n ep)(Qa:s.heap.get? d=some od)(Qb:od.data=.dict es ep)
  (hsz:es.size=n)(WU:n<=i)(hQ:∀h',Heap.ExtBut it s.heap h'->Q none {s with heap:=h'}):wpAny (model prog w) A (pyNext (.ref it)) Q E s:=by
 obtain⟨o,ho,hc,hd⟩:=id hit;unfold pyNext;refine YV (wpAny_attempt (Z9 (name:=Str.ofString "__next__") hit.typeIs aat
  (aae aat hit.typeIs F.entry_dict_keyiterator_next ?_ (F.args_dict_keyiterator_next_1 _))))
 refine YV (Y2 ?_);refine YV ?_;refine YV ?_
 first|refine YV (aaL hit.typeIs (Y2 ?_))|refine YV (aa0 hit.typeIs (Y2 ?_))
 refine YV (wpAny_fieldsOf ho hd ?_);have O4:Builtin.Dict_items.ownsTuple "dict_keyiterator"=false:=by decide
 simp only[O4,aai,aaQ];show wpAny _ _ (if (Value.ref d==Value.none)=true then _ else _) _ _ s;rw[YX (show ¬((Value.ref d==Value.none)=true) from Zi)];refine YV (Y2 ?_);refine YV (wpAny_dictEntries Qa Qb ?_);rw[YX (by rw[hsz];simp)];refine YV (Y2 ?_);refine YV (wpAny_dictEpoch Qa Qb ?_);rw[YX (by simp)];refine Y2 ?_;have Sz:es.size<=i:=by rw[hsz];exact WU
 simp only[show ¬((i:Int) < 0) from by omega,aaQ,ZF,Array.getElem?_eq_none Sz];refine YV ?_
 first|refine YV (aaL hit.typeIs (Y2 ?_))|refine YV (aa0 hit.typeIs (Y2 ?_))
 show wpAny _ _ (setField (.ref it) 0 .none >>= _) _ _ s;refine YV (wpAny_setField ho hd (by simp) ?_);show wpAny _ _ (newExc (.type "StopIteration") [] >>= _) _ _ _;refine YV ?_;simp only[newExc,newTuple];refine YV (aak ?_ (by size_fits));refine YV (m:=firstArgMember _ _) (wpAny_of_eq (a:=Value.none) (by first|rfl|(simp only[firstArgMember];rfl)) ?_);refine aak ?_ (by size_fits);simp only[raiseNew];refine YV (wpAny_handled ?_);rw[show A.in1.handled=none from hh];refine YV (Y2 (wpAny_throw ?_));refine YV (wpAny_isInstance (T:="StopIteration") (b:=true) ⟨_,Za _ rfl,rfl⟩ isSubtype_stop ?_);exact Y2 (hQ _ (((Zj ..).extBut.push _).push _))
end
def yh {α β:Type}{G:α->β->Prop}{l₁:List α}{l₂:List β}(h:Paired G l₁ l₂):∀{i:Nat} {a:α},l₁[i]?=some a->∃b,l₂[i]?=some b/\G a b:=by
 induction h with
 |nil=>intro i a e;simp at e
 |@cons a b l₁ l₂ r t ih =>
  intro i a' e;cases i with
  |zero =>simp only[List.getElem?_cons_zero,Option.some.injEq] at e;subst e;exact⟨b,rfl,r⟩|succ j =>simp only[List.getElem?_cons_succ] at e ⊢;exact ih e
section
variable {X:Cx}{MG:abE}{σ:St}{H:Hp}{s:Shared}{d:Addr}{o:Obj}
end
section
variable {P:Program}{w:World}{K:abB}{tg:Expr}{d:Addr}{o:Obj}{es:Array DictEntry}{ep:Nat}
end
section
variable {X:Cx}{tg e:Expr}{td:TE}{apos MO:Pos}
end
def G8 (K:abB)(a:Addr):It :=
 ⟨λi H=>∃(xs:List V) (x:V),aP K H a xs/\xs[i]?=some x,λi H v H'=>∃T x,v=.ref T/\H T=none/\H'=upd H T (.tup [.int (i:Nat),x])/\∀xs,aP K H a xs->xs[i]?=some x,λi H=>∃xs:List V,aP K H a xs/\xs.length<=i⟩
def Az {P:Program}{w:World}{K:abB}{elts:List Expr}{kk:Nat}{MX:Pos}(a e it:Addr) :
  Turn P w K (.Tuple elts kk MX) (G8 K a) [e,it] e (λi h=>(∃old,IsEnum h e it ((i:Nat):Int) old)/\h.IsListIter it a i/\e≠it) where
 mem:=by simp
 obj:=λi h st b hb=>by
  obtain⟨⟨old,he⟩,⟨o,ho,hc,hd⟩,_⟩:=st;have e':b=e\/b=it:=by simpa using hb
  rcases e' with z|z
  . rw[z];exact⟨_,he,λv q=>nomatch q⟩
  rw[z];exact⟨o,ho,λv q=>by rw[hd] at q;cases q⟩
 keep:=λi h h' st k=>let ⟨⟨old,he⟩,hi,MT⟩:=st;⟨⟨old,k e (by simp) _ he⟩,hi.at λo q=>k it (by simp) o q,MT⟩
 item:=by
  intro X hP hw hK hc i MG s σ H E I hf st hg;subst hP hw hK;obtain⟨⟨old,he⟩,hit,MT⟩:=st;obtain⟨xs,x,hq,hx⟩:=hg;obtain⟨MJ,rv,p,hz⟩:=I.list hq;obtain⟨u,hu,ru⟩:=rv.get hx;have Uy:e < s.heap.objs.size:=Y8 he;have MQ:it < s.heap.objs.size:=by obtain⟨_,q,_⟩:=hit;exact Y8 q
  refine wpAny_pyNext_enum_item he hit p.isList (x:=u) (by simpa using hu) MT λh' ho Of hT hsz hk=>?_;refine⟨_,rfl,wpAny_letOwnedTupleGo_enum (s:={s with heap:=h',toks:=s.toks+1}) ho λOE WV sb=>?_⟩;have NJ:OE.get? s.heap.objs.size=some {cls:=.type "tuple",data:=.seq #[.int i s.toks,u]}:=(sb.2 _ (Nat.ne_of_gt Uy)).trans hT;have new:bL X.prog X.w (upd H s.heap.objs.size (.tup [.int (i:Nat),x])) OE s.heap.objs.size (.tup [.int (i:Nat),x]) :=
   ⟨by show 2<=sizeLine;decide,[.int i s.toks,u],.cons ⟨_,rfl⟩ (.cons ru .nil),⟨_,NJ,rfl,_,rfl⟩⟩
  have I1:Inv X MG σ (upd H s.heap.objs.size (.tup [.int (i:Nat),x])) {s with heap:=OE,toks:=s.toks+1} :=
   I.tf (ch:=[e,it]) (λb ob hb q=>(sb.2 b (λz=>hb (by simp[z]))).trans (hk b ob (λz=>hb (by simp[z])) (λz=>hb (by simp[z])) q)) hf (Y5 _) new
  refine⟨.ref s.heap.objs.size,_,I1,rfl,⟨_,x,rfl,I.bw.fresh (Y5 _),rfl,λys hy=>by rw[I.rK hy hq];exact hx⟩,⟨⟨u,?_⟩,Of.at λo q=>(sb.2 it (abr MT)).trans q,MT⟩,λb hb=>?_⟩
  . have e1:((i+1:Nat):Int)=(i:Int)+1:=by omega
    rw[e1];exact WV
  have Q8:b < s.heap.objs.size:=by
   have e':b=e\/b=it:=by simpa using hb
   rcases e' with z|z
   . rw[z];exact Uy
   rw[z];exact MQ
  rw[aq (Zv Q8)];exact (hf b hb).1
 done:=by intro X hP hw hK hc i MG s σ H E I hf st hg;subst hP hw hK;obtain⟨⟨old,he⟩,hit,MT⟩:=st;obtain⟨xs,hq,hx⟩:=hg;obtain⟨MJ,rv,p,hz⟩:=I.list hq;obtain⟨f0,f1,f2,f3,f4,f5⟩:=hf it (by simp);have hl:=rv.length;exact wpAny_pyNext_enum_end (I.ok.hd hc) he hit p.isList (by simp;omega) λh' eb=>⟨rfl,I.turned (t':=s.toks) (λb o hb q=>eb b o hb q) f0 f1 f3 f4 f5⟩
 self:=λA i s Q E st h=>let ⟨⟨_,he⟩,_⟩:=st;wpAny_pyIter_enum he h
def J0 (K:abB)(ta:TA):TI:=λσ H R=>ta σ H λvs H1=>∃a xs,vs=[.ref a]/\aP K H1 a xs/\R (G8 K a) H1
def uB {X:Cx}{e:Expr}{ta:TA}{p pos MX:Pos}{elts:List Expr}{kk:Nat}(hg:Gl X "enumerate")(hm:X.mg "enumerate"=none)(ha:PA X [e] ta)(hs:starEach [e] X.env=[(false,eval e X.env)]:=by rfl) :
  PI X (.Tuple elts kk MX) (.Call (.Name "enumerate" p) [e] [] pos) (J0 X.K ta):=by
 intro MG s σ H R I h;refine Call_ (lM I hg hm boot_enumerate (aaj (bE (ha pos MG s σ H _ I h) λus s1 ⟨vs,H1,I1,r1,q1⟩=>?_) hs rfl));obtain⟨a,xs,ex,hq,q⟩:=q1;subst ex;cases r1 with
 |cons r rr =>
  cases rr;cases r;obtain⟨MJ,rv,p',hz⟩:=I1.list hq;refine call_enumerate_list p'.isList λh' he hit hsz hk=>wpAny_pyIter_enum he ?_;have I2:Inv X MG σ H1 {s1 with heap:=h'}:=I1.kept (t':=s1.toks) hk;refine⟨s1.heap.objs.size+1,[s1.heap.objs.size+1,s1.heap.objs.size],_,_,H1,rfl,I2,Az a (s1.heap.objs.size+1) s1.heap.objs.size,⟨⟨.none,he⟩,hit,Nat.succ_ne_self _⟩,λb hb=>?_,q⟩;have e':b=s1.heap.objs.size+1\/b=s1.heap.objs.size:=by simpa using hb
  have hle:s1.heap.objs.size<=b:=by
   rcases e' with z|z
   . rw[z];exact abh _ _
   rw[z];exact Y5 _
  exact I1.yu hle (I1.bw.fresh hle)
def AI:bootBuiltins "zip"=some (.type "zip"):=by decide +kernel
end L2
section
namespace SA
open PySem PyProof.Rows
end SA
end
section
namespace TL
open PySem PySem.Builtin PySem.Builtin.Str PySem.StrLaws
abbrev tl (x:Str):abA:=x.cps.toList
def mf (x:Str):x.length=(tl x).length:=by simp[tl,Str.length]
def xR {x y:Str}(h:tl x=tl y):x=y:=Str.ext' (Array.toList_inj.mp h)
def tE (x y:Str):tl (x++y)=tl x++tl y:=by show (x++y).cps.toList=_;rw[Str.cps_append,Array.toList_append]
theorem qx:∀{l m:List Str},l.map tl=m.map tl->l=m
 |[],[],_=>rfl|[],_::_,h=>by simp at h|_::_,[],h=>by simp at h|x::l,y::m,h=>by rw[Zb,Zb] at h;injection h with h1 h2;rw[xR h1,qx h2]
def iH (s:String):tl (Str.ofString s)=s.toList.map Char.toNat:=PyProof.Rows.signs_ofString s
def pre (S l:abA):Bool:=l.take S.length==S
def oO (S:abA):Nat->abA->abA->abz
 |_,acc,[]=>[acc]|0,acc,c::r=>if pre S (c::r)=true then acc::oO S (S.length - 1) [] r else oO S 0 (acc++[c]) r|k+1,acc,_::r=>oO S k acc r
def pE (S:abA)(k:Nat)(acc:abA):oO S k acc []=[acc]:=by cases k <;> rfl
def zh {S acc r:abA}{c:Nat}(h:pre S (c::r)=true):oO S 0 acc (c::r)=acc::oO S (S.length - 1) [] r:=by show (if pre S (c::r)=true then acc::oO S (S.length - 1) [] r else oO S 0 (acc++[c]) r)=_;rw[YY h]
def wD {S acc r:abA}{c:Nat}(h:pre S (c::r)=false):oO S 0 acc (c::r)=oO S 0 (acc++[c]) r:=by show (if pre S (c::r)=true then acc::oO S (S.length - 1) [] r else oO S 0 (acc++[c]) r)=_;rw[YX (by rw[h];exact Zi)]
theorem wj (S:abA):∀(k:Nat) (acc l:abA),oO S k acc l=oO S 0 acc (l.drop k)
 |0,_,_=>by rw[List.drop_zero]|k+1,acc,[]=>by rw[List.drop_nil,pE,pE]|k+1,acc,c::r=>by show oO S k acc r=oO S 0 acc (r.drop k);exact wj S k acc r
def jD {S:abA}(hS:S≠[]):pre S []=false:=by
 cases S with
 |nil=>exact absurd rfl hS|cons s S=>rfl
def wB {s c:Nat}(S r:abA)(h:c≠s):pre (s::S) (c::r)=false:=by
 cases hp:pre (s::S) (c::r) with
 |false=>rfl|true =>have e:(c::r).take (s::S).length=s::S:=aam hp;rw[Y7,List.take_succ_cons] at e;injection e with e1 e2;exact absurd e1 h
def mY {L:abA}{a:Nat}(h:a < L.length):∃c,L.drop a=c::L.drop (a+1):=⟨L[a],aaf h⟩
theorem vj (S L:abA):∀(m a:Nat) (acc:abA),a+m<=L.length->(∀k,a<=k->k < a+m->pre S (L.drop k)=false) ->
  oO S 0 acc (L.drop a)=oO S 0 (acc++(L.drop a).take m) (L.drop (a+m))
 |0,a,acc,_,_=>by rw[List.take_zero,ZW,Nat.add_zero]
 |m+1,a,acc,h,hn=>by
  have MN:a < L.length:=by omega
  obtain⟨c,e⟩:=mY MN;have h0:=hn a (Y5 _) (by omega);have ih:=vj S L m (a+1) (acc++[c]) (by omega) (λk h1 h2=>hn k (by omega) (by omega));have e2:a+1+m=a+(m+1):=by omega
  rw[e2] at ih;rw[e] at h0;rw[e,wD h0,ih,List.take_succ_cons,aal] <;> rfl
def Cd (L:abA)(a b:Nat):(L.drop a).drop b=L.drop (a+b):=by
 first
  |rw[List.drop_drop]|rw[List.drop_drop,Nat.add_comm]
def Jr {S L:abA}(hS:S≠[]){c:Nat}{acc:abA}(h:pre S (L.drop c)=true):oO S 0 acc (L.drop c)=acc::oO S 0 [] (L.drop (c+S.length)):=by
 rw[<-Cd];cases e:L.drop c with
 |nil=>rw[e,jD hS] at h;cases h
 |cons d r =>
  rw[e] at h;rw[zh h,wj];cases S with
  |nil=>exact absurd rfl hS|cons s S=>rfl
def C0 {x y:Str}(hy:tl y≠[])(i:Nat):At x y x.length i↔pre (tl y) ((tl x).drop i)=true:=by
 have hx:=mf x;have hl:=mf y;constructor
 . intro h;have h2:=h.2;rw[subAt_eq,hl] at h2;exact h2
 intro h;have e:((tl x).drop i).take (tl y).length=tl y:=aam h;have e1:=Z0 List.length e;rw[Zh,ZM] at e1;have e2:0 < (tl y).length:=ZY.mpr hy;refine⟨by omega,?_⟩;rw[subAt_eq,hl];exact h
def G_ {x y:Str}(hy:tl y≠[]){i:Nat}(h:¬At x y x.length i):pre (tl y) ((tl x).drop i)=false:=by
 cases hp:pre (tl y) ((tl x).drop i) with
 |false=>rfl|true=>exact absurd ((C0 hy i).mpr hp) h
def LY {y:Str}(hy:tl y≠[]):1<=y.length:=by have e2:0 < (tl y).length:=ZY.mpr hy;rw[mf y];exact e2
def tF (x:Str)(i j:Nat):tl (strSub x i j)=((tl x).drop i).take (j - i):=strSub_toList x i j
def sq (x:Str)(i:Nat):tl (strSub x i x.length)=(tl x).drop i:=by rw[tF,mf x];exact ZQ (by rw[ZM] <;> omega)
theorem tj {x y:Str}(hy:tl y≠[]):∀(Qc:abA) (a f:Nat),a<=(tl x).length->ChainG x y x.length a Qc f->(∀k,f<=k->¬At x y x.length k) ->
  (partsFrom x y.length a Qc).map tl=oO (tl y) 0 [] ((tl x).drop a)
 |[],a,f,ha,h,hn=>by
  have e:f=a:=h;subst e;show [tl (strSub x f x.length)]=_;have run:=vj (tl y) (tl x) ((tl x).length - f) f [] (by omega) (λk h1 _=>G_ hy (hn k h1));have e2:f+((tl x).length - f)=(tl x).length:=by omega
  rw[e2,aaK,pE,ZP,ZQ (by rw[ZM] <;> omega)] at run;rw[run,sq]
 |c::r,a,f,ha,h,hn=>by
  obtain⟨h1,h2,h3,h4⟩:=h;have hc:c+y.length<=x.length:=h2.1;have hx:=mf x;have hl:=mf y;have ih:=tj hy r (c+y.length) f (by omega) h4 hn;show tl (strSub x a c)::(partsFrom x y.length (c+y.length) r).map tl=_;have run:=vj (tl y) (tl x) (c - a) a [] (by omega) (λk k1 k2=>G_ hy (h3 k k1 (by omega)));have e2:a+(c - a)=c:=by omega
  rw[e2,ZP,Jr hy ((C0 hy c).mp h2)] at run;rw[run,ih,tF,hl]
def A9 (x y:Str)(hy:tl y≠[])(hk:¬Builtin.Str.strKind x < Builtin.Str.strKind y):(Txt.split x y).map tl=oO (tl y) 0 [] (tl x):=by
 obtain⟨f,g,hn⟩:=occ_tight x y (LY hy);have key:=tj hy _ 0 f (Zo _) g hn;rw[List.drop_zero] at key;have M6:occurrences x y 0 x.length (x.length+1)=[]->[x].map tl=oO (tl y) 0 [] (tl x):=λho=>by rw[ho] at key;rw[<-key];show [tl x]=[tl (strSub x 0 x.length)];rw[sub_whole]
 unfold Txt.split;by_cases h1:(decide (x.length < y.length)||decide (Builtin.Str.strKind x < Builtin.Str.strKind y))=true
 . rw[YY h1];have MN:x.length < y.length:=by
    simp only[ZU,Y4] at h1;rcases h1 with h|h
    . exact h
    exact absurd h hk
   refine M6 ?_;cases ho:occurrences x y 0 x.length (x.length+1) with
   |nil=>rfl|cons c r =>rw[ho] at g;have hc:c+y.length<=x.length:=g.2.1.1;omega
 rw[YX h1];by_cases h2:(occurrences x y 0 x.length (x.length+1)).isEmpty=true
 . rw[YY h2];exact M6 (aau.mp h2)
 rw[YX h2,partsBetween_eq];exact key
def Ey {x y:Str}(h:y.cps.all (· < 256)=true):¬Builtin.Str.strKind x < Builtin.Str.strKind y:=by
 have e:Builtin.Str.strKind y=1:=by unfold PySem.Builtin.Str.strKind;rw[YY h]
 rw[e];unfold PySem.Builtin.Str.strKind;split
 . omega
 split <;> omega
def d9 (S:abA):abz->abA
 |[]=>[]|[p]=>p|p::q::r=>p++(S++d9 S (q::r))
theorem zA (y:Str):∀parts:List Str,tl (Str.join y parts)=d9 (tl y) (parts.map tl)
 |[]=>rfl|[_]=>rfl|x::z::r=>by show tl (x++y++Str.join y (z::r))=tl x++(tl y++d9 (tl y) ((z::r).map tl));rw[tE,tE,zA y (z::r),aal]
def join_eq (y:Str)(parts:List Str):Txt.join y parts=Str.join y parts:=glued_eq_join y parts
end TL
end
namespace L2
open PySem PySem.Spec PyProof.Rows
theorem tq:∀l:List (Str×Tok),Vals ((l.map (·.1)).map V.str) (strValues l)
 |[]=>.nil|p::r=>.cons ⟨p.2,rfl⟩ (tq r)
theorem jE:∀{ys:List Str} {us:abF},Vals (ys.map V.str) us->StrsAre us ys
 |[],_,.nil=>.nil|y::ys,_,.cons r t=>by obtain⟨k,rfl⟩:=r;exact .cons y k (jE t)
def rM (ys:List Str):Hp->VK->Prop:=λH Q=>∀p,H p=none->Q (.ref p) (upd H p (.lst (ys.map V.str)))
section
variable {X:Cx}{MG:abE}{σ:St}{H:Hp}{s:Shared}{Q:VK}
def om {l:List (Str×Tok)} {ys:List Str} {k:Nat} (I:Inv X MG σ H s) (e:l.map (·.1)=ys) (hz:ys.length<=sizeLine) (h:rM ys H Q) :
  EP X MG σ Q (.ref s.heap.objs.size) {s with toks:=k,heap:=s.heap.push {cls:=.type "list",data:=.seq (strValues l).toArray}}:=by
 have hp:=I.bw.fresh (Y5 _);refine⟨.ref s.heap.objs.size,upd H s.heap.objs.size (.lst (ys.map V.str)),I.laid (λb u q=>YZ _ q) (Y5 _) ⟨by rw[YW];exact hz,strValues l,_,?_,Za _ rfl⟩,rfl,h _ hp⟩;rw[<-e];exact tq l
end
section
variable {X:Cx}
def Co:CY X "str.split" (λx xs H Q=>∃a b,x=.str a/\xs=[.str b]/\(b.length==0)=false/\a.length+2<=sizeLine/\rM (Txt.split a b) H Q):=by
 intro MG s σ H x xs v us Q I rx rs h;obtain⟨a,b,rfl,rfl,hb,hz,h⟩:=h;obtain⟨t,rfl⟩:=rx;cases rs with
 |cons r1 rs =>
  cases rs;obtain⟨u,rfl⟩:=r1;have hl:(Txt.split a b).length<=sizeLine:=ZH (PyProof.Rows.split_le a b) hz;have hn:(Builtin.Str.partsBetween a (Builtin.Str.occurrences a b 0 a.length (a.length+1)) b.length).length<=sizeLine:=by have e1:=StrLaws.occ_length_le a b 0 a.length (a.length+1);rw[length_partsBetween];omega
  cases h1:(decide (a.length < b.length)||decide (Builtin.Str.strKind a < Builtin.Str.strKind b))
  . cases hf:(Builtin.Str.occurrences a b 0 a.length (a.length+1)).isEmpty
    . refine call_meets F.slot_str_split (abf _ _ _) F.entry_str_split (F.args_str_split_2 _ _) (meets_str_split_sep a b t u h1 hb hf (by omega) hn) ?_;show EP X MG σ Q (.ref s.heap.objs.size) {s with toks:=_,heap:=s.heap.push {cls:=.type "list",data:=.seq (strsFrom s.toks (Builtin.Str.partsBetween a (Builtin.Str.occurrences a b 0 a.length (a.length+1)) b.length)).toArray}};rw[strsFrom_eq];exact om (ys:=Txt.split a b) I ((numbered_texts _ _).trans ((YX (ne_true_of_eq_false h1)).trans (YX (ne_true_of_eq_false hf))).symm) hl h
    refine call_meets F.slot_str_split (abf _ _ _) F.entry_str_split (F.args_str_split_2 _ _) (meets_str_split_not_found a b t u h1 hb hf) ?_;exact om (l:=[(a,t)]) (ys:=Txt.split a b) (k:=s.toks) I ((YX (ne_true_of_eq_false h1)).trans (YY hf)).symm hl h
  refine call_meets F.slot_str_split (abf _ _ _) F.entry_str_split (F.args_str_split_2 _ _) (meets_str_split_cannot_occur a b t u h1) ?_;exact om (l:=[(a,t)]) (ys:=Txt.split a b) (k:=s.toks) I (YY h1).symm hl h
def F_:CY X "str.join" (λx xs H Q=>∃a p,∃ys:List Str,x=.str a/\xs=[.ref p]/\(aP X.K H p (ys.map V.str)\/bY X.K H p (ys.map V.str)) /\
  (ys.map (·.length)).sum+ys.length*a.length<=16777216/\Q (.str (Txt.join a ys)) H):=by
 intro MG s σ H x xs v us Q I rx rs h;obtain⟨a,p,ys,rfl,rfl,hp,hz,h⟩:=h;obtain⟨t,rfl⟩:=rx;cases rs with
 |cons r1 rs =>
  cases rs;cases r1;rcases hp with hp|hp
  . obtain⟨MJ,r,⟨o,n,ho,hc,_,hd⟩,_⟩:=I.list hp;exact PyProof.Rows.join_list (items:=MJ.toArray) ⟨o,ho,hc,n,hd⟩ (by rw[List.toList_toArray];exact jE r) hz λt' k=>⟨.str _,H,I.tok k,⟨t',rfl⟩,h⟩
  obtain⟨MJ,r,ht,_⟩:=I.tuple hp;exact PyProof.Rows.join_tuple (items:=MJ.toArray) ht (by rw[List.toList_toArray];exact jE r) hz λt' k=>⟨.str _,H,I.tok k,⟨t',rfl⟩,h⟩
def Mx {id:String}{C:Str->Prop}{g:Str->V}(rule:∀(a:Str) (t:Tok) (s:Shared) (Q:abC),C a->(∀(u:Value) (k:Nat),RelV (g a) u->Q u {s with toks:=k}) ->
  wpAny (model X.prog X.w) X.A (call (.builtin id) [.str a t]) Q X.xe s):CY X id (λx xs H Q=>∃a,x=.str a/\xs=[]/\C a/\Q (g a) H):=by
 intro MG s σ H x xs v us Q I rx rs h;obtain⟨a,rfl,rfl,hc,h⟩:=h;obtain⟨t,rfl⟩:=rx;cases rs;exact rule a t s _ hc λu k r=>⟨g a,H,I.tok k,r,h⟩
def xO:CY X "str.isdigit" (λx xs H Q=>∃a,x=.str a/\xs=[]/\True/\Q (.bl (Txt.isdigit a)) H) :=
 Mx (C:=λ_=>True) (g:=λa=>.bl (Txt.isdigit a)) λ_ _ s _ _ h=>PySem.SC.isdigit (h _ s.toks rfl)
def MB {id:String}{g:Str->Str->V}(rule:∀(a b:Str) (t u:Tok) (s:Shared) (Q:abC),(∀(v:Value) (k:Nat),RelV (g a b) v->Q v {s with toks:=k}) ->
  wpAny (model X.prog X.w) X.A (call (.builtin id) [.str a t,.str b u]) Q X.xe s):CY X id (λx xs H Q=>∃a b,x=.str a/\xs=[.str b]/\Q (g a b) H):=by
 intro MG s σ H x xs v us Q I rx rs h;obtain⟨a,b,rfl,rfl,h⟩:=h;obtain⟨t,rfl⟩:=rx;cases rs with
 |cons r1 rs =>cases rs;obtain⟨u,rfl⟩:=r1;exact rule a b t u s _ λv k r=>⟨g a b,H,I.tok k,r,h⟩
def wL:CY X "str.endswith" (λx xs H Q=>∃a b,x=.str a/\xs=[.str b]/\Q (.bl (Txt.endswith a b)) H) :=
 MB (g:=λa b=>.bl (Txt.endswith a b)) λ_ _ _ _ s _ h=>PySem.SC.endswith (h _ s.toks rfl)
def vk:i5 X (.type "int") (λxs H Q=>∃a n,xs=[.str a]/\PySem.intText? a=some n/\a.length<=640/\Q (.int n) H):=by
 intro MG s σ H xs us Q I rs h;obtain⟨a,n,rfl,hn,hl,h⟩:=h;cases rs with
 |cons r1 rs =>cases rs;obtain⟨t,rfl⟩:=r1;exact PySem.W.KIN.call_text hn hl ⟨.int n,H,I.tok _,⟨_,rfl⟩,h⟩
end
section
variable {X:Cx}{o e:Expr}{to te:TE}
def Ma (r:V->List V->Hp->VK->Prop) (to:TE):TE:=λσ H Q=>to σ H λx H1=>(∃a,x=.str a)/\r x [] H1 Q
def Lj (r:V->List V->Hp->VK->Prop)(to te:TE):TE:=λσ H Q=>to σ H λx H1=>(∃a,x=.str a)/\te σ H1 λy H2=>r x [y] H2 Q
def J3 {id:String}{name:Str}{apos pos:Pos}{r:V->List V->Hp->VK->Prop}(slot:Slot "str" name id)(ty:typeOf (.builtin id)=pure (.type "method_descriptor"))(rule:CY X id r)(ho:PE X o to)
  (MV:attributeBase o name X.env (eval o X.env)=eval o X.env:=by rfl)(MW:(apos.endLine==pos.line)=true:=by rfl):PE X (.Call (.Attribute o name apos) [] [] pos) (Ma r to):=by
 intro MG s σ H Q I h;refine PySem.Call_method0 MV MW (bE (ho MG s σ H _ I h) λv s1 ⟨x,H1,I1,r1,q1⟩=>?_);obtain⟨⟨a,rfl⟩,q1⟩:=q1;obtain⟨t,rfl⟩:=_root_.id r1;exact⟨"str",_,F.plainAttrs_str,slot,ty,abf _ _ _,(λ_ e=>nomatch e),abd rfl (PySem.evalArgs_none (rule MG s1 σ H1 _ [] _ [] Q I1 r1 .nil q1))⟩
def BR {id:String}{name:Str}{apos pos:Pos}{r:V->List V->Hp->VK->Prop}(slot:Slot "str" name id)(ty:typeOf (.builtin id)=pure (.type "method_descriptor"))(rule:CY X id r)(ho:PE X o to)(he:PE X e te)
  (hs:starEach [e] X.env=[(false,eval e X.env)]:=by rfl)(MV:attributeBase o name X.env (eval o X.env)=eval o X.env:=by rfl)(MW:(apos.endLine==pos.line)=true:=by rfl) :
  PE X (.Call (.Attribute o name apos) [e] [] pos) (Lj r to te):=by
 intro MG s σ H Q I h;refine PySem.Call_method1 MV hs MW (bE (ho MG s σ H _ I h) λv s1 ⟨x,H1,I1,r1,q1⟩=>?_);obtain⟨⟨a,rfl⟩,q1⟩:=q1;obtain⟨t,rfl⟩:=_root_.id r1;refine⟨"str",_,F.plainAttrs_str,slot,ty,abf _ _ _,(λ_ e=>nomatch e),abd rfl (Calls.evalArgs_plain (aby ?_))⟩;exact bE (he MG s1 σ H1 _ I1 q1) λu s2 ⟨y,H2,I2,r2,q2⟩=>Calls.spliced_nil (rule MG s2 σ H2 _ [y] _ [u] Q I2 r1 (.cons r2 .nil) q2)
def nH {apos pos:Pos}(ho:PE X o to)(he:PE X e te)(hs:starEach [e] X.env=[(false,eval e X.env)]:=by rfl)(MV:attributeBase o "split" X.env (eval o X.env)=eval o X.env:=by rfl)(MW:(apos.endLine==pos.line)=true:=by rfl) :
  PE X (.Call (.Attribute o "split" apos) [e] [] pos) (Lj (λx xs H Q=>∃a b,x=.str a/\xs=[.str b]/\(b.length==0)=false/\a.length+2<=sizeLine/\rM (Txt.split a b) H Q) to te) :=
 BR F.slot_str_split F.type_str_split Co ho he hs MV MW
def El {apos pos:Pos}(ho:PE X o to)(he:PE X e te)(hs:starEach [e] X.env=[(false,eval e X.env)]:=by rfl)(MV:attributeBase o "join" X.env (eval o X.env)=eval o X.env:=by rfl)(MW:(apos.endLine==pos.line)=true:=by rfl) :
  PE X (.Call (.Attribute o "join" apos) [e] [] pos) (Lj (λx xs H Q=>∃a p,∃ys:List Str,x=.str a/\xs=[.ref p]/\(aP X.K H p (ys.map V.str)\/bY X.K H p (ys.map V.str)) /\
   (ys.map (·.length)).sum+ys.length*a.length<=16777216/\Q (.str (Txt.join a ys)) H) to te) :=
 BR F.slot_str_join F.type_str_join F_ ho he hs MV MW
end
section
variable {X:Cx}
def rV:jT X (compareOp .In) (λx y H Q=>∃(c:Nat) (z:Str),x=.str ⟨#[c]⟩/\y=.str z/\Q (.bl (decide (c∈z.cps.toList))) H):=by intro MG s σ H x y v u Q I rx ry h;obtain⟨c,z,rfl,rfl,q⟩:=h;obtain⟨t,rfl⟩:=rx;obtain⟨t',rfl⟩:=ry;exact PyProof.Rows.in_str (bu I q (PySem.StrLaws.found_one z c).symm)
def sk:jT X (compareOp .NotIn) (λx y H Q=>∃(c:Nat) (z:Str),x=.str ⟨#[c]⟩/\y=.str z/\Q (.bl (!decide (c∈z.cps.toList))) H):=by intro MG s σ H x y v u Q I rx ry h;obtain⟨c,z,rfl,rfl,q⟩:=h;obtain⟨t,rfl⟩:=rx;obtain⟨t',rfl⟩:=ry;exact PyProof.Rows.notIn_str (bu I q (Z0 Bool.not (PySem.StrLaws.found_one z c).symm))
end
def IsPart.raw {v:Value}{o:Option Int}(p:IsPart v o):∃l:Option (Int×Tok),v=partValue l/\l.map (·.1)=o:=by
 cases p with
 |none=>exact⟨none,rfl,rfl⟩|int i t=>exact⟨some (i,t),rfl,rfl⟩
def v9 (n d:Nat):Option Int->Int
 |none=>(d:Int)|some i=>max 0 (min (if i < 0 then i+(n:Int) else i) (n:Int))
def wo (n d:Nat)(o:Option Int):v9 n d o=((HT.cq n d o:Nat):Int):=by
 cases o with
 |none=>rfl
 |some v =>
  show max (0:Int) (min (if v < 0 then v+(n:Int) else v) (n:Int))=(((if v < 0 then (v+(n:Int)).toNat else min v.toNat n):Nat):Int);by_cases hv:v < 0
  . simp only[YY hv];omega
  simp only[YX hv];omega
def A4 (a b:Option Int)(n:Nat):Builtin.Str.strSliceIndices a b 1 n=sliceRange (v9 n 0 a) (v9 n n b) 1:=by
 have h1:((1:Int) > 0)=True:=by simp
 cases a <;> cases b <;> first
  |rfl|(simp only[Builtin.Str.strSliceIndices,v9,h1,aaB];rfl)|simp[Builtin.Str.strSliceIndices,v9]
def LP (a b:Option Int)(n:Nat):Builtin.Str.strSliceIndices a b 1 n=(List.range (HT.cq n n b - HT.cq n 0 a)).map (λk=>HT.cq n 0 a+k):=by
 rw[A4,wo,wo];generalize HT.cq n 0 a=p;generalize HT.cq n n b=q;simp only[sliceRange,show ((1:Int) > 0)=True from by simp,aaB];by_cases MN:(p:Int) < q
 . have e3:(((q:Int) - p+1 - 1) / 1).toNat=q - p:=by first|omega|(simp;done)|(simp;omega)
   simp only[MN,aaB,e3];refine ZN λk _=>?_;omega
 have:q - p=0:=by omega
 simp[MN,this]
def Bh (z:Str)(lo hi:Option Int):Str :=
 ⟨((z.cps.toList.drop (HT.cq z.length 0 lo)).take (HT.cq z.length z.length hi - HT.cq z.length 0 lo)).toArray⟩
def lG (z:Str)(lo hi:Option Int):PySem.StrLaws.sliceText z lo hi=Bh z lo hi:=by
 have h1:HT.cq z.length 0 lo<=z.length:=HT.yD _ _ (Zo _) _;have h2:HT.cq z.length z.length hi<=z.length:=HT.yD _ _ (Y5 _) _;have hp:HT.cq z.length 0 lo<=max (HT.cq z.length 0 lo) (HT.cq z.length z.length hi):=Nat.le_max_left _ _;have hq:max (HT.cq z.length 0 lo) (HT.cq z.length z.length hi)<=z.length:=Nat.max_le.mpr ⟨h1,h2⟩;have hd:max (HT.cq z.length 0 lo) (HT.cq z.length z.length hi) - HT.cq z.length 0 lo=HT.cq z.length z.length hi - HT.cq z.length 0 lo:=by omega
 have e:Builtin.Str.strSliceIndices lo hi 1 z.length =
   Builtin.Str.strSliceIndices (some ((HT.cq z.length 0 lo:Nat):Int)) (some ((max (HT.cq z.length 0 lo) (HT.cq z.length z.length hi):Nat):Int)) 1 z.length:=by
  rw[PySem.StrLaws.strSliceIndices_plain hp hq,hd,LP]
 have e2:PySem.StrLaws.sliceText z lo hi =
   PySem.StrLaws.sliceText z (some ((HT.cq z.length 0 lo:Nat):Int)) (some ((max (HT.cq z.length 0 lo) (HT.cq z.length z.length hi):Nat):Int)):=by
  unfold PySem.StrLaws.sliceText;rw[e]
 rw[e2,PySem.StrLaws.sliceText_nat z hp hq,hd];rfl
def oH (z:Str)(lo hi:Option Int):(Bh z lo hi).length<=z.length:=by show (((z.cps.toList.drop (HT.cq z.length 0 lo)).take (HT.cq z.length z.length hi - HT.cq z.length 0 lo)).toArray).size<=z.cps.size;rw[Zf,Zh,ZM,aaD];omega
def L3:V->Option Int->Option Int->Hp->VK->Prop:=λx lo hi H Q=>∃z,x=.str z/\z.length<=sizeLine/\Q (.str (Bh z lo hi)) H
def Im {X:Cx}:JO X L3:=by
 intro MG s σ H x v vl vu lo hi sl Q I rx hs pl pu h;obtain⟨z,rfl,hz,q⟩:=h;obtain⟨t,rfl⟩:=rx;obtain⟨os,Oe,OY,OZ⟩:=hs;obtain⟨l,rfl,rfl⟩:=IsPart.raw pl;obtain⟨u,rfl,rfl⟩:=IsPart.raw pu;refine⟨"str",_,F.slot_str_getitem.lookup,abf _ _ _,?_⟩;refine wpAny_getItem_str_slice (l:=l) (u:=u) (st:=none) ⟨os,Oe,OY,OZ⟩ rfl ?_;have hl:(PySem.StrLaws.sliceText z (l.map (·.1)) (u.map (·.1))).length<=sizeLine:=by rw[lG];exact ZH (oH z _ _) hz
 rw[<-lG] at q;unfold PySem.StrLaws.sliceText at q hl;show Made.post (if ((1:Int)==1&&(Builtin.Str.strSliceIndices (l.map (·.1)) (u.map (·.1)) 1 z.length).length==z.length)=true then Made.val (.str z t)
  else Made.str ⟨((Builtin.Str.strSliceIndices (l.map (·.1)) (u.map (·.1)) 1 z.length).filterMap (z.cps[·]?)).toArray⟩) (EP X MG σ Q) s
 by_cases c:((1:Int)==1&&(Builtin.Str.strSliceIndices (l.map (·.1)) (u.map (·.1)) 1 z.length).length==z.length)=true
 . rw[YY c] at q ⊢;exact⟨.str z,H,I,⟨t,rfl⟩,q⟩
 rw[YX c] at q hl ⊢;exact⟨hl,.str _,H,I.tok _,⟨_,rfl⟩,q⟩
end L2
namespace Att
open PySem PySem.W PySem.Calls PyProof.Rows
section
variable {prog:Program}{w:World}{A:Around}{E:abC}{s:Shared}{K:Frag}
end
end Att
namespace L2
open PySem PySem.Spec PyProof.Rows
end L2
section
set_option Elab.async false
set_option linter.all false
set_option maxRecDepth 100000
set_option maxHeartbeats 2000000
namespace L2
open PySem PySem.Spec PyProof.Rows
open PySem.W (WData Codec OpenSpec Well WellAll ReadsW ReadsAllW)
mutual
inductive Dw (K:abB)(H:Hp):V->WData->Prop
 |cv:Dw K H .cv .none|bl (b:Bool):Dw K H (.bl b) (.bool b)|int (i:Int):Dw K H (.int i) (.int i)|str (x:Str):Dw K H (.str x) (.str x)|xq (b:Array UInt8):Dw K H (.xq b) (.bytes b.toList)|lst {a:Addr} {xs:List V} {ds:List WData}:aP K H a xs->iB K H xs ds->Dw K H (.ref a) (.list ds)|tup {a:Addr} {xs:List V} {ds:List WData}:bY K H a xs->iB K H xs ds->Dw K H (.ref a) (.tuple ds)
inductive iB (K:abB)(H:Hp):List V->List WData->Prop
 |nil:iB K H [] []|cons {v:V} {vs:List V} {d:WData} {ds:List WData}:Dw K H v d->iB K H vs ds->iB K H (v::vs) (d::ds)
end
theorem zL {K:abB}{H:Hp}:∀ns:List Int,iB K H (ns.map V.int) (ns.map WData.int)
 |[]=>.nil|n::r=>.cons (.int n) (zL r)
theorem uG {K:abB}{H:Hp}:∀(ns:List Int) (xs:List V),iB K H xs (ns.map WData.int)->xs=ns.map V.int
 |[],xs,h=>by cases h;rfl
 |n::r,xs,h=>by
  cases h with
  |cons h1 h2 =>cases h1;rw[uG r _ h2] <;> rfl
section
variable {P:Program}{w:World}{K:abB}{H:Hp}{h:Heap}{R:PySem.W.WRecords}{cl:Str->Option Addr}
def IJ {a:Addr} {xs:List V} (bw:iO P w H h) (KX:K.In h) (q:aP K H a xs):∃(MJ:abF) (o:Obj) (n:Nat),Vals xs MJ/\h.get? a=some o/\o.cls=.type "list"/\o.data=.seq MJ.toArray n:=by
 rcases q with q|⟨o,MJ,n,e,hc,_,hd,_,hv⟩
 . obtain⟨_,MJ,n,hv,e⟩:=(show bL P w H h a (.lst xs) from q.ok bw);exact⟨MJ,_,n,hv,e,rfl,rfl⟩
 exact⟨MJ.toList,o,n,hv,KX _ _ e,hc,by simp[hd]⟩
def Jd {a:Addr}{xs:List V}(bw:iO P w H h)(KX:K.In h)(q:bY K H a xs):∃(MJ:abF) (o:Obj) (n:Nat),Vals xs MJ/\h.get? a=some o/\o.cls=.type "tuple"/\o.data=.seq MJ.toArray n:=by
 rcases q with q|⟨o,MJ,n,e,hc,hd,_,hv⟩
 . obtain⟨_,MJ,hv,o,e,hc,n,hd⟩:=(show bL P w H h a (.tup xs) from q.ok bw);exact⟨MJ,o,n,hv,e,hc,hd⟩
 exact⟨MJ.toList,o,n,hv,KX _ _ e,hc,by simp[hd]⟩
mutual
theorem Dw.reads (bw:iO P w H h)(KX:K.In h):∀(d:WData) (v:V) (u:Value),Dw K H v d->RelV v u->∃as,ReadsW R cl h u d as
 |.none,_,_,x,r=>by cases x;cases r;exact⟨_,ReadsW.none⟩|.bool b,_,_,x,r=>by cases x;cases r;exact⟨_,ReadsW.bool b⟩|.int i,_,_,x,r=>by cases x;obtain⟨t,rfl⟩:=r;exact⟨_,ReadsW.int i t⟩
 |.str s,_,_,x,r=>by cases x;obtain⟨t,rfl⟩:=r;exact⟨_,ReadsW.str s t⟩
 |.bytes b,_,_,x,r=>by cases x;obtain⟨t,rfl⟩:=r;exact⟨_,ReadsW.bytes _ t⟩
 |.list ds,_,_,x,r=>by
  cases x with
  |lst hs ha =>cases r;obtain⟨MJ,o,n,rv,ho,hc,hd⟩:=IJ bw KX hs;obtain⟨as,hr⟩:=Dw.readsAll bw KX ds _ MJ ha rv;exact⟨_,ReadsW.list ho hc hd hr⟩
 |.tuple ds,_,_,x,r=>by
  cases x with
  |tup hs ha =>cases r;obtain⟨MJ,o,n,rv,ho,hc,hd⟩:=Jd bw KX hs;obtain⟨as,hr⟩:=Dw.readsAll bw KX ds _ MJ ha rv;exact⟨_,ReadsW.tuple ho hc hd hr⟩
 |.float _,_,_,x,_=>by cases x|.dict _,_,_,x,_=>by cases x|.bytearray _,_,_,x,_=>by cases x|.set _,_,_,x,_=>by cases x|.frozenset _,_,_,x,_=>by cases x|.obj _ _,_,_,x,_=>by cases x
theorem Dw.readsAll (bw:iO P w H h)(KX:K.In h):∀(ds:List WData) (vs:List V) (us:abF),iB K H vs ds->Vals vs us->∃as,ReadsAllW R cl h us ds as
 |[],_,_,x,r=>by cases x;cases r;exact⟨_,ReadsAllW.nil⟩
 |d::ds,_,_,x,r=>by
  cases x with
  |cons h1 h2 =>
   cases r with
   |cons r1 r2 =>obtain⟨as,q1⟩:=Dw.reads bw KX d _ _ h1 r1;obtain⟨bs,q2⟩:=Dw.readsAll bw KX ds _ _ h2 r2;exact⟨_,ReadsAllW.cons q1 q2⟩
end
end
mutual
def Aa:WData->Bool
 |.none=>true|.bool _=>true|.int _=>true|.str _=>true|.bytes _=>true|.list xs=>o6 xs|.tuple xs=>o6 xs|_=>false
def o6:List WData->Bool
 |[]=>true|x::r=>Aa x&&o6 r
end
theorem vE {α:Type}{f:α->WData}(h:∀a,Aa (f a)=true):∀l:List α,o6 (l.map f)=true
 |[]=>rfl|x::r=>by show (Aa (f x)&&o6 (r.map f))=true;rw[h x,vE h r] <;> rfl
theorem j8:∀(c:Codec) (a:c.denote),Aa (c.enc a)=true
 |.unit,_=>rfl|.bool,_=>rfl|.int _ _,_=>rfl|.nat _ _,_=>rfl|.u8,_=>rfl|.bytes _ _,_=>rfl|.text _ _ _ _,_=>rfl|.list _ _ c,a=>vE (λx=>j8 c x) a|.pair c d,a=>by show (Aa (c.enc a.1)&&(Aa (d.enc a.2)&&true))=true;rw[j8 c a.1,j8 d a.2] <;> rfl|.triple c d e,a=>by show (Aa (c.enc a.1)&&(Aa (d.enc a.2.1)&&(Aa (e.enc a.2.2)&&true)))=true;rw[j8 c a.1,j8 d a.2.1,j8 e a.2.2] <;> rfl|.option c,none=>rfl|.option c,some x=>j8 c x
theorem tZ:∀(cs:List Codec) (a:Codec.denoteAll cs),o6 (Codec.encAll cs a)=true
 |[],_=>rfl|c::cs,a=>by show (Aa (c.enc a.1)&&o6 (Codec.encAll cs a.2))=true;rw[j8 c a.1,tZ cs a.2] <;> rfl
theorem mi:∀{xs:List WData} {d:WData},d∈xs->d.weight<=WData.weightAll xs
 |[],d,h=>absurd h (by simp)
 |x::r,d,h=>by
  show d.weight<=x.weight+1+WData.weightAll r;rcases Y0.mp h with e|m
  . rw[e];omega
  have z:=mi m;omega
def toV:Value->V
 |.none=>.cv|.bool b=>.bl b|.int i _=>.int i|.str x _=>.str x|.bytes b _=>.xq b|.ref a=>.ref a|_=>.cv
def Ay (A:List Addr):Value->Prop
 |.none=>True|.bool _=>True|.int _ _=>True|.str _ _=>True|.bytes _ _=>True|.ref a=>a∈A|_=>False
def Ay.mono {A B:List Addr}(h:∀a∈A,a∈B):∀{u:Value},Ay A u->Ay B u:=λ{u} x=>by
 cases u with
 |ref a=>exact h a x|none=>trivial|bool b=>trivial|int i t=>trivial|str s t=>trivial|bytes b t=>trivial|_=>exact False.elim x
def C3 {A:List Addr}{u:Value}(x:Ay A u):RelV (toV u) u:=by
 cases u with
 |ref a=>rfl|none=>rfl|bool b=>rfl|int i t=>exact⟨t,rfl⟩|str s t=>exact⟨t,rfl⟩|bytes b t=>exact⟨t,rfl⟩|_=>exact False.elim x
theorem iU {A:List Addr}:∀{vs:abF},(∀u∈vs,Ay A u)->Vals (vs.map toV) vs
 |[],_=>.nil|u::r,h=>.cons (C3 (h u (ZG ..))) (iU λx hx=>h x (Zc _ hx))
def jL (h:Heap)(A:List Addr)(a:Addr):Prop:=∃vs:abF,vs.length<=sizeLine/\(∀u∈vs,Ay A u) /\
 (h.get? a=some {cls:=.type "list",data:=.seq vs.toArray}\/h.get? a=some {cls:=.type "tuple",data:=.seq vs.toArray})
theorem jL.mono {h:Heap}{A B:List Addr}{a:Addr}(k:∀a∈A,a∈B)(x:jL h A a):jL h B a:=by obtain⟨vs,h1,h2,h3⟩:=x;exact⟨vs,h1,λu hu=>(h2 u hu).mono k,h3⟩
theorem ik {P:Params}{h:Heap}:∀{vs:abF} {ds:List WData},WellAll P h vs ds->vs.length=ds.length
 |_,_,.nil=>rfl|_,_,.cons _ b=>by show _+1=_+1;rw[ik b]
def sD {P:Params}{h:Heap}{v:Value}{ds:List WData}(x:Well P h v (.list ds)):∃(a:Addr) (vs:abF),v=.ref a/\h.get? a=some {cls:=.type "list",data:=.seq vs.toArray}/\WellAll P h vs ds:=by
 cases x with
 |list ho MU=>exact⟨_,_,rfl,ho,MU⟩
def p8 {P:Params}{h:Heap}{v:Value}{ds:List WData}(x:Well P h v (.tuple ds)):∃(a:Addr) (vs:abF),v=.ref a/\h.get? a=some {cls:=.type "tuple",data:=.seq vs.toArray}/\WellAll P h vs ds:=by
 cases x with
 |tuple ho MU=>exact⟨_,_,rfl,ho,MU⟩
def tM {P:Params}{h:Heap}{us:abF}{d:WData}{ds:List WData}(x:WellAll P h us (d::ds)):∃(v:Value) (vs:abF),us=v::vs/\Well P h v d/\WellAll P h vs ds:=by
 cases x with
 |cons a b=>exact⟨_,_,rfl,a,b⟩
def zf {n:Nat}(h:n<=1048576):n<=sizeLine:=ZH h (by decide)
section
variable {P:Params}{h:Heap}
mutual
theorem C6:∀(d:WData) (v:Value),Well P h v d->Aa d=true->d.weight<=1048576->∃A:List Addr,Ay A v/\∀a∈A,jL h A a
 |.none,_,x,_,_=>by cases x;exact⟨[],trivial,λa m=>absurd m (by simp)⟩|.bool b,_,x,_,_=>by cases x;exact⟨[],trivial,λa m=>absurd m (by simp)⟩|.int i,_,x,_,_=>by cases x;exact⟨[],trivial,λa m=>absurd m (by simp)⟩|.str s,_,x,_,_=>by cases x;exact⟨[],trivial,λa m=>absurd m (by simp)⟩|.bytes b,_,x,_,_=>by cases x;exact⟨[],trivial,λa m=>absurd m (by simp)⟩
 |.list ds,_,x,p,z=>by
  obtain⟨a,vs,rfl,ho,MU⟩:=sD x;have z2:WData.weightAll ds<=1048576:=z;obtain⟨A,h1,h2⟩:=mH ds _ MU p λd hd=>ZH (mi hd) z2;have k:∀b∈A,b∈a::A:=λb hb=>Zc _ hb;refine⟨a::A,ZG ..,λb hb=>?_⟩;rcases Y0.mp hb with e|m
  . rw[e];exact⟨vs,zf (by rw[ik MU];exact ZH (PySem.W.length_le_weightAllW ds) z2),λu hu=>(h1 u hu).mono k,.inl ho⟩
  exact (h2 b m).mono k
 |.tuple ds,_,x,p,z=>by
  obtain⟨a,vs,rfl,ho,MU⟩:=p8 x;have z2:WData.weightAll ds<=1048576:=z;obtain⟨A,h1,h2⟩:=mH ds _ MU p λd hd=>ZH (mi hd) z2;have k:∀b∈A,b∈a::A:=λb hb=>Zc _ hb;refine⟨a::A,ZG ..,λb hb=>?_⟩;rcases Y0.mp hb with e|m
  . rw[e];exact⟨vs,zf (by rw[ik MU];exact ZH (PySem.W.length_le_weightAllW ds) z2),λu hu=>(h1 u hu).mono k,.inr ho⟩
  exact (h2 b m).mono k
 |.float _,_,_,p,_=>Bool.noConfusion (show false=true from p)|.dict _,_,_,p,_=>Bool.noConfusion (show false=true from p)|.bytearray _,_,_,p,_=>Bool.noConfusion (show false=true from p)|.set _,_,_,p,_=>Bool.noConfusion (show false=true from p)|.frozenset _,_,_,p,_=>Bool.noConfusion (show false=true from p)|.obj _ _,_,_,p,_=>Bool.noConfusion (show false=true from p)
theorem mH:∀(ds:List WData) (vs:abF),WellAll P h vs ds->o6 ds=true->(∀d∈ds,d.weight<=1048576)->∃A:List Addr,(∀u∈vs,Ay A u)/\∀a∈A,jL h A a
 |[],_,x,_,_=>by cases x;exact⟨[],λu m=>absurd m (by simp),λa m=>absurd m (by simp)⟩
 |d::ds,_,x,p,z=>by
  obtain⟨v,vs,rfl,x1,x2⟩:=tM x;have q:Aa d=true/\o6 ds=true:=abl.mp p;obtain⟨A,a1,a2⟩:=C6 d v x1 q.1 (z d (ZG ..));obtain⟨B,b1,b2⟩:=mH ds vs x2 q.2 λe he=>z e (Zc _ he);have kA:∀b∈A,b∈A++B:=λb hb=>ZJ.mpr (.inl hb);have kB:∀b∈B,b∈A++B:=λb hb=>ZJ.mpr (.inr hb);refine⟨A++B,λu hu=>?_,λb hb=>?_⟩
  . rcases Y0.mp hu with e|m
    . rw[e];exact a1.mono kA
    exact (b1 u m).mono kB
  rcases ZJ.mp hb with m|m
  . exact (a2 b m).mono kA
  exact (b2 b m).mono kB
end
end
def EJ (o:Obj):Option HO:=match o.data with
 |.seq vs _=>if (o.cls==Value.type "list")=true then some (.frz o (.lst (vs.toList.map toV))) else some (.frz o (.tup (vs.toList.map toV)))|_=>none
def jh (K:abB)(h:Heap)(A:List Addr):Hp:=λb=>if b∈A then (if (K.lookup b).isNone=true then (h.get? b).bind EJ else none) else none
def wU (H:Hp):Prop:=∀b,H b=none\/∃o u,H b=some (.frz o u)
def vK (vs:abF):EJ {cls:=.type "list",data:=.seq vs.toArray}=some (.frz {cls:=.type "list",data:=.seq vs.toArray} (.lst (vs.map toV))):=by show (if (Value.type "list"==Value.type "list")=true then some (HO.frz {cls:=.type "list",data:=.seq vs.toArray} (.lst (vs.toArray.toList.map toV))) else some (HO.frz {cls:=.type "list",data:=.seq vs.toArray} (.tup (vs.toArray.toList.map toV))))=_;rw[YY (beq_self_eq_true _)]
def vN (vs:abF):EJ {cls:=.type "tuple",data:=.seq vs.toArray}=some (.frz {cls:=.type "tuple",data:=.seq vs.toArray} (.tup (vs.map toV))):=by show (if (Value.type "tuple"==Value.type "list")=true then some (HO.frz {cls:=.type "tuple",data:=.seq vs.toArray} (.lst (vs.toArray.toList.map toV))) else some (HO.frz {cls:=.type "tuple",data:=.seq vs.toArray} (.tup (vs.toArray.toList.map toV))))=_;rw[YX (by decide)]
section
variable {P:Program}{w:World}{K:abB}{h:Heap}{A:List Addr}
def pF {b:Addr} {o:Obj} (hb:b∈A) (hk:K.lookup b=none) (e:h.get? b=some o):jh K h A b=EJ o:=by unfold jh;rw[YY hb,hk,YY (show (none:Option Obj).isNone=true from rfl),e] <;> rfl
def Gq {b:Addr}{u:HO}(q:jh K h A b=some u):b∈A/\K.lookup b=none:=by
 unfold jh at q;by_cases hb:b∈A
 . rw[YY hb] at q;cases hk:K.lookup b with
   |none=>exact⟨hb,rfl⟩|some o =>rw[hk,YX (by simp)] at q;cases q
 rw[YX hb] at q;cases q
def pG (ar:∀a∈A,jL h A a){b:Addr}{u:HO}(q:jh K h A b=some u):K.lookup b=none/\∃vs:abF,vs.length<=sizeLine/\(∀u∈vs,Ay A u) /\
  ((h.get? b=some {cls:=.type "list",data:=.seq vs.toArray}/\u=.frz {cls:=.type "list",data:=.seq vs.toArray} (.lst (vs.map toV))) \/
   (h.get? b=some {cls:=.type "tuple",data:=.seq vs.toArray}/\u=.frz {cls:=.type "tuple",data:=.seq vs.toArray} (.tup (vs.map toV)))):=by
 obtain⟨hb,hk⟩:=Gq q;obtain⟨vs,h1,h2,h3⟩:=ar b hb;refine⟨hk,vs,h1,h2,?_⟩;rcases h3 with e|e
 . rw[pF hb hk e,vK] at q;exact .inl ⟨e,(Zw q).symm⟩
 rw[pF hb hk e,vN] at q;exact .inr ⟨e,(Zw q).symm⟩
def AD (ar:∀a∈A,jL h A a):wU (jh K h A):=λb=>by
 cases q:jh K h A b with
 |none=>exact .inl rfl
 |some u =>
  obtain⟨_,vs,_,_,⟨_,e⟩|⟨_,e⟩⟩:=pG ar q
  . exact .inr ⟨_,_,by rw[e]⟩
  exact .inr ⟨_,_,by rw[e]⟩
def Gg (ar:∀a∈A,jL h A a):iO P w (jh K h A) h:=λb u q=>by
 obtain⟨_,vs,h1,h2,⟨e,rfl⟩|⟨e,rfl⟩⟩:=pG ar q
 . exact⟨e,by rw[YW];exact h1,vs,_,iU h2,e⟩
 exact⟨e,by rw[YW];exact h1,vs,iU h2,_,e,rfl,_,rfl⟩
def pJ {c c':Value}{vs us:abF}(e:(some {cls:=c,data:=.seq vs.toArray}:Option Obj)=some {cls:=c',data:=.seq us.toArray}):c=c'/\vs=us:=by have e1:=Zw e;have e2:c=c':=Z0 Obj.cls e1;have e3:Data.seq vs.toArray=Data.seq us.toArray:=Z0 Obj.data e1;injection e3 with e4;refine⟨e2,?_⟩;have e5:=Z0 Array.toList e4;simpa using e5
def LW (KX:K.In h)(ar:∀a∈A,jL h A a){a:Addr}{vs:abF}(ha:a∈A)(e:h.get? a=some {cls:=.type "list",data:=.seq vs.toArray}):(∀u∈vs,Ay A u)/\aP K (jh K h A) a (vs.map toV):=by
 obtain⟨us,h1,h2,h3⟩:=ar a ha;have hu:us=vs:=by
  rcases h3 with q|q
  . rw[e] at q;exact (pJ q).2.symm
  rw[e] at q;exact absurd (Value.type.inj (pJ q).1) (by decide)
 subst hu;refine⟨h2,?_⟩;cases hk:K.lookup a with
 |none=>exact .inl (.inr ⟨_,by rw[pF ha hk e,vK]⟩)|some o =>have e2:=KX a o hk;rw[e] at e2;obtain rfl:=Zw e2;exact .inr ⟨_,us.toArray,_,hk,rfl,rfl,rfl,by rw[Zf];exact h1,by simpa using iU h2⟩
def LM (KX:K.In h)(ar:∀a∈A,jL h A a){a:Addr}{vs:abF}(ha:a∈A)(e:h.get? a=some {cls:=.type "tuple",data:=.seq vs.toArray}):(∀u∈vs,Ay A u)/\bY K (jh K h A) a (vs.map toV):=by
 obtain⟨us,h1,h2,h3⟩:=ar a ha;have hu:us=vs:=by
  rcases h3 with q|q
  . rw[e] at q;exact absurd (Value.type.inj (pJ q).1) (by decide)
  rw[e] at q;exact (pJ q).2.symm
 subst hu;refine⟨h2,?_⟩;cases hk:K.lookup a with
 |none=>exact .inl (.inr ⟨_,by rw[pF ha hk e,vN]⟩)|some o =>have e2:=KX a o hk;rw[e] at e2;obtain rfl:=Zw e2;exact .inr ⟨_,us.toArray,_,hk,rfl,rfl,by rw[Zf];exact h1,by simpa using iU h2⟩
mutual
theorem HD {Pm:Params}(KX:K.In h)(ar:∀a∈A,jL h A a):∀(d:WData) (v:Value),Well Pm h v d->Aa d=true->Ay A v->Dw K (jh K h A) (toV v) d
 |.none,_,x,_,_=>by cases x;exact .cv|.bool b,_,x,_,_=>by cases x;exact .bl b|.int i,_,x,_,_=>by cases x;exact .int i|.str s,_,x,_,_=>by cases x;exact .str s|.bytes b,_,x,_,_=>by cases x;have z:=Dw.xq (K:=K) (H:=jh K h A) b.toArray;exact z|.list ds,_,x,p,hu=>by obtain⟨a,vs,rfl,ho,MU⟩:=sD x;obtain⟨h2,hs⟩:=LW KX ar hu ho;exact .lst hs (uw KX ar ds _ MU p h2)
 |.tuple ds,_,x,p,hu=>by obtain⟨a,vs,rfl,ho,MU⟩:=p8 x;obtain⟨h2,hs⟩:=LM KX ar hu ho;exact .tup hs (uw KX ar ds _ MU p h2)
 |.float _,_,_,p,_=>Bool.noConfusion (show false=true from p)|.dict _,_,_,p,_=>Bool.noConfusion (show false=true from p)|.bytearray _,_,_,p,_=>Bool.noConfusion (show false=true from p)|.set _,_,_,p,_=>Bool.noConfusion (show false=true from p)|.frozenset _,_,_,p,_=>Bool.noConfusion (show false=true from p)|.obj _ _,_,_,p,_=>Bool.noConfusion (show false=true from p)
theorem uw {Pm:Params}(KX:K.In h)(ar:∀a∈A,jL h A a):∀(ds:List WData) (vs:abF),WellAll Pm h vs ds->o6 ds=true->(∀u∈vs,Ay A u)->iB K (jh K h A) (vs.map toV) ds
 |[],_,x,_,_=>by cases x;exact .nil|d::ds,_,x,p,hu=>by obtain⟨v,vs,rfl,x1,x2⟩:=tM x;have q:Aa d=true/\o6 ds=true:=abl.mp p;exact .cons (HD KX ar d v x1 q.1 (hu _ (ZG ..))) (uw KX ar ds vs x2 q.2 λu m=>hu u (Zc _ m))
end
end
def AE {P:Program}{w:World}{K:abB}{mg mb:abD}{CX:mU}{k:Nat}{fa:Addr}{fd:FuncData}{ps:List Str}{sp:Sp}{s₁:Shared}{vals:abF}{ds:List WData}{R:PySem.W.WRecords}{cl:Str->Option Addr}{d0:WData}
  (KX:K.In s₁.heap)(Qe:s₁.heap.Ns mainGlobals mg)(hb:s₁.heap.Ns builtinsNs mb)(WW:∀x:Str,x≠"__name__"->mb x=bootBuiltins x)(SD:s₁.heap.NoLimit)(hg:s₁.gens=#[])
  (N5:WellAll w.params s₁.heap vals ds)(MR:o6 ds=true)(WX:∀d∈ds,d.weight<=1048576)(hr:cU k callerA)
  (F:∀MH:Heap,K.In MH->MH.Ns mainGlobals mg->a8 P w K mg MH CX k fa fd ps sp)(Qg:∀(s:Shared) (us:abF),us.length=ps.length->BindsTo s fd ⟨us,[]⟩ (ps.zip us))(hlen:ds.length=ps.length)
  (Nj:∀(H:Hp) (xs:List V),wU H->iB K H xs ds->sp xs H (λv H'=>Dw K H' v d0) λ_ _ _=>False)
  (Qh:∀H e s',CX [] H s₁ (λ_ _ _=>False) e s'->False) :
  codeAny (model P w) callerA (.call (.ref fa) ⟨vals,[]⟩) (λr s'=>∃u as,r=.ok (.ret u)/\ReadsW R cl s'.heap u d0 as/\OldK s₁.heap s'.heap/\s'.os=s₁.os/\AllBare s'.gens) s₁:=by
 obtain⟨A,ho,ar⟩:=mH ds vals N5 MR WX;have hO:wU (jh K s₁.heap A):=AD ar;have bw:iO P w (jh K s₁.heap A) s₁.heap:=Gg ar;have hS:=uw KX ar ds vals N5 MR ho;have hV:=iU ho;have hK:∀b u,jh K s₁.heap A b=some u->K.lookup b=none:=λb u q=>(pG ar q).1;have Pl:∀{b:Addr} {o:Obj} {es:Array DictEntry} {ep:Nat},s₁.heap.get? b=some o->o.data=.dict es ep->jh K s₁.heap A b=none:=λ{b o es ep} e d=>by
  cases q:jh K s₁.heap A b with
  |none=>rfl
  |some u =>
   obtain⟨_,vs,_,_,⟨e2,_⟩|⟨e2,_⟩⟩:=pG ar q
   . rw[e2] at e;cases e;have d':Data.seq vs.toArray _=Data.dict es ep:=d;cases d'
   rw[e2] at e;cases e;have d':Data.seq vs.toArray _=Data.dict es ep:=d;cases d'
 generalize jh K s₁.heap A=H at hO bw hS hK Pl;have Nz:∀{b:Addr} {o:Obj},s₁.heap.get? b=some o->H b=none->(um s₁.heap H).get? b=some o:=λe n=>DE e n;have D6:∀{b:Addr} {m:abD},s₁.heap.Ns b m->(um s₁.heap H).Ns b m:=λ{b m} ⟨o,es,ep,e,d,r⟩=>⟨o,es,ep,Nz e (Pl e d),d,r⟩;have nK:∀b o,K.lookup b=some o->H b=none:=λb o e=>by
  cases q:H b with
  |none=>rfl|some u =>rw[hK b u q] at e;cases e
 have Uz:K.In (um s₁.heap H):=λb o e=>Nz (KX b o e) (nK b o e);have hM:Mod K mg (um s₁.heap H):=⟨Uz,D6 Qe,⟨mb,D6 hb,WW⟩,let ⟨mc,h1,h2⟩:=SD;⟨mc,D6 h1,h2⟩⟩;have e0:yP P w K mg (um s₁.heap H) callerA [] s₁ H:=⟨rfl,hM,λb o e=>Eo e,abt (A3 _ _),trivial,λb hb=>absurd (show b∈([]:List Addr) from hb) (by simp),bw,.of_eq hg⟩;have hl:vals.length=ps.length:=by rw[ik N5];exact hlen
 refine abq ((F _ Uz (D6 Qe)).run callerA [] s₁ H ⟨vals,[]⟩ vals (vals.map toV) _ _ hr e0 (Qg s₁ vals hl) hV (Nj H _ hO hS)) λr s' x=>?_;cases r with
 |error e=>exact (Qh H e s' x).elim
 |ok fl =>
  cases fl with
  |next=>exact False.elim x|brk=>exact False.elim x|cont=>exact False.elim x
  |ret u =>
   obtain⟨v,H',os,bare,un,Qi,r',q⟩:=x;have kept:∀b o,s₁.heap.get? b=some o->s'.heap.get? b=some o:=λb o e=>by
    cases q2:H b with
    |none=>exact un.keep b o e q2 (by intro z;exact absurd (show b∈([]:List Addr) from z) (by simp)) (by simp)
    |some u2 =>
     rcases hO b with z|⟨ob,u3,z⟩
     . rw[q2] at z;cases z
     have z2:=un.nP b ob _ z;obtain⟨e1,_⟩:=bw b _ z;obtain⟨e2,_⟩:=Qi b _ z2;rw[e] at e1;cases e1;exact e2
   have WY:K.In s'.heap:=λb o e=>kept b o (KX b o e);obtain⟨as,UA⟩:=Dw.reads (R:=R) (cl:=cl) Qi WY d0 v u q r';exact⟨u,as,rfl,UA,OldK.of_keep kept,os,bare⟩
def qS {ds:List WData}(h:WData.layableAll ds=true):∀d∈ds,d.weight<=1048576:=λd hd =>(PySem.W.layableW_iff.mp (Zn.mp h d hd)).2.2
theorem pX:∀(cs:List Codec) (a:Codec.denoteAll cs),(Codec.encAll cs a).length=cs.length
 |[],_=>rfl|c::cs,a=>by show (Codec.encAll cs a.2).length+1=cs.length+1;rw[pX cs a.2]
def AY {r:OpenSpec}{k:Nat}{q:Program}{loose:List Str}{XP:(Str->Option Value)->Heap->Prop}{YP:World->Heap->Prop}{d:DefRec}{K:Params->abB}{CX:World->mU}{ps:List Str}{sp:World->Sp}
  (NQ:r.wellSaid=true)(UB:d.params.defaults=[])(hlen:r.args.length=ps.length)(hr:cU k callerA)
  (hY:∀(w:World) (h:Heap),YP w h->(K w.params).In h)
  (F:∀(w:World) (mg:abD) (fa:Addr) (h:Heap),YP w h->(K w.params).In h->h.Ns mainGlobals mg->mg d.name=some (.ref fa) ->
   ∃fd:FuncData,(∀(s:Shared) (us:abF),us.length=ps.length->BindsTo s fd ⟨us,[]⟩ (ps.zip us)) /\
    ∀MH:Heap,(K w.params).In MH->MH.Ns mainGlobals mg->a8 r.prog w (K w.params) mg MH (CX w) k fa fd ps (sp w))
  (Nj:∀(w:World) (H:Hp) (xs:List V) (a:Codec.denoteAll r.args),wU H->Codec.withinAll r.args a=true->Codec.app r.args r.asked a=true->iB (K w.params) H xs (Codec.encAll r.args a) ->
   sp w xs H (λv H'=>Dw (K w.params) H' v (r.ret.enc (Codec.app r.args r.f a))) λ_ _ _=>False)
  (Qh:∀(w:World) (H:Hp) (s:Shared) (e:Value) (s':Shared),CX w [] H s (λ_ _ _=>False) e s'->False) :
  PySem.W.WalkOS q loose XP YP r d [] (λf vs=>PySem.call f vs):=by
 intro w lA s₁ mg mb G Y fa o pm cd doc dV kV ho hd Ni hD Qj hg args vals as SE SG UA N5 RZ;obtain⟨a,e1,e2⟩:=PySem.W.os_pre_some SE;obtain⟨e3,OF⟩:=Codec.encAll_of_decAll r.args args a e1;subst e3;have KX:=hY w _ Y;obtain⟨fd,hb,hF⟩:=F w mg fa _ Y KX G.T.g Qj;refine PySem.W.enter_call (abq (AE (R:=[]) (cl:=classAt lA.heap) (d0:=r.ret.enc (Codec.app r.args r.f a)) KX G.T.g G.T.b G.T.builtins G.T.nolimit hg N5 (tZ _ _) (qS SG) hr hF hb (by rw[pX];exact hlen)
  (λH xs hO hS=>Nj w H xs a hO OF e2 hS) λH e s'=>Qh w H s₁ e s') λr' s' hq=>?_)
 obtain⟨u,WZ,rfl,h1,h2,h3,h4⟩:=hq;exact⟨.inl ⟨u,_,WZ,rfl,λ_=>rfl,h1,(OpenSpec.post_iff NQ OF _ _).mpr rfl,λz=>Bool.noConfusion (show false=true from z)⟩,h2,h3,h4⟩
def yF {r:OpenSpec}{k:Nat}{q:Program}{loose:List Str}{XP:(Str->Option Value)->Heap->Prop}{YP:World->Heap->Prop}{d:DefRec}{K:Params->abB}{CX:mU}{ps:List Str}{sp:abB->Sp}
  (NQ:r.wellSaid=true)(UB:d.params.defaults=[])(hlen:r.args.length=ps.length)(hr:cU k callerA)
  (hY:∀(w:World) (h:Heap),YP w h->(K w.params).In h)
  (F:∀(w:World) (mg:abD) (fa:Addr) (h:Heap),YP w h->(K w.params).In h->h.Ns mainGlobals mg->mg d.name=some (.ref fa) ->
   ∃fd:FuncData,(∀(s:Shared) (us:abF),us.length=ps.length->BindsTo s fd ⟨us,[]⟩ (ps.zip us)) /\
    ∀MH:Heap,(K w.params).In MH->MH.Ns mainGlobals mg->a8 r.prog w (K w.params) mg MH CX k fa fd ps (sp (K w.params)))
  (Nj:∀(K:abB) (H:Hp) (xs:List V) (a:Codec.denoteAll r.args),wU H->Codec.withinAll r.args a=true->Codec.app r.args r.asked a=true->iB K H xs (Codec.encAll r.args a) ->
   sp K xs H (λv H'=>Dw K H' v (r.ret.enc (Codec.app r.args r.f a))) λ_ _ _=>False)
  (Qh:∀(H:Hp) (s:Shared) (e:Value) (s':Shared),CX [] H s (λ_ _ _=>False) e s'->False) :
  PySem.W.WalkOS q loose XP YP r d [] (λf vs=>PySem.call f vs) :=
 AY (K:=K) (CX:=λ_=>CX) (sp:=λw=>sp (K w.params)) NQ UB hlen hr hY F (λw H xs a h1 h2 h3 h4=>Nj (K w.params) H xs a h1 h2 h3 h4) λ_ H s e s'=>Qh H s e s'
end L2
end
namespace L2
open PySem PySem.Spec PyProof.Rows
abbrev bB:mU:=λ_ _ _ _ _ _=>False
abbrev E0:XK:=λ_ _ _=>False
def aX {X:Cx}:Passes bB X E0:=λ_ _ _ _ _ _ _ h=>h.elim
structure dj (K:abB)(x qual:Str)(st:Stmt)(f:Addr)(fd:FuncData):Prop where
 ex:∃(oc:Value) (od:Option Addr) (kV doc pm:Value) (an:Option Addr) (MK ct:Value) (NF:Array (Option Value)),
  fd=PySem.W.fnOf x qual (df st) (b9 st) (aw st) .none kV doc pm an MK ct/\K.lookup f=some ⟨oc,od,.func fd,NF⟩/\PySem.W.codeIn K MK qual=true
 kp:PySem.W.keepIn K (.ref f)=true
section
variable {P:Program}{w:World}{K:abB}{mg:abD}{MH:Heap}
def dj.ok {x qual:Str} {st:Stmt} {f:Addr} {fd:FuncData} {N ps:List Str} {k:Nat} {sp:Sp} (F:dj K x qual st f fd) (S:aG N ps (aw st)) (len:∀vs H Q E,sp vs H Q E->vs.length=ps.length)
  (MP:∀(MK:Value) (A:Around) (outer:List Env) (s:Shared) (H:Hp) (vs:List V) (Q:VK) (E:XK),cU k (A.deeper (envOfC qual (aw st) s.heap.objs.size f MK))->sp vs H Q E ->
   ∃t,sh (ot bB P w K mg MH N qual (aw st) f MK A outer s H E).Je (b9 st) t/\t {nx:=λ_ H'=>Q .cv H',rt:=Q} (start N vs) H):a8 P w K mg MH bB (k+1) f fd ps sp:=by
 obtain⟨oc,od,kV,doc,pm,an,MK,ct,NF,rfl,lk,Ni⟩:=F.ex;refine GR lk Ni S len λA outer s H vs Q E hr Nj=>?_;obtain⟨t,h,q⟩:=MP MK A outer s H vs Q E hr Nj;exact⟨t,h.Je,q⟩
def dj.binds {x qual:Str}{st:Stmt}{f:Addr}{fd:FuncData}{ps:List Str}(F:dj K x qual st f fd)
  (h:∀(kV doc pm:Value) (an:Option Addr) (MK ct:Value) (us:abF),us.length=ps.length->bindArgs (PySem.W.fnOf x qual (df st) (b9 st) (aw st) .none kV doc pm an MK ct) ⟨us,[]⟩=pure (ps.zip us)):Binds K fd ps []:=by
 obtain⟨oc,od,kV,doc,pm,an,MK,ct,NF,rfl,lk,Ni⟩:=F.ex;exact .all (h kV doc pm an MK ct)
def uk {x qual:Str}{st:Stmt}{f:Addr}{oc:Value}{od an:Option Addr}{NF:Array (Option Value)}{kV doc pm MK ct:Value}(l:K.lookup f=some ⟨oc,od,.func (PySem.W.fnOf x qual (df st) (b9 st) (aw st) .none kV doc pm an MK ct),NF⟩)
  (c:PySem.W.codeIn K MK qual=true)(k:PySem.W.keepIn K (.ref f)=true):dj K x qual st f (PySem.W.fnOf x qual (df st) (b9 st) (aw st) .none kV doc pm an MK ct):=⟨⟨oc,od,kV,doc,pm,an,MK,ct,NF,rfl,l,c⟩,k⟩
end
def wg {A:Around}{k:Nat}(hr:cU k A):A.units+1 < cLine:=Nat.lt_of_le_of_lt (Nat.add_le_add_left (by decide:1<=64) _) hr.units
section
variable {X:Cx}
def pv (i:Nat) {x:Str} {pos:Pos} (hN:X.N[i]?=some x:=by rfl) (hv:Jx X.env.scope x:=by first|exact Or.inl rfl|exact Or.inr (Or.inl rfl)|exact Or.inr (Or.inr rfl)) (hd:(x==("__debug__":Str))=false:=by decide)
  (Ni:(x==("__classdict__":Str))=false:=by decide):PE X (.Name x pos) (cf i):=ID hN hv hd Ni
end
def xg {A B:Prop}(h:B):if false=true then A else B:=by rw[YX Zi];exact h
def rN {A B:Prop}(h:A):if true=true then A else B:=by rw[YY rfl];exact h
def gS {c A B:Prop} [Decidable c] (h1:c->A)(h2:¬c->B):if c then A else B:=by
 by_cases h:c
 . rw[YY h];exact h1 h
 rw[YX h];exact h2 h
def au (H H':Hp):Prop:=∀b o,H b=some o->H' b=some o
def au.refl (H:Hp):au H H:=λ_ _ h=>h
def au.trans {H H1 H2:Hp}(a:au H H1)(b:au H1 H2):au H H2:=λc o h=>b c o (a c o h)
def au.free {H H':Hp}(e:au H H'){l:Addr}(h:H' l=Option.none):H l=Option.none:=by
 cases q:H l with
 |none=>rfl|some o =>rw[e l o q] at h;cases h
def au.seq {K:abB}{H H':Hp}{a:Addr}{xs:List V}(e:au H H')(h:aP K H a xs):aP K H' a xs:=by
 rcases h with (h|⟨o,h⟩)|h
 . exact .inl (.inl (e _ _ h))
 . exact .inl (.inr ⟨o,e _ _ h⟩)
 exact .inr h
section
variable {κ:Type} [DecidableEq κ]
end
end L2
end
set_option autoImplicit false
set_option linter.all false
set_option maxRecDepth 100000
set_option maxHeartbeats 2000000
open PySem PySem.Spec PyProof.Rows
variable {P:Program}{w:World}{K:abB}{mg:abD}{MH:Heap}
variable{H H1 H':L2.Hp}{a C aW CF CW CP N dx dS aF CB fI b it:Addr}{n i c e j pl ep:Nat}{K:abB}{xs ys:List L2.V}{f qual z:Str}{w:World}{X:L2.Cx}{v d:L2.V}{D:L2.Ends}{P:Program}{te ta:L2.TE}{σ:L2.St}{Q E':abC}{pos np:Pos}{g:L2.TG}{ws:List Bw.W}{p:abF->Prop}{E:L2.XK}{MJ:Array Value}{rs:abz}{s vs ns l fld:abA}{A:Around}{sp:L2.Sp}{h:Heap}{α:Type}{CX:L2.mU}{ps:List Str}{tb:L2.TS}{fd:FuncData}{o:L2.HO}{tt:L2.TT}{Qd:L2.Hp->Prop}{wd:Bw.W}{wi:L2.TI}{as:List Addr}{scope:Scope}{outer:List Env}
namespace BwX
open PySem PySem.Calls PySem.Spec PyProof.Rows
structure Nt (fs ch:List Addr)(h g:Heap):Prop where
 keep:∀b o,h.get? b=some o->b∉fs->b∉ch->g.get? b=some o
 slot:∀b o,h.get? b=some o->b∉ch->∃sl,g.get? b=some {o with slots:=sl}
section
variable {fs ch Nc UC:List Addr}{h g k:Heap}
def Nt.refl (fs ch:List Addr) (h:Heap):Nt fs ch h h:=⟨λ_ _ e _ _=>e,λ_ o e _=>⟨o.slots,e⟩⟩
def Nt.trans (a:Nt fs ch h g)(b:Nt fs ch g k):Nt fs ch h k where
 keep:=λc o e hf hc=>b.keep c o (a.keep c o e hf hc) hf hc
 slot:=λc o e hc=>by obtain⟨_,e1⟩:=a.slot c o e hc;obtain⟨sl,e2⟩:=b.slot c _ e1 hc;exact⟨sl,e2⟩
def Nt.mono (a:Nt fs ch h g)(hf:∀b∈fs,b∈Nc)(hc:∀b∈ch,b∈UC):Nt Nc UC h g :=
 ⟨λb o e n m=>a.keep b o e (λz=>n (hf b z)) λz=>m (hc b z),λb o e m=>a.slot b o e λz=>m (hc b z)⟩
theorem Nt.push (o:Obj):Nt fs ch h (h.push o):=⟨λ_ _ e _ _=>YZ o e,λ_ u e _=>⟨u.slots,YZ o e⟩⟩
def Nt.upd {f:Obj->Obj}(ha:a∈ch):Nt fs ch h (h.update a f):=by have ly:∀b,b∉ch->(h.update a f).get? b=h.get? b:=λb m=>aaO _ _ λz=>m (z ▸ ha);exact⟨λb o e _ m=>(ly b m).trans e,λb o e m=>⟨o.slots,(ly b m).trans e⟩⟩
def Nt.slots (so:Heap.SlotsOnly fs h g):Nt fs ch h g:=⟨λb o e n _=>(so.2.1 b n).trans e,λb o e _=>so.2.2 b o e⟩
end
def Rec (h:Heap)(a:Addr)(k:Value)(d:Option Addr)(vs:Array Value):Prop:=∃o,h.get? a=some o/\(o.cls=k/\o.dict=d)/\o.data=.fields vs
section
variable {M:Model}{A:Around}{E:abC}{s:Shared}{h g:Heap}{a:Addr}{k x:Value}{d:Option Addr}{vs:Array Value}{i:Nat}
def Rec.put (r:Rec h a k d vs):Rec (h.update a (Obj.mapFields (·.setIfInBounds i x))) a k d (vs.setIfInBounds i x):=by obtain⟨⟨oc,od,dt,sl⟩,e,c,dd⟩:=r;cases dd;exact⟨_,ZT _ e rfl,c,rfl⟩
def Rec.over {fs ch:List Addr}(r:Rec h a k d vs)(N:Nt fs ch h g)(m:a∉ch):Rec g a k d vs:=by obtain⟨o,e,c,dd⟩:=r;obtain⟨sl,e'⟩:=N.slot a o e m;exact⟨_,e',c,dd⟩
def Rec.read (r:Rec s.heap a k d vs)(hi:vs[i]?=some x)(q:Q x s):wpAny M A (field (.ref a) i) Q E s:=by obtain⟨o,e,_,dd⟩:=r;exact wpAny_field e dd hi q
def Rec.write {Q:Unit->Shared->Prop}(r:Rec s.heap a k d vs)(hi:i < vs.size)(q:Q () {s with heap:=s.heap.update a (Obj.mapFields (·.setIfInBounds i x))}):wpAny M A (setField (.ref a) i x) Q E s:=by obtain⟨o,e,_,dd⟩:=r;exact wpAny_setField e dd hi q
end
def lz (h0 h:Heap)(e:Addr)(k:Value)(dx:Addr)(p:Option (Addr×Value)):Prop :=
 ∃vs,(Rec h e k (some dx) vs/\h0.get? e=none) /\
  match p with
  |none=>vs[1]?=some .none|some (T,fl)=>vs[1]?=some (.ref T)/\T≠e/\h0.get? T=none/\∃c d ts,Rec h T c d ts/\ts[3]?=some fl
def j0 (e:Addr)(p:Option (Addr×Value)):List Addr:=e::p.toList.map (·.1)
section
variable {h0 h1 h:Heap}{e dx:Addr}{k:Value}{p:Option (Addr×Value)}
def lz.zN (F:lz h0 h e k dx p):∀b∈j0 e p,h0.get? b=none/\∃c d vs,Rec h b c d vs:=by
 obtain⟨vs,⟨r,n⟩,q⟩:=F;intro b hb;cases p with
 |none =>
  obtain rfl:b=e:=by simpa [j0] using hb
  exact⟨n,_,_,_,r⟩
 |some p =>
  obtain⟨_,_,nT,c,d,ts,rT,_⟩:=q;have hb:b=e\/b=p.1:=by simpa [j0] using hb
  rcases hb with rfl|rfl
  . exact⟨n,_,_,_,r⟩
  exact⟨nT,c,d,ts,rT⟩
def lz.low (F:lz h0 h e k dx p)(hm:∀b,h0.get? b=none->h1.get? b=none):lz h1 h e k dx p:=by
 obtain⟨vs,⟨r,n⟩,q⟩:=F;cases p with
 |none=>exact⟨vs,⟨r,hm _ n⟩,q⟩|some p =>obtain⟨q1,q2,q3,q4⟩:=q;exact⟨vs,⟨r,hm _ n⟩,q1,q2,hm _ q3,q4⟩
end
section
variable {M:Model}{A:Around}{E:abC}{s:Shared}{MH:Heap}{env:Env}{outer:List Env}{L e dx:Addr}{k:Value}{h0:Heap}
def entry {vs:Array Value}{SI:Value}{nx:Bool}{Q:Unit->Shared->Prop}(fr:A.frames=some (env::outer)) (ff:s.heap.FunFrames MH (env::outer)) (hf:env.frame=some L) (r:Rec s.heap e k (some dx) vs) (hz:1 < vs.size)
  (fin:∀g T c d ts,s.heap.objs.size<=T->T≠e->Nt ((env::outer).filterMap (·.frame)) [e] s.heap g->Rec g e k (some dx) (vs.setIfInBounds 1 (.ref T))->Rec g T c d ts->ts[3]?=some (rawInt L)->Q () {s with heap:=g}) :
  wpAny M A (frameOf env >>= λa=>entryPlaceOf L nx >>= λpl=>EntryCells.newEntry SI a .none (rawInt L) .none pl >>= λb=>setField (.ref e) 1 b) Q E s:=by
 refine YV (wpAny_frameOf_fun fr ff hf λg so=>YV (wpAny_entryPlaceOf λpl ip=>YV ?_));simp only[EntryCells.newEntry,newFields];refine aak ?_ (ip.sizeOk5 _ _ _ _ _);have h3:(([SI,Value.ref L,Value.none,rawInt L,Value.none]++(if pl.isEmpty then List.replicate 6 Value.none else pl)).toArray)[3]?=some (rawInt L):=by simp
 generalize ([SI,Value.ref L,Value.none,rawInt L,Value.none]++(if pl.isEmpty then List.replicate 6 Value.none else pl)).toArray=ts at h3;have r2:Rec (g.push {cls:=.type "traceback",dict:=none,data:=.fields ts}) e k (some dx) vs:=r.over ((Nt.slots so).trans (Nt.push _):Nt _ [] _ _) (by simp);have ne:g.objs.size≠e:=by obtain⟨o,eo,_⟩:=r.over (Nt.slots so:Nt _ [] _ _) (by simp);exact Nat.ne_of_gt (Y8 eo)
 have rT:Rec (g.push {cls:=.type "traceback",dict:=none,data:=.fields ts}) g.objs.size (.type "traceback") none ts:=⟨_,Za g rfl,⟨rfl,rfl⟩,rfl⟩;have up:Nt ((env::outer).filterMap (·.frame)) [e] (g.push {cls:=.type "traceback",dict:=none,data:=.fields ts}) _:=Nt.upd (f:=Obj.mapFields (·.setIfInBounds 1 (Value.ref g.objs.size))) (Y_.mpr rfl);exact Rec.write (s:={s with heap:=g.push {cls:=.type "traceback",dict:=none,data:=.fields ts}}) r2 hz
  (fin _ g.objs.size _ _ ts (abt so.1.symm) ne (((Nt.slots so).trans (Nt.push _)).trans up) r2.put (rT.over up λz=>ne (Y_.mp z)) h3)
def fE {vs:Array Value}{x:Value}(h:vs[i]?=some x):i < vs.size:=(Array.getElem?_eq_some_iff.mp h).1
def y8 {p:Option (Addr×Value)}{Q:Unit->Shared->Prop}(fr:A.frames=some (env::outer))(ff:s.heap.FunFrames MH (env::outer))(hf:env.frame=some L)(F:lz h0 s.heap e k dx p)(Nm:∀b,s.heap.get? b=none->h0.get? b=none)
  (hp:∀T fl,p=some (T,fl)->fl=.none\/fl=rawInt L)
  (fin:∀g T,lz h0 g e k dx (some (T,rawInt L))->(T∈j0 e p\/s.heap.objs.size<=T)->Nt ((env::outer).filterMap (·.frame)) (j0 e p) s.heap g->Q () {s with heap:=g}):wpAny M A (noteFrame (.ref e) env) Q E s:=by
 obtain⟨vs,⟨r,n⟩,q⟩:=F;have made:∀(h:Heap),h.objs.size=s.heap.objs.size->∀g T c d ts,h.objs.size<=T->T≠e->Rec g e k (some dx) (vs.setIfInBounds 1 (.ref T))->Rec g T c d ts->ts[3]?=some (rawInt L)->1 < vs.size->lz h0 g e k dx (some (T,rawInt L)):=λh hs g T c d ts hT ne r1 rT h3 hz =>⟨_,⟨r1,n⟩,by simp[hz],ne,Nm T (Heap.get?_none_of_le (hs ▸ hT)),c,d,ts,rT,h3⟩
 simp only[noteFrame,hf];cases p with
 |none =>refine YV (r.read q ?_);exact entry fr ff hf r (fE q) λg T c d ts hT ne N r1 rT h3=>fin g T (made _ rfl g T c d ts hT ne r1 rT h3 (fE q)) (.inr hT) N
 |some p =>
  obtain⟨T,fl⟩:=p;obtain⟨h1,ne,nT,c,d,ts,rT,h3⟩:=q;refine YV (r.read h1 (YV (rT.read h3 ?_)));rcases hp T fl rfl with rfl|rfl
  . have N1:Nt ((env::outer).filterMap (·.frame)) [T] s.heap _:=Nt.upd (f:=Obj.mapFields (·.setIfInBounds 3 Value.none)) (Y_.mpr rfl);have r1:=r.over N1 λz=>ne (Y_.mp z).symm;have hs:(s.heap.update T (Obj.mapFields (·.setIfInBounds 3 Value.none))).objs.size=s.heap.objs.size:=Heap.size_after_update ..;have f1:(s.heap.update T (Obj.mapFields (·.setIfInBounds 3 Value.none))).FunFrames MH (env::outer):=ff.of_keeps λb o eb nb=>by
     obtain⟨sl,z⟩:=N1.slot b o eb λz=>by obtain⟨u,eu,_,du⟩:=rT;rw[Y_.mp z,eu] at eb;cases eb;exact nb ts du
     exact⟨_,z,rfl⟩
    refine YV (rT.write (fE h3) ?_);refine entry (s:={s with heap:=s.heap.update T (Obj.mapFields (·.setIfInBounds 3 Value.none))}) fr f1 hf r1 (fE h1) λg T' c' d' W0 hT ne' N r2 W2 W3=>?_;refine fin g T' (made _ hs g T' c' d' W0 hT ne' r2 W2 W3 (fE h1)) (.inr (ZH (abt hs.symm) hT)) ?_;exact (N1.mono (λ_ z=>z) λb z=>by simp at z;simp[j0,z]).trans (N.mono (λ_ z=>z) λb z=>by simp at z;simp[j0,z])
  have same:(rawInt L==rawInt L)=true:=by first|exact beq_self_eq_true _|simp
  rw[YY same];exact Y2 (fin s.heap T ⟨vs,⟨r,n⟩,h1,ne,nT,c,d,ts,rT,h3⟩ (.inl (by simp[j0])) (Nt.refl _ _ _))
def xA {T:Addr}{fl:Value}{v:Option Addr}{fs:List Addr}{Q:Unit->Shared->Prop}(F:lz h0 s.heap e k dx (some (T,fl)))
  (fin:∀g,lz h0 g e k dx (some (T,v.elim .none λf=>rawInt f))->Nt fs (j0 e (some (T,fl))) s.heap g->Q () {s with heap:=g}) :
  wpAny M A (setFlight (.ref e) v) Q E s:=by
 obtain⟨vs,⟨r,n⟩,h1,ne,nT,c,d,ts,rT,h3⟩:=F;have N1:Nt fs [T] s.heap _:=Nt.upd (f:=Obj.mapFields (·.setIfInBounds 3 (v.elim Value.none λf=>rawInt f))) (Y_.mpr rfl);simp only[setFlight];refine YV (r.read h1 (rT.write (fE h3) (fin _ ⟨vs,⟨r.over N1 λz=>ne (Y_.mp z).symm,n⟩,h1,ne,nT,c,d,_,rT.put,by simp[fE h3]⟩ ?_)));exact N1.mono (λ_ z=>z) λb z=>by simp at z;simp[j0,z]
end
end BwX
namespace BwX
open PySem PySem.Calls PySem.W Builtin Builtin.ObjectAttr
abbrev sZ:abF:=[.type "Exception",.type "BaseException",.type "object"]
def cV (o:Obj)(C N:Addr):Prop:=∃nm q bs sn sub ab col dd k0 k1 k2 k3 k5,o=excClassObj nm q C N bs sZ true sn sub ab col dd k0 k1 k2 k3 k5 "Exception.__new__"
section
variable {M:Model}{h:Heap}{a C N:Addr}{oC:Obj}{d:Option Addr}{vs:Array Value}
def Rec.type {k:Value}(r:Rec h a k d vs):Looks M h (typeOf (.ref a)) k:=by obtain⟨o,e,⟨c,_⟩,_⟩:=r;exact c ▸ (Looks.ld e).andThen .now
def cV.data (Z:cV oC C N)(e:h.get? C=some oC):∃cd:ClassData,Looks M h (classData C) cd/\cd.mro=.ref C::sZ/\cd.hasDict=true:=by obtain⟨nm,q,bs,sn,sub,ab,col,dd,k0,k1,k2,k3,k5,rfl⟩:=Z;exact⟨_,(Looks.ld (part:=none) e).andThen .now,rfl,rfl⟩
def cV.mro (Z:cV oC C N)(e:h.get? C=some oC):Looks M h (mroOf (.ref C)) (.ref C::sZ):=by obtain⟨cd,l,m,_⟩:=Z.data (M:=M) e;exact l.andThen (m ▸ .now)
def cV.sub (Z:cV oC C N)(e:h.get? C=some oC){b:Value}{r:Bool}(hb:(Value.ref C::sZ).contains b=r):Looks M h (isSubtype (.ref C) b) r:=by unfold isSubtype;refine (Z.mro e).andThen ?_;dsimp only;rw[hb];exact .now
def cV.meta (Z:cV oC C N)(e:h.get? C=some oC):Looks M h (typeOf (.ref C)) (.type "type"):=by obtain⟨nm,q,bs,sn,sub,ab,col,dd,k0,k1,k2,k3,k5,rfl⟩:=Z;exact (Looks.ld e).andThen .now
def Rec.Kv {k:Value}(r:Rec h a k d vs):Looks M h (isType (.ref a)) false:=by obtain⟨o,e,_,dt⟩:=r;refine (Looks.ld e).andThen ?_;rw[dt];exact .now
end
section
variable {M:Model}{A:Around}{E:abC}{s:Shared}{env:Env}
def yx {x:Sem Value}{Q:Flow->Shared->Prop}(hh:A.handled=none)
  (h:wpAny M A x (λv s1=>∃e C N oC d vs,v=.ref e/\Rec s1.heap e (.ref C) d vs/\vs[1]?=some .none/\s1.heap.get? C=some oC/\cV oC C N/\E (.ref e) s1) E s) :
  wpAny M A (raiseStmt env (some x) none) Q E s:=by
 refine YV (aaa h (λv s1 q=>?_) λ_ _ z=>z);obtain⟨e,C,N,oC,d,vs,rfl,r,h1,eC,Z,hE⟩:=q;obtain⟨hp,g,dr,tk,os⟩:=s1;have r:Rec hp e (.ref C) d vs:=r;have eC:hp.get? C=some oC:=eC;have l0:=r.type (M:=M);have l1:=Z.sub (M:=M) eC (b:=.type "BaseException") (r:=true) (by rw[List.contains_cons];exact Bool.or_eq_true_iff.mpr (.inr (by decide)));have l2:=Z.meta (M:=M) eC;have l3:=r.Kv (M:=M);have lE:Looks M hp (isExcClass (.ref e)) false:=l3.andThen .now;have lI:Looks M hp (isInstance (.ref e) (.type "BaseException")) true:=l0.andThen l1;have l4:Looks M hp (excFromValue (.ref e) "exceptions must derive from BaseException") (.ref e):=lE.andThen (lI.andThen .now);have l5:Looks M hp (raisedInstance (.ref e)) (.ref e):=l0.andThen (l2.andThen .now);refine YV (Y2 (YV (aaS (l4.at ?_))));refine YV (l3.at (YV (l5.at (YV ?_))));refine YV (r.read (s:=⟨hp,g,dr,tk,os⟩) h1 (Y2 ?_));exact wpAny_raiseNew_none hh hE
end
def D7 {o:Obj}{es:Array DictEntry}{v:Value}(d:o.data=.dict es ep)(e:nsFind es f=some v):lookIn f o=some (some v):=by
 unfold lookIn;rw[d];unfold nsFind findBy at e;rw[<-Array.find?_toList] at e;dsimp only;split
 . rename_i en he;rw[he] at e;exact Z0 some e
 rename_i he;rw[he] at e;cases e
section
variable {prog:Program}{w:World}{A:Around}{E:abC}{K:Frag}{h:Heap}{g:Array GenState}{dr:Drawn}{tk:Nat}{os:OsState}{a C N dx:Addr}{oC:Obj}{vs:Array Value}{f:Str}{v:Value}{mA:abD}{b:Bool}
def wG (X:K.In h) (eC:K.lookup C=some oC) (Z:cV oC C N) (ga:findIn K (.ref C) "__getattribute__"=some (some (.builtin "BaseException.__getattribute__"))) (gt:findIn K (.ref C) "__getattr__"=some none) (nf:findIn K (.ref C) f=some none)
  (r:Rec h a (.ref C) (some dx) vs) (n:h.Ns1 dx mA) (hv:mA f=some v) (hh:handedOut v=pure v) (q:Q v ⟨h,g,dr,tk+1,os⟩):wpAny (model prog w) A (getAttr (.ref a) f b) Q E ⟨h,g,dr,tk,os⟩:=by
 obtain⟨o,e,⟨c,d⟩,dt⟩:=id r;obtain⟨od,es,ep,e1,e2,_,_,e3⟩:=n;obtain⟨nm,q',bs,sn,sub,ab,col,dd,k0,k1,k2,k3,k5,rfl⟩:=id Z;have I:InstAt h a o C (some od):=⟨e,c,by unfold notCls;rw[dt],by rw[d];exact e1⟩;have fo:findObj K C (some od) f=some (.value v):=by obtain⟨cd,hc,hd⟩:∃cd,clsIn K C=some cd/\cd.hasDict=true:=⟨_,by unfold clsIn;rw[eC],rfl⟩;have ho:ownOf cd (some od) f=some (some v):=(YY hd).trans (D7 e2 ((e3 f).trans hv));unfold findObj;rw[hc,nf];show (ownOf cd (some od) f).bind _=_;rw[ho];rfl
 have FB:=F.attrBase_Exception;have l0:=I.type (M:=model prog w);have l1:=looks_findIn (M:=model prog w) X ga;have l2:=looks_findIn (M:=model prog w) X gt;have l3:=looks_find (M:=model prog w) X I fo;refine YV (wpAny_mkText (aaS (YV (l0.at (YV (l1.at ?_))))));show wpAny _ _ (getAttrByItsOwn (.ref a) (.str f tk) (.ref C) (.builtin "BaseException.__getattribute__") true b) _ _ _;refine YV (l2.at (YV (wpAny_attempt (aaS ?_))));have Qk:callGetattribute (.ref a) (.str f tk) (.builtin "BaseException.__getattribute__") b=call (.builtin "BaseException.__getattribute__") [.ref a,.str f tk]:=by
  have hb:callGetattribute (.ref a) (.str f tk) (.builtin "BaseException.__getattribute__") b=boundAndCalled (.builtin "BaseException.__getattribute__") (.ref a) (.str f tk):=by cases b <;> rfl
  rw[hb];unfold boundAndCalled;rw[FB.ga.bind];rfl
 rw[Qk];refine wpAny_call (codeAny_call_builtin FB.ga.plain F.entry_bexc_ga (wpAny_check_ga_own FB (X _ _ eC) .base e c ?_));refine YV (Y2 (YV (Y2 (YV (l0.at (YV (l3.at (Y2 ?_))))))));show wpAny _ _ (handedOut v) _ _ _;rw[hh];exact Y2 q
def w_ {sl:Array (Option Value)}{Q:Unit->Shared->Prop}(X:K.In h)(eC:K.lookup C=some oC)(Z:cV oC C N)(sa:findIn K (.ref C) "__setattr__"=some (some (.builtin "object.__setattr__")))(nf:findIn K (.ref C) f=some none)
  (e:h.get? a=some ⟨.ref C,none,.fields vs,sl⟩)
  (fin:∀g' NG,g'.get? a=some ⟨.ref C,some h.objs.size,.fields vs,sl⟩->g'.Ns1 h.objs.size (λy=>if y=f then some v else none)->(∀b o,b≠a->h.get? b=some o->g'.get? b=some o)->Q () ⟨g',g,dr,NG,os⟩) :
  wpAny (model prog w) A (setAttr (.ref a) f v) Q E ⟨h,g,dr,tk,os⟩:=by
 have SF:=F.store_Exception;have r:Rec h a (.ref C) none vs:=⟨_,e,⟨rfl,rfl⟩,rfl⟩;have SJ:=X _ _ eC;have l0:=r.type (M:=model prog w);have l1:=looks_findIn (M:=model prog w) X sa;have l2:=looks_findIn (M:=model prog w) X nf;have l3:=Z.mro (M:=model prog w) SJ;obtain⟨cd,l4,_,hd⟩:=Z.data (M:=model prog w) SJ;have ne:a≠h.objs.size:=Zv (Y8 e);obtain⟨nm,q',bs,sn,sub,ab,col,dd,k0,k1,k2,k3,k5,rfl⟩:=id Z;refine YV (wpAny_mkText (YV (YV (YV (l0.at (l1.at ?_))))));refine aaS (YV ?_);rw[SF.slot.bind];refine Y2 (YV (wpAny_call ?_));refine codeAny_call_builtin SF.slot.plain SF.entry ?_;show wpAny _ _ (checkBuiltinCall "object.__setattr__" ⟨[.ref a,.str f tk,v],[]⟩) _ _ _;refine PySem.wpAny_check_sa (sa:="object.__setattr__") (owner:="object") (B:="Exception") (bm:=sZ) SF (x:=a) (C:=C) SJ e rfl ?_;show wpAny _ _ (Builtin.«object.__setattr__» ⟨[.ref a,.str f tk,v],[]⟩) _ _ _;rw[osa_eq,refuse_eq];refine YV (YV (l0.at (YV (l3.at ?_))));rw[refuseLoop_ref,SF.passes];refine Y2 (YV (l0.at (YV (l2.at (YV (Y2 ?_))))));show wpAny _ _ (storeInOwnDict (.ref a) (.ref C) (.str f tk) f v false) _ _ _;have dic:∀(A':Around) (E':abC) (Q':Option Addr->Shared->Prop) (NG:Nat),Q' (some h.objs.size) ⟨(h.push {cls:=.type "dict",data:=.dict #[]}).update a λo=>{o with dict:=some h.objs.size},g,dr,NG,os⟩ ->
   wpAny (model prog w) A' (ownDictForStores (.ref a)) Q' E' ⟨h,g,dr,NG,os⟩:=λA' E' Q' NG z=>by
  refine YV (wpAny_loadPart e (YV (l4.at ?_)));rw[hd];exact YV (wpAny_alloc (YV (wpAny_update (YZ _ e) (Y2 z))))
 refine YV (Y2 (YV (dic _ _ _ _ ?_)));have UD:((h.push {cls:=.type "dict",data:=.dict #[]}).update a λo=>{o with dict:=some h.objs.size}).get? a=some ⟨.ref C,some h.objs.size,.fields vs,sl⟩:=ZT _ (YZ _ e) rfl;have UE:((h.push {cls:=.type "dict",data:=.dict #[]}).update a λo=>{o with dict:=some h.objs.size}).get? h.objs.size=some {cls:=.type "dict",data:=.dict #[]}:=(aaO _ _ ne).trans (Za h rfl);have old:∀b o,b≠a->h.get? b=some o->((h.push {cls:=.type "dict",data:=.dict #[]}).update a λo=>{o with dict:=some h.objs.size}).get? b=some o:=λb o n eb=>(aaO _ _ (abr n)).trans (YZ _ eb);generalize ((h.push {cls:=.type "dict",data:=.dict #[]}).update a λo=>{o with dict:=some h.objs.size})=h1 at UD UE old;have n1:h1.Ns1 h.objs.size (λ_=>none):=⟨_,#[],_,UE,rfl,λy hy=>by simp at hy,by unfold UniqKeys;simp,λ_=>rfl⟩;show wpAny _ _ (storeInDict h.objs.size (.str f tk) f v) _ _ _;refine YV (Y2 (YV (wpAny_nsSet1 n1 λh2 n2 same=>?_)));obtain⟨oD,Wq,Wr,Se,Sg,xr⟩:=n2.count (Within.cons f v Within.nil);refine YV (wpAny_lookBehind Se (by rw[Sg];exact pastItsLine_dict (ZH xr (by show 1<=sizeLine+1;decide))) (Y2 ?_));refine Y2 (Y2 (fin h2 _ ((same.2 a ne).trans UD) n2 λb o n eb=>(same.2 b (Zv (Y8 eb))).trans (old b o n eb)))
end
end BwX
namespace L2
open PySem PySem.Spec PyProof.Rows BwX
def ff (k p:Int):List (Str×V):=[("kind",.int k),("place",.int p)]
def sO (dx:Addr)(fs:List (Str×V)):HO:=.ext λh=>∃mA,h.Ns1 dx mA/\∀f,jt (fs.lookup f) (mA f)
def Rz (C:Addr)(E:XK)(k p:Int):Prop:=∀(H:Hp) (dx:Addr),H dx=some (sO dx (ff k p))->E (.ref C) (some dx) H
def fq (P:Program)(w:World)(C:Addr):mU:=λouter H s E e s' =>
 ∃(a dx T:Addr) (H':Hp) (k p:Int),(e=.ref a/\s'.os=s.os/\AllBare s'.gens/\Un (xm outer) [] H H' s.heap s'.heap/\iO P w H' s'.heap) /\
  lz s.heap s'.heap a (.ref C) dx (some (T,.none))/\(∀b∈j0 a (some (T,Value.none)),H' b=none)/\H' dx=some (sO dx (ff k p))/\Rz C E k p
def XF (X:Cx)(C:Addr)(E:XK):Value->Shared->Prop:=λe s' =>
 ∃(σ:St) (H:Hp) (a dx:Addr) (t:Option (Addr×Value)) (k p:Int),(e=.ref a/\Inv X [] σ H s')/\lz X.lA.heap s'.heap a (.ref C) dx t/\(∀b∈j0 a t,H b=none) /\
  (∀T fl,t=some (T,fl)->fl=.none\/fl=rawInt X.env.locals)/\H dx=some (sO dx (ff k p))/\Rz C E k p
structure nO (X:Cx):Prop where
 G7:X.stack=X.env::X.outer
 frame:X.env.frame=some X.env.locals
 pn:X.pn=[]
 ex:X.ex=[]
section
variable {X:Cx}{MG:abE}{σ:List (Option V)}{H H':Hp}{s:Shared}{h':Heap}
def Inv.gone (I:Inv X MG σ H s) (O:nO X):∀b,s.heap.get? b=none->X.lA.heap.get? b=none:=λb e=>by
 cases q:X.lA.heap.get? b with
 |none=>rfl|some o =>obtain⟨o',z⟩:=I.MH.there b o q (by rw[O.ex];simp);rw[e] at z;cases z
end
section
variable {X:Cx}{σ:St}{H:Hp}{s:Shared}{C a dx:Addr}{E:XK}{M:Model}
def Inv.GO {g:Heap}{ch:List Addr}(I:Inv X [] σ H s) (O:nO X) (nt:Nt (xm X.stack) ch s.heap g) (M4:∀b∈ch,X.lA.heap.get? b=none/\∃c d vs,Rec s.heap b c d vs) (hH:∀b∈ch,H b=none):Inv X [] σ H {s with heap:=g}:=by
 refine I.Hh (s':={s with heap:=g}) (ch:=ch) rfl ⟨λb o e _ hb hc=>nt.keep b o e hb hc,λb o e _ _ hc=>nt.slot b o e hc,λ_ _ _ n _=>n,λb o e hc=>(let ⟨_,z⟩:=nt.slot b o e hc;⟨_,z⟩),λ_ _ e=>e,λ_ _ _ e=>e,λb ps e=>⟨#[],by rw[e];simp⟩⟩ (λb u e=>?_) I.bare (λb hb=>?_)
 . refine (I.bw b u e).ly (λc v hc q=>?_) (λ_ q=>q) λ_ _ q=>q;have tr:H c≠none:=by
    rcases hc with rfl|hc
    . rw[e];simp
    rw[hc];simp
   exact nt.keep c v q (λz=>tr (I.uP c z)) λz=>tr (hH c z)
 obtain⟨h1,c,d,vs,o,ho,_,hd⟩:=M4 b hb;refine⟨.inr h1,?_,?_,?_⟩
 . rintro rfl;obtain⟨m,⟨o',es,ep,M3,Nf,_⟩,_⟩:=I.loc;rw[M3] at ho;cases ho;rw[Nf] at hd;cases hd
 . rintro x c e rfl;obtain⟨v,o',M3,Nf⟩:=I.cell x c e;rw[M3] at ho;cases ho;rw[Nf] at hd;cases hd
 intro p hp;rw[O.pn] at hp;simp at hp
def xD {t:Option (Addr×Value)}{k:Value}{Q:Unit->Shared->Prop}(O:nO X)(I:Inv X [] σ H s)(F:lz X.lA.heap s.heap a k dx t)(hH:∀b∈j0 a t,H b=none)
  (OG:∀T fl,t=some (T,fl)->fl=.none\/fl=rawInt X.env.locals)
  (fin:∀g T,Inv X [] σ H {s with heap:=g}->lz X.lA.heap g a k dx (some (T,rawInt X.env.locals))->(∀b∈j0 a (some (T,rawInt X.env.locals)),H b=none)->Q () {s with heap:=g}) :
  wpAny M X.A (noteFrame (.ref a) X.env) Q E' s:=by
 have fr:=I.ok.frames;have ff:=I.stack;rw[O.G7] at fr ff;refine y8 (MH:=X.MH) fr ff O.frame F (I.gone O) OG λg T F' hT N=>fin g T (I.GO O (by rw[O.G7];exact N) F.zN hH) F' λb hb=>?_;rcases Y0.mp hb with rfl|hb
 . exact hH _ (ZG ..)
 have:b=T:=by simpa using hb
 subst this;rcases hT with hT|hT
 . exact hH _ hT
 exact I.bw.fresh hT
def m9 {T:Addr}{fl k:Value}{v:Option Addr}{Q:Unit->Shared->Prop}(O:nO X)(I:Inv X [] σ H s)(F:lz X.lA.heap s.heap a k dx (some (T,fl)))(hH:∀b∈j0 a (some (T,fl)),H b=none)
  (fin:∀g,Inv X [] σ H {s with heap:=g}->lz X.lA.heap g a k dx (some (T,v.elim .none λf=>rawInt f))->Q () {s with heap:=g}) :
  wpAny M A (setFlight (.ref a) v) Q E' s :=
 xA (fs:=xm X.stack) F λg F' N=>fin g (I.GO O N F.zN hH) F'
def Em {e:Value}{Q:Unit->Shared->Prop}(O:nO X)(hP:X.prog=P)(hw:X.w=w)(h:XF X C E e s)(fin:∀s',fq P w C X.outer X.Jz X.lA E e s'->Q () s'):wpAny M X.A (leaving X.env e) Q E' s:=by obtain⟨σ,H,a,dx,t,k,p,⟨rfl,I⟩,F,hH,OG,hx,hz⟩:=h;unfold leaving;refine YV (xD O I F hH OG λg T I1 F1 H1=>m9 O I1 F1 H1 λg2 I2 F2=>fin _ ?_);have b:=I2.MH;rw[O.ex] at b;exact⟨a,dx,T,H,k,p,⟨rfl,I2.os,I2.bare,b,hP ▸ hw ▸ I2.bw⟩,F2,H1,hx,hz⟩
def Ai (O:nO X):PassesOwn M X.A X.env (XF X C E):=by rintro e s' ⟨σ,H,a,dx,t,k,p,⟨rfl,I⟩,F,hH,OG,hx,hz⟩;refine xD O I F hH OG λg T I1 F1 H1=>?_;unfold cameBackBy;obtain⟨vs,⟨r,_⟩,h1,_⟩:=id F1;refine YV (Rec.read (s:={s' with heap:=g}) r h1 ?_);rw[YX (by simp)];refine m9 O I1 F1 H1 λg2 I2 F2=>?_;refine⟨σ,H,a,dx,_,k,p,⟨rfl,I2⟩,F2,H1,λT' W4 q=>?_,hx,hz⟩;rw[O.frame] at q;injection q with q;injection q with _ q;exact .inr q.symm
def bT (O:nO X)(hP:X.prog=P)(hw:X.w=w):Passes (fq P w C) (X.iT (XF X C E)) E:=by rintro MG σ H s e s' I ⟨a,dx,T,H',k,p,⟨rfl,os,bare,un,bw⟩,F,hH,hx,hz⟩;subst hP hw;have I1:Inv X MG σ H s:=I.dk;have I2:Inv X MG σ H' s':=I1.G6 (ch:=[]) os un bw bare (λb z=>absurd z (by simp));refine⟨σ,H',a,dx,_,k,p,⟨rfl,I2.mG (pins':=[]) (λp hp=>absurd hp (by simp))⟩,F.low (I1.gone O),hH,λT' W4 q=>?_,hx,hz⟩;injection q with q;injection q with _ q;exact .inl q.symm
end
section
def aH {N:List Str}{f:Addr}{cd:Value}{s:Shared}:nO (ot CX P w K mg MH N qual scope f cd A outer s H E):=⟨rfl,rfl,rfl,rfl⟩
abbrev Mc (C:Addr)(P:Program)(w:World)(K:abB)(mg:abD)(MH:Heap)(N:List Str)(qual:Str)(scope:Scope)(f:Addr)(cd:Value)(A:Around)(outer:List Env)(s:Shared)(H:Hp)(E:XK):Cx :=
 (ot (fq P w C) P w K mg MH N qual scope f cd A outer s H E).iT (XF (ot (fq P w C) P w K mg MH N qual scope f cd A outer s H E) C E)
def dj.MD {x:Str}{st:Stmt}{f:Addr}{N:List Str}{k:Nat}(F:dj K x qual st f fd)(S:aG N ps (aw st))(len:∀vs H Q E,sp vs H Q E->vs.length=ps.length)
  (MP:∀(MK:Value) (A:Around) (outer:List Env) (s:Shared) (H:Hp) (vs:List V) (Q:VK) (E:XK),cU k (A.deeper (envOfC qual (aw st) s.heap.objs.size f MK))->sp vs H Q E ->
   ∃t,sh (Mc C P w K mg MH N qual (aw st) f MK A outer s H E) (b9 st) t/\t {nx:=λ_ H'=>Q .cv H',rt:=Q} (start N vs) H):a8 P w K mg MH (fq P w C) (k+1) f fd ps sp:=by
 obtain⟨oc,od,kV,doc,pm,an,MK,ct,NF,rfl,lk,Ni⟩:=F.ex;refine GR lk Ni S len λA outer s H vs Q E hr Nj=>?_;obtain⟨t,h,q⟩:=MP MK A outer s H vs Q E hr Nj;refine⟨t,λMG s1 σ H1 D I hw=>?_,q⟩;refine aaa (h MG s1 σ H1 D (I.iT _) hw) (λ_ _ q=>q.dk) λe s' z=>?_;exact Em aH rfl rfl z λQ3 z=>z
end
def ja (K:abB)(N:Addr):Bool:=match K.lookup N with
 |some ⟨_,_,.dict es _,_⟩=>es.toList.all λe=>match e.key with
  |.str _ _=>true|_=>false
 |_=>false
def D6 (K:abB)(N:Addr)(x:Str):Option Value:=match K.lookup N with
 |some ⟨_,_,.dict es _,_⟩=>nsFind es x|_=>none
def Dd (X:K.In h)(e:ja K N=true):h.Ns N (D6 K N):=by
 unfold ja at e;split at e
 . rename_i c d es n sl q;refine⟨_,es,n,X _ _ q,rfl,λy hy=>?_,λname=>?_⟩
   . have z:=Zn.mp e y (Array.mem_toList_iff.mpr hy);split at z
     . rename_i a b w;exact⟨a,b,w⟩
     cases z
   unfold D6;rw[q]
 cases e
def uC {x:Str}{r:Option Value}(e:PySem.W.nsIn K N x=some r):D6 K N x=r:=by
 unfold PySem.W.nsIn at e;unfold D6;split at e
 . rename_i c d es n sl q;rw[q];show nsFind es x=r;unfold nsFind findBy;rw[<-Array.find?_toList];split at e
   . rename_i y w;rw[w];exact Zw e
   rename_i w;rw[w];split at e
   . cases e
   exact Zw e
 cases e
structure qP (K:abB)(C N fI:Addr):Prop where
 cls:∃oC,K.lookup C=some oC/\cV oC C N
 keys:ja K N=true
 init:PySem.W.nsIn K N "__init__"=some (some (.ref fI))
 fn:PySem.W.isFn K (.ref fI)=true
 kp:PySem.W.keepIn K (.ref C)=true
 Dc:PySem.W.nsIn K N "__setattr__"=some none
 Ly:PySem.W.nsIn K N "kind"=some none
 LK:PySem.W.nsIn K N "place"=some none
 sa:PySem.W.findIn K (.ref C) "__setattr__"=some (some (.builtin "object.__setattr__"))
 ga:PySem.W.findIn K (.ref C) "__getattribute__"=some (some (.builtin "BaseException.__getattribute__"))
 gt:PySem.W.findIn K (.ref C) "__getattr__"=some none
 fK:PySem.W.findIn K (.ref C) "kind"=some none
 fP:PySem.W.findIn K (.ref C) "place"=some none
def Mw:typeLookup (.type "Exception") "kind"=pure none:=by rw[typeLookup_type,builtinLookup_eq_fast];kernel_rfl
def ME:typeLookup (.type "Exception") "place"=pure none:=by rw[typeLookup_type,builtinLookup_eq_fast];kernel_rfl
def vd (a C t:Addr)(od:Option Addr):HO:=.ext λh=>h.get? a=some {cls:=.ref C,dict:=od,data:=.fields #[.ref t,.none,.none,.none,.bool false,.none]}
def bL.there (x:bL P w H h a o):∃u,h.get? a=some u:=by
 cases o with
 |lst xs=>obtain⟨_,_,_,_,e⟩:=x;exact⟨_,e⟩
 |tup xs=>obtain⟨_,_,_,o,e,_⟩:=x;exact⟨_,e⟩
 |dK MI=>obtain⟨_,_,_,_,o,_,_,e,_⟩:=x;exact⟨_,e⟩
 |dT MI=>obtain⟨_,_,_,_,o,_,_,e,_⟩:=x;exact⟨_,e⟩
 |set S n=>obtain⟨o,_,_,_,e,_⟩:=x;exact⟨_,e⟩
 |ins C dx fs=>obtain⟨_,_,_,e,_⟩:=x;exact⟨_,e⟩
 |own y=>exact x|xd fs=>obtain⟨_,⟨_,_,_,e,_⟩,_⟩:=x;exact⟨_,e⟩
 |rng lo hi=>obtain⟨_,_,_,e⟩:=x;exact⟨_,e⟩
 |frz ob u=>obtain⟨e,_⟩:=x;exact⟨_,e⟩
 |tbl ps=>exact⟨_,show h.get? a=some _ from x⟩|met f y=>exact⟨_,show h.get? a=some _ from x⟩|ext φ=>obtain⟨_,e,_⟩:=x;exact e
def iO.gone (x:iO P w H h)(e:h.get? a=none):H a=none:=by
 cases q:H a with
 |none=>rfl|some o =>obtain⟨u,z⟩:=(x a o q).there;rw[e] at z;cases z
def Cc {fs:List (Str×V)}{mA:abD}(n:h.Ns1 dx mA)(r:∀f,jt (fs.lookup f) (mA f)):bL P w H h dx (sO dx fs):=by obtain⟨o,es,ep,e,c⟩:=id n;refine⟨⟨mA,n,r⟩,⟨o,e⟩,?_⟩;rintro h1 h2 ⟨m,⟨o,es,ep,e,c⟩,r⟩ k;exact⟨m,⟨o,es,ep,k _ e,c⟩,r⟩
def DV {t:Addr}{od:Option Addr}(e:h.get? a=some {cls:=.ref C,dict:=od,data:=.fields #[.ref t,.none,.none,.none,.bool false,.none]}):bL P w H h a (vd a C t od) :=
 ⟨e,⟨_,e⟩,λ_ _ e k=>k _ e⟩
section
variable {X:Cx}{MG:abE}{σ:St}{H:Hp}{s:Shared}{a C N fI t dx:Addr}{fs:List (Str×V)}{f:Str}{v:V}{u:Value}{A:Around}{E':abC}{Q:Unit->Shared->Prop}
def Ki (I:Inv X MG σ H s) (Z:qP X.K C N fI) (nf:PySem.W.findIn X.K (.ref C) f=some none) (ea:H a=some (vd a C t none)) (r:RelV v u)
  (h:∀s' dx,H dx=none->dx≠a->Inv X MG σ (upd (upd H dx (sO dx [(f,v)])) a (vd a C t (some dx))) s'->Q () s'):wpAny (model X.prog X.w) A (setAttr (.ref a) f u) Q E' s:=by
 obtain⟨oC,hC,hF⟩:=Z.cls;obtain⟨φ,_,_⟩:=I.bw a _ ea;have hK:=I.n_;obtain⟨hp,ga,d,tk,os⟩:=s;refine w_ hK hC hF Z.sa nf φ λg NG h1 h2 h3=>?_;have fr:H hp.objs.size=none:=I.bw.fresh (Y5 _);have ne:hp.objs.size≠a:=λz=>by rw[z,ea] at fr;cases fr
 refine h ⟨g,ga,d,NG,os⟩ hp.objs.size fr ne ?_;have at_:∀b o,H b=some o->b≠a->(upd (upd H hp.objs.size (sO hp.objs.size [(f,v)])) a (vd a C t (some hp.objs.size))) b=some o:=λb o e n=>by rw[aq n,aq (λz=>by rw[z,fr] at e;cases e)];exact e
 have no:∀b o,H b=some o->(∀φ,o≠.ext φ)->b≠a:=λb o e n z=>by rw[z,ea] at e;exact n _ (Zw e).symm
 refine I.un (h':=g) (t':=NG) ⟨λb o e n _ _=>?_,λb o e n _ _=>?_,λb o e n _=>?_,λb o e _=>?_,λb xs e=>at_ b _ e (no b _ e λ_ z=>by cases z),λb o u e=>at_ b _ e (no b _ e λ_ z=>by cases z),λb ps e=>⟨#[],by rw[at_ b _ e (no b _ e λ_ z=>by cases z)];simp⟩⟩ (λb u e=>?_)
 . exact h3 b o (λz=>by rw[z,ea] at n;cases n) e
 . exact⟨o.slots,h3 b o (λz=>by rw[z,ea] at n;cases n) e⟩
 . rw[aq (λz=>by rw[z,ea] at n;cases n),aq (Zv (Y8 e))];exact n
 . by_cases z:b=a
   . exact⟨_,z ▸ h1⟩
   exact⟨o,h3 b o z e⟩
 by_cases z:b=a
 . subst z;rw[ae] at e;cases e;exact DV h1
 rw[aq z] at e;by_cases z2:b=hp.objs.size
 . subst z2;rw[ae] at e;cases e;refine Cc h2 λy=>?_;by_cases hy:y=f
   . subst hy;simp only[List.lookup,beq_self_eq_true,aaB];exact r
   have hb:(y==f)=false:=Zq.mpr hy;simp only[List.lookup,hb,YX hy]
   trivial
 rw[aq z2] at e;refine (I.bw b u e).ly (λc w' hc q=>h3 c w' ?_ q) (λc q=>at_ c _ q (no c _ q λ_ z=>by cases z)) λc xs q=>at_ c _ q (no c _ q λ_ z=>by cases z);rcases hc with rfl|hc
 . exact z
 exact no c _ hc λ_ z=>by cases z
def KW (I:Inv X MG σ H s)(Z:qP X.K C N fI)(hn:PySem.W.nsIn X.K N f=some none)(hB:typeLookup (.type "Exception") f=pure none)(ea:H a=some (vd a C t (some dx)))(ed:H dx=some (sO dx fs))(ne:dx≠a)(hl:fs.length < 1000)(r:RelV v u)
  (h:∀s',Inv X MG σ (upd H dx (sO dx (e_ f v fs))) s'->Q () s'):wpAny (model X.prog X.w) A (setAttr (.ref a) f u) Q E' s:=by
 obtain⟨_,hC,nm,q,bs,sn,sub,ab,col,dd,k0,k1,k2,k3,k5,rfl⟩:=Z.cls;have W5:=I.n_ _ _ hC;have hN:=Dd I.n_ Z.keys;have nC:a≠C:=λz=>by have:=(I.bs C _ (I.ok.mod.GZ _ _ hC)).2;rw[<-z,ea] at this;cases this
 obtain⟨φ,_,_⟩:=I.bw a _ ea;obtain⟨⟨mA,n1,rl⟩,_,_⟩:=I.bw dx _ ed;obtain⟨hp,ga,d,tk,os⟩:=s;have wi:Within mA (fs.map (·.1)):=λy hy=>by
  have q:=rl y;cases e:fs.lookup y with
  |none =>
   rw[e] at q;cases e2:mA y with
   |none=>exact absurd e2 hy|some w'=>rw[e2] at q;exact q.elim
  |some w'=>exact Zr.mpr ⟨(y,w'),PySem.mem_of_lookup e,rfl⟩
 refine store_attr F.store_Exception W5 hN (uC Z.Dc) (uC hn) hB nC ⟨_,φ,rfl,(λc q=>by cases q),Or.inr ⟨dx,rfl,ne,n1⟩⟩ (λh' NG J keep same=>?_) wi (by rw[YW,Zl];omega);obtain⟨o1,e1,c1,d1,s1,x1⟩:=same _ φ;have x1:o1.dict=some dx:=x1 dx rfl;obtain⟨o2,e2,_,_,r2⟩:=J;rw[e1] at e2;cases e2;have n2:h'.Ns1 dx (λy=>if y=f then some u else mA y):=by
  rcases r2 with ⟨z,_⟩|⟨d',z,_,w'⟩
  . rw[x1] at z;cases z
  rw[x1] at z;cases z;exact w'
 refine h ⟨h',ga,d,NG,os⟩ (I.write (h':=h') (t':=NG) (x:=dx) (e:=dx) (by rw[ed];trivial) (.inl rfl) (λb o hb e=>?_) ?_ (Cc n2 λy=>?_))
 . by_cases z:b=a
   . subst z;rw[φ] at e;cases e;rw[e1];obtain⟨p1,p2,p3,p4⟩:=o1;simp only at c1 d1 s1 x1;rw[c1,d1,s1,x1]
   exact keep b o z (λo₀ NI w0 w1=>by rw[φ] at w0;cases w0;cases w1;exact hb) e
 . obtain⟨o,_,_,e,_⟩:=n2;exact⟨o,e⟩
 rw[kr];by_cases hy:y=f
 . simp only[YY hy];exact r
 simp only[YX hy];exact rl y
end
def JI (C:Addr)(ta tv:TE)(f:Str):TS:=λD σ H=>tv σ H λy H1=>ta σ H1 λx H2=>∃a t,x=.ref a /\
 ((H2 a=some (vd a C t none)/\∀dx,H2 dx=none->dx≠a->D.nx σ (upd (upd H2 dx (sO dx [(f,y)])) a (vd a C t (some dx)))) \/
  ∃dx fs,H2 a=some (vd a C t (some dx))/\H2 dx=some (sO dx fs)/\dx≠a/\fs.length < 1000/\D.nx σ (upd H2 dx (sO dx (e_ f y fs))))
def zI {o value:Expr}{pos':Pos}{tv:TE}(Z:qP X.K C N fI)(nf:PySem.W.findIn X.K (.ref C) f=some none)(hn:PySem.W.nsIn X.K N f=some none)(hB:typeLookup (.type "Exception") f=pure none)(ha:PE X o ta)(hv:PE X value tv)
  (hs:swapsWith value (some (.Attribute o f pos')) pos.line X.env=pure false):PS X (.Assign [.Attribute o f pos'] value pos) (JI C ta tv f):=by
 intro MG s σ H D I h;refine plainObj_wpAny_Assign_Attribute (bE (hv MG s σ H _ I h) λu s1 ⟨y,H1,I1,ry,q⟩=>bE (ha MG s1 σ H1 _ I1 q) λov s2 ⟨x,H2,I2,rx,a,t,ex,q2⟩=>?_) hs;subst ex;obtain rfl:ov=Value.ref a:=rx;rcases q2 with ⟨ea,q2⟩|⟨dx,fs,ea,ed,ne,hl,q2⟩
 . exact Ki I2 Z nf ea ry λs3 dx fr ne I3=>⟨σ,_,I3,q2 dx fr ne⟩
 exact KW I2 Z hn hB ea ed ne hl ry λs3 I3=>⟨σ,_,I3,q2⟩
def HJ (C:Addr):Sp:=λvs H Q _=>∃(a t:Addr) (k p:Int),vs=[.ref a,.int k,.int p]/\H a=some (vd a C t none) /\
 ∀(dx:Addr),H dx=none->dx≠a->Q .cv (upd (upd H dx (sO dx (ff k p))) a (vd a C t (some dx)))
section
variable {X:Cx}{MG:abE}{σ:St}{H:Hp}{s:Shared}
def Inv.grown {h':Heap}{t':Nat}(I:Inv X MG σ H s) (k:∀b u,s.heap.get? b=some u->h'.get? b=some u) (hp:s.heap.get? a=none) (new:bL X.prog X.w (upd H a o) h' a o):Inv X MG σ (upd H a o) {s with heap:=h',toks:=t'}:=by
 have fr:H a=none:=I.bw.gone hp;have at_:∀b u,H b=some u->(upd H a o) b=some u:=λb u e=>by rw[aq (ao e fr)];exact e
 refine I.un (h':=h') (t':=t') ⟨λb u e n _ _=>k b u e,λb u e n _ _=>⟨u.slots,k b u e⟩,λb u e n _=>?_,λb u e _=>⟨u,k b u e⟩,λb xs e=>at_ b _ e,λb u v e=>at_ b _ e,λb ps e=>⟨#[],by rw[at_ b _ e];simp⟩⟩ λb u e=>?_
 . rw[aq (λz=>by rw[z,hp] at e;cases e)];exact n
 by_cases z:b=a
 . subst z;rw[ae] at e;cases e;exact new
 rw[aq z] at e;exact (I.bw b u e).ly (λc v _ q=>k c v q) (λc q=>at_ c _ q) λc xs q=>at_ c _ q
def K6 (H:Hp)(a:Addr):Hp:=λb=>if b=a then none else H b
def qH:K6 H a a=none:=YY rfl
def uF (h:b≠a):K6 H a b=H b:=YX h
def Inv.dropped {φ:Heap->Prop}(I:Inv X MG σ H s)(e:H a=some (.ext φ)):Inv X MG σ (K6 H a) s:=by
 have at_:∀b u,H b=some u->(∀ψ,u≠.ext ψ)->K6 H a b=some u:=λb u q n=>by rw[uF (λz=>by rw[z,e] at q;exact n _ (Zw q).symm)];exact q
 refine I.un (h':=s.heap) (t':=s.toks) ⟨λb u q n _ _=>q,λb u q n _ _=>⟨u.slots,q⟩,λb u q n _=>?_,λb u q _=>⟨u,q⟩,λb xs q=>at_ b _ q (λ_ z=>by cases z),λb u v q=>at_ b _ q (λ_ z=>by cases z),λb ps q=>⟨#[],by rw[at_ b _ q (λ_ z=>by cases z)];simp⟩⟩ λb u q=>?_
 . by_cases z:b=a
   . rw[z];exact qH
   rw[uF z];exact n
 by_cases z:b=a
 . rw[z,qH] at q;cases q
 rw[uF z] at q;exact (I.bw b u q).ly (λc v _ w=>w) (λc w=>at_ c _ w λ_ z=>by cases z) λc xs w=>at_ c _ w λ_ z=>by cases z
def Inv.seen {φ:Heap->Prop}(I:Inv X MG σ H s)(O:nO X)(h0:X.lA.heap.get? a=none)(fr:H a=none)(nL:a≠X.env.locals)(nC:∀x c,X.env.cells.lookup x=some c->c≠a)(W6:MG=[])(nf:a∉X.fs)(new:bL X.prog X.w (upd H a (.ext φ)) s.heap a (.ext φ)) :
  Inv X MG σ (upd H a (.ext φ)) s:=by
 have at_:∀b u,H b=some u->(upd H a (.ext φ)) b=some u:=λb u q=>by rw[aq (ao q fr)];exact q
 refine⟨I.ok,I.os,I.bare,⟨I.MH.keep,I.MH.slot,λb o q n hx=>?_,I.MH.there,λb xs q=>at_ b _ (I.MH.o_ b xs q),λb u v q=>at_ b _ (I.MH.nP b u v q),λb ps q=>?_⟩,I.loc,I.cell,?_,λx c q=>?_,λp hp=>?_,λb u q=>?_,I.len⟩
 . rw[aq (λz=>by rw[z,h0] at q;cases q)];exact I.MH.free b o q n hx
 . obtain⟨m,w⟩:=I.MH.o5 b ps q;exact⟨m,at_ b _ w⟩
 . rw[aq nL.symm];exact I.free
 . rw[aq (nC x c q)];exact I.h_ x c q
 . rw[O.pn,W6] at hp;simp at hp
 by_cases z:b=a
 . subst z;rw[ae] at q;cases q;exact new
 rw[aq z] at q;exact (I.bw b u q).ly (λc v _ w=>w) (λc w=>at_ c _ w) λc xs w=>at_ c _ w
end
def L0 (C:Addr)(E:XK)(t:TA):TS:=λ_ σ H=>t σ H λvs _=>∃k p,vs=[.int k,.int p]/\Rz C E k p
def DO {x:Str}{MO:Pos}{e:Expr}{es:List Expr}{t:TA}{UG:FuncData}(O:nO X)(Z:qP X.K C N fI)(FI:a8 X.prog X.w X.K X.mg X.MH bB j fI UG ["self","kind","place"] (HJ C))(hr:cU (j+1) X.A)
  (bI:Binds X.K UG ["self","kind","place"] [])(hg:Gl X x)(hm:X.mg x=some (.ref C))(ha:PA (X.iT (XF X C E)) (e::es) t)(Nn:(x==("__debug__":Str))=false:=by decide)
  (he:starEach (e::es) X.env=(false,eval e X.env)::starEach es X.env:=by rfl)(MR:(backTo MO (starEach es X.env)).any (·.1)=false:=by rfl) :
  PS (X.iT (XF X C E)) (.Raise (some (.Call (.Name x np) (e::es) [] MO)) none pos) (L0 C E t):=by
 intro MG s σ H D I h;obtain⟨oC,hC,hF⟩:=Z.cls;rw[arm_exec_Raise];refine YV (wpAny_standAt (yx hr.hd (YV (aaa ?_ (λv s1 q=>YV (wpAny_standAt (Y2 q))) λ_ _ z=>z))));refine aa4 (nj (X:=X) I.dk hg hm ?_ Nn);refine PySem.W.callWith_K (h₀:=X.MH) I.ok.mod.GZ Z.kp (bE (ha MO MG s σ H _ I h) λus s2 ⟨vs,H1,I1,r,k,p,ev,hz⟩=>⟨I1.n_,?_⟩) he MR;subst ev;have I1:Inv X MG σ H1 s2:=I1.dk;obtain⟨u1,u2,rfl,r1,r2⟩:=vals2 r;obtain⟨oI,Q9,W7⟩:∃oI,s2.heap.get? fI=some oI/\oI.cls=.type "function":=by
  have z:=ZK.mp Z.fn;unfold PySem.W.typeIn at z;cases q:X.K.lookup fI with
  |none=>simp[q] at z|some o =>simp[q] at z;exact⟨o,I1.n_ _ _ q,z⟩
 obtain⟨nm,q,bs,sn,sub,ab,col,dd,k0,k1,k2,k3,k5,Pq⟩:=id hF;obtain⟨hp,ga,d,tk,os⟩:=s2;refine wpAny_call_exc_init F.excBase_Exception (Pq ▸ I1.n_ _ _ hC) (Dd I1.n_ Z.keys) (uC Z.init) Q9 W7 (λh' a M=>?_) (by show 2<=sizeLine;decide);obtain⟨keep,fresh,t0,SK,_,_⟩:=M;have I2:Inv X MG σ (upd H1 a (vd a C t0 none)) (⟨h',ga,d,tk,os⟩:Shared):=I1.grown keep fresh (DV SK);have rv:Vals [V.ref a,V.int k,V.int p] [Value.ref a,u1,u2]:=.cons rfl r;refine wpAny_call (abq (FI.run _ X.stack _ _ ⟨[Value.ref a,u1,u2],[]⟩ [Value.ref a,u1,u2] [V.ref a,V.int k,V.int p]
  (λv H'=>v=.cv/\∃dx,(upd H1 a (vd a C t0 none)) dx=none/\dx≠a/\H'=upd (upd (upd H1 a (vd a C t0 none)) dx (sO dx (ff k p))) a (vd a C t0 (some dx))) E0 (hr.make C [u1,u2] []) (I2.Iw.make C [u1,u2] []) ?_ rv ⟨a,t0,k,p,rfl,ae,λdx h1 h2=>⟨rfl,dx,h1,h2,rfl⟩⟩) λr s3 hq=>?_)
 . have z:=bI (⟨h',ga,d,tk,os⟩:Shared) [Value.ref a,u1,u2] I2.n_ rfl;rw[ZW] at z;exact z
 cases r with
 |error e=>exact False.elim hq
 |ok fl =>
  cases fl with
  |next=>exact False.elim hq|brk=>exact False.elim hq|cont=>exact False.elim hq
  |ret u =>
   obtain⟨v,H',I3,rv,ev,dx,Nq,ne,eH⟩:=I2.after hq;subst ev eH;have ea:(upd (upd (upd H1 a (vd a C t0 none)) dx (sO dx (ff k p))) a (vd a C t0 (some dx))) a=some (vd a C t0 (some dx)):=ae;obtain⟨φ,_,_⟩:=I3.bw a _ ea;refine⟨rv,a,C,N,oC,some dx,_,rfl,⟨_,φ,⟨rfl,rfl⟩,rfl⟩,rfl,I3.n_ _ _ hC,hF,σ,_,a,dx,none,k,p,⟨rfl,(I3.dropped ea).mG (pins':=[]) λp hp=>absurd hp (by simp)⟩,⟨_,⟨⟨_,φ,⟨rfl,rfl⟩,rfl⟩,I1.gone O a fresh⟩,rfl⟩,λb hb=>?_,λT fl z=>(nomatch z),?_,hz⟩
   . have:b=a:=by simpa [j0] using hb
     rw[this];exact qH
   rw[uF ne,aq ne,ae]
section
variable {X:Cx}{st:Stmt}{rest:List Stmt}{t u:TS}
def PS.zero (h:PS X st t):L7 X st t:=λs σ H D I q=>h [] s σ H D I q
def sh.zero (h:sh X rest t):C5 X rest t:=λs σ H D I q=>h [] s σ H D I q
def i8 (h1:L7 X st t)(h2:C5 X rest u):C5 X (st::rest) (Eu t u):=by
 intro s σ H D I h;refine wpAny_execs_cons (bE (h1 s σ H {D with nx:=u D} I h) λf s1 q=>?_);cases f with
 |next =>obtain⟨σ',H',I',q⟩:=q;exact h2 s1 σ' H' D I' q
 |ret v=>exact q|brk=>exact q|cont=>exact q
end
section
def dj.Ln {x:Str}{st:Stmt}{f:Addr}{N:List Str}{k:Nat}(F:dj K x qual st f fd) (S:aG N ps (aw st)) (len:∀vs H Q E,sp vs H Q E->vs.length=ps.length)
  (MP:∀(MK:Value) (A:Around) (outer:List Env) (s:Shared) (H:Hp) (vs:List V) (Q:VK) (E:XK),cU k (A.deeper (envOfC qual (aw st) s.heap.objs.size f MK))->sp vs H Q E ->
   ∃t,C5 (ot bB P w K mg MH N qual (aw st) f MK A outer s H E).Je (b9 st) t/\t {nx:=λ_ H'=>Q .cv H',rt:=Q} (start N vs) H):a8 P w K mg MH bB (k+1) f fd ps sp:=by
 obtain⟨oc,od,kV,doc,pm,an,MK,ct,NF,rfl,lk,Ni⟩:=F.ex;refine B6 lk Ni S len λA outer s H vs Q E hr Nj=>?_;obtain⟨t,h,q⟩:=MP MK A outer s H vs Q E hr Nj;exact⟨t,λs1 σ H1 D I hw=>aaa (h s1 σ H1 D (I.iT _) hw) (λ_ _ q=>q.dk) λ_ _ z=>False.elim z,q⟩
end
def Ld (a C dx:Addr):HO:=.ext λh=>∃(oe:Obj) (vs:Array Value),h.get? a=some oe/\oe.cls=.ref C/\oe.dict=some dx/\oe.data=.fields vs
def HK {oe:Obj}{vs:Array Value}(e:h.get? a=some oe)(c:oe.cls=.ref C)(x:oe.dict=some dx)(d:oe.data=.fields vs):bL P w H h a (Ld a C dx) :=
 ⟨⟨oe,vs,e,c,x,d⟩,⟨_,e⟩,λh1 h2 ⟨o,vs,e,r⟩ k=>⟨o,vs,k _ e,r⟩⟩
def KG (C:Addr)(ta:TE)(f:Str):TE:=λσ H Q=>ta σ H λx H1=>∃a dx fs v,x=.ref a/\H1 a=some (Ld a C dx)/\H1 dx=some (sO dx fs)/\fs.lookup f=some v/\Q v H1
def Al {e:Expr}(Z:qP X.K C N fI)(nf:PySem.W.findIn X.K (.ref C) f=some none)(he:PE X e ta)(hb:attributeBase e f X.env (eval e X.env)=eval e X.env):PE X (.Attribute e f pos) (KG C ta f):=by intro MG s σ H Q I h;obtain⟨oC,hC,hF⟩:=Z.cls;refine Ah hb (bE (he MG s σ H _ I h) λu s1 ⟨x,H1,I1,rx,a,dx,fs,v,ex,ea,ed,l,q⟩=>?_);subst ex;obtain rfl:u=Value.ref a:=rx;obtain⟨⟨oe,vs,e1,c1,x1,d1⟩,_,_⟩:=I1.bw a _ ea;obtain⟨⟨mA,n1,rl⟩,_,_⟩:=I1.bw dx _ ed;have rv:=rl f;rw[l] at rv;obtain⟨u,hu,ru⟩:=jt.some_of rv;have hK:=I1.n_;obtain⟨hp,ga,d,tk,os⟩:=s1;exact wG hK hC hF Z.ga Z.gt nf ⟨oe,e1,⟨c1,x1⟩,d1⟩ n1 hu (PySem.W.handedOut_of (tU ru)) ⟨v,H1,I1.tok _,ru,q⟩
def EE (R:Int->Int->Prop):XK:=λ_ W8 H=>∃dx k p,W8=some dx/\H dx=some (sO dx (ff k p))/\R k p
def JX {R:Int->Int->Prop}{k p:Int}(h:R k p):Rz C (EE R) k p:=λ_ dx e=>⟨dx,k,p,rfl,e,h⟩
abbrev Cx.GK (X:Cx)(a:Addr):Cx:={X with A:=X.A.mark (some (.ref a)),calm:=false,xe:=λ_ _=>False}
section
variable {X:Cx}{MG:abE}{σ:St}{H:Hp}{s:Shared}
theorem Inv.GK (I:Inv X MG σ H s) (a:Addr):Inv (X.GK a) MG σ H s :=
 ⟨⟨I.ok.mod,I.ok.kind,I.ok.glob,I.ok.blt,I.ok.above,I.ok.inj,I.ok.has,I.ok.JA,λz=>(by cases z),I.ok.frames,I.ok.G7,I.ok.JV,I.ok.bs,I.ok.D3,I.ok.Bp,I.ok.Ba,I.ok.m_,I.ok.GJ⟩,I.os,I.bare,I.MH,I.loc,I.cell,I.free,I.h_,I.pin,I.bw,I.len⟩
def Inv.KN (I:Inv (X.GK a) MG σ H s)(ok:X.Ok):Inv X MG σ H s:=⟨ok,I.os,I.bare,I.MH,I.loc,I.cell,I.free,I.h_,I.pin,I.bw,I.len⟩
def Inv.Jm {h':Heap}{m':abD}{t':Nat}(I:Inv X [] σ H s)(O:nO X)(hn:h'.Ns X.env.locals m')(sb:Heap.SameBut X.env.locals s.heap h'):Inv X [] (List.replicate X.N.length none) H {s with heap:=h',toks:=t'}:=by
 refine⟨I.ok,I.os,I.bare,⟨λb o e n hb hx=>?_,λb o e n hb hx=>?_,I.MH.free,λb o e hx=>?_,I.MH.o_,I.MH.nP,I.MH.o5⟩,⟨m',hn,λi x v e1 e2 _=>?_⟩,λx c e=>?_,I.free,I.h_,λp hp=>?_,λb u e=>?_,by simp⟩
 . exact (sb.2 b (Zv (Zz (Y8 e) I.ok.above))).trans (I.MH.keep b o e n hb hx)
 . obtain⟨sl,z⟩:=I.MH.slot b o e n hb hx;exact⟨sl,(sb.2 b (Zv (Zz (Y8 e) I.ok.above))).trans z⟩
 . obtain⟨o',z⟩:=I.MH.there b o e hx;exact⟨o',(sb.2 b (Zv (Zz (Y8 e) I.ok.above))).trans z⟩
 . rw[List.getElem?_replicate] at e2;split at e2 <;> cases e2
 . obtain⟨v,z⟩:=I.cell x c e;exact⟨v,z.sameBut sb (I.G4 x c e)⟩
 . rw[O.pn] at hp;simp at hp
 refine (I.bw b u e).ly (λc v hc q=>(sb.2 c ?_).trans q) (λ_ q=>q) λ_ _ q=>q;rintro rfl;have fr:=I.free;rcases hc with rfl|hc
 . rw[fr] at e;cases e
 rw[fr] at hc;cases hc
end
def Mz (X:Cx)(MG:abE)(D:Ends)(f:Flow)(s':Shared):Prop:=match f with
 |.ret u=>SP X [] D (.ret u) s'|f=>SP X MG D f s'
def Mj (X:Cx)(st:Stmt)(t:TS):Prop:=∀(MG:abE) (s:Shared) (σ:St) (H:Hp) (D:Ends),Inv X MG σ H s->t D σ H->wpAny (model X.prog X.w) X.A (exec st X.env) (Mz X MG D) X.xe s
def E5 {tg iter:Expr}{st:Stmt}(hp:PassesOwn (model X.prog X.w) X.A X.env X.xe)(hc:X.calm=true)(hi:PI X tg iter wi)(hg:PG X tg g)(hb:Mj X st tb)
  (hs:∀x,foldedSetIterable iter X.env x=pure x:=by intro _;rfl):L7 X (.For tg iter [st] [] pos) (Hu wi g tb):=by
 intro s σ H D I h;refine wpAny_For (bE (hi [] s σ H _ I h) λv s1 h1=>bE h1 λQ1 s2 h2=>?_) hs;obtain⟨it,fp,tn,J,H2,e,I2,T,Pk,f2,W,⟨m0,w0⟩,turn⟩:=h2;subst e;have M0:∀{H':Hp},(∀b∈fp,H' b=none)->∀b∈fp,nQ X [] H' b:=λhn b hb=>⟨hn b hb,(f2 b hb).2⟩;refine codeAny_forLoop_any (λn s'=>∃i σ' H',Inv X [] σ' H' s'/\tn i s'.heap/\(∀b∈fp,H' b=none)/\W i n σ' H') ?_ m0 ⟨0,σ,H2,I2,Pk,λb hb=>(f2 b hb).1,w0⟩;rintro n s3 ⟨i,σ3,H3,I3,OX,P5,w3⟩;rcases turn i n σ3 H3 w3 with ⟨stop,qn⟩|⟨go,N,hN,step⟩
 . refine aac hp (bE (T.done X rfl rfl rfl hc i [] s3 σ3 H3 X.xe I3 (M0 P5) OX stop) λr s4 ⟨hr,I4⟩=>?_);subst hr;exact aaP ⟨σ3,H3,I4,qn⟩
 refine aac hp (bE (T.item X rfl rfl rfl hc i [] s3 σ3 H3 X.xe I3 (M0 P5) OX go) λr s4 ⟨u,hr,h4⟩=>?_);subst hr;refine aac hp (bE h4 λ_ s5 ⟨x,H5,I5,r5,y5,N2,R_⟩=>?_);have Sa:=I5.pinned (M0 R_) (T.obj _ _ N2);refine aac hp (bE (hg _ s5 σ3 H5 x u _ Sa r5 (step x H5 y5)) λ_ s6 ⟨σ6,H6,I6,q6⟩=>?_);refine aac hp (wpAny_execs_cons (bE (hb _ s6 σ6 H6 _ I6 q6) λf s7 q7=>?_));have again:∀{σ7:St} {H7:Hp},Inv X ([]++oq fp s5.heap) σ7 H7 s7->N σ7 H7->∃m,m < n/\∃i σ' H',Inv X [] σ' H' s7/\tn i s7.heap/\(∀b∈fp,H' b=none)/\W i m σ' H':=λ{σ7 H7} I7 n7=>by obtain⟨m',hm,w7⟩:=hN σ7 H7 n7;refine⟨m',hm,i+1,σ7,H7,I7.iW,T.keep _ _ _ N2 λb hb o e=>(I7.pin (b,o) (ZS _ (ZS _ (g_ hb e)))).1,λb hb=>?_,w7⟩;obtain⟨o,e,d⟩:=T.obj _ _ N2 b hb;exact (I7.pin (b,o) (ZS _ (ZS _ (g_ hb e)))).2.1
 cases f with
 |next=>obtain⟨σ7,H7,I7,n7⟩:=q7;exact aaP (again I7 n7)
 |cont=>obtain⟨σ7,H7,I7,n7⟩:=q7;exact again I7 n7
 |brk=>obtain⟨σ7,H7,I7,q7⟩:=q7;exact⟨σ7,H7,I7.iW,q7⟩
 |ret v=>exact q7
def LO (C:Addr)(i:Nat)(R:Int->Int->Prop)(tb th:TS):TS:=λD σ H=>tb D σ H /\
 ∀(σ':St) (H':Hp) (a dx:Addr) (k p:Int),R k p->σ'[i]?=some (some (.ref a))->H' a=some (Ld a C dx)->H' dx=some (sO dx (ff k p))->th {nx:=λ_ _=>False,rt:=D.rt} σ' H'
def Ib {R:Int->Int->Prop}{x n:Str}{SM:Pos}{body OH:List Stmt}{b0:Stmt}{th:TS}(O:nO X)(Z:qP X.K C N fI)(hg:Gl X x)(hm:X.mg x=some (.ref C))(hN:X.N.Nodup)(hi:X.N[i]?=some n)
  (hl:X.env.scope.names.lookup n=some .local)(hb:sh (X.iT (XF X C (EE R))) body tb)(hh:∀a,sh (X.GK a) (b0::OH) th)(Nn:(x==("__debug__":Str))=false:=by decide) :
  Mj X (.Try body [.ExceptHandler (some (.Name x np)) (some n) (b0::OH) SM] [] [] pos) (LO C i R tb th):=by
 rintro MG s σ H D I ⟨hq,W9⟩;obtain⟨oC,hC,hF⟩:=Z.cls;refine wpAny_Try_except (aaa (hb MG s σ H D (I.iT _) hq) (λf s1 q=>?_) λe s1 z=>?_)
 . cases f with
   |next=>exact aaP q.dk|brk=>exact q.dk|cont=>exact q.dk|ret u =>obtain⟨v,σ',H',I',r⟩:=q.dk;exact⟨v,σ',H',I'.mG (pins':=[]) λp hp=>absurd hp (by simp),r⟩
 obtain⟨σ1,H1,a,dx,t,k,p,⟨rfl,I1⟩,F1,hH,OG,hx,hz⟩:=z;obtain⟨NI,k',p',e1,e2,hR⟩:=hz H1 dx hx;cases e1;refine xD O I1 F1 hH OG λg T I2 F2 H2=>?_;refine m9 (v:=none) O I2 F2 H2 λg2 I3 F3=>?_;obtain⟨vs3,⟨⟨oe3,W_,⟨Xa,xe3⟩,de3⟩,_⟩,_⟩:=id F3;obtain⟨_,_,_,_,_,_,_,_,_,_,_,_,_,Pq⟩:=id hF;refine wpAny_handleBy_cons (codeAny_handlers_test (nj (X:=X.GK a) (I3.GK a) hg hm ?_ Nn)) (by intro z;cases z);refine wpAny_excMatches_sub_self (Pq ▸ I3.n_ _ _ hC) W_ Xa (by decide) (codeAny_handlers_suite_as ?_);have H3:∀b∈j0 a (some (T,(none:Option Addr).elim Value.none λf=>rawInt f)),H1 b=none:=H2;refine m9 (v:=none) O I3 F3 H3 λg4 I4 F4=>?_;obtain⟨vs4,⟨⟨oe4,O5,⟨Xb,Xc⟩,Pr⟩,z4⟩,_⟩:=id F4;have nL:a≠X.env.locals:=by rintro rfl;obtain⟨m,⟨o',es,ep,M3,Nf,_⟩,_⟩:=I4.loc;rw[M3] at O5;cases O5;rw[Nf] at Pr;cases Pr
 have nC:∀x c,X.env.cells.lookup x=some c->c≠a:=by rintro x c e rfl;obtain⟨v,o',M3,Nf⟩:=I4.cell x c e;rw[M3] at O5;cases O5;rw[Nf] at Pr;cases Pr
 have nf:a∉X.fs:=λz=>by obtain⟨_,o',M3,Nf⟩:=I4.m_.mem z;rw[M3] at O5;cases O5;exact Nf _ Pr
 have I5:Inv X [] σ1 (upd H1 a (Ld a C dx)) _:=I4.seen O z4 (hH a (ZG ..)) nL nC rfl nf (HK O5 Xb Xc Pr);have nd:dx≠a:=λz=>by have:=hH a (ZG ..);rw[<-z,hx] at this;cases this
 refine mz (X:=X.GK a) (v:=V.ref a) (I5.GK a) hN hi (.inl hl) rfl (λs6 I6=>?_) (.inr hl);have li:i < σ1.length:=by rw[I4.len];exact (Y9.mp hi).1
 refine aaa (hh a [] s6 _ _ {nx:=λ_ _=>False,rt:=D.rt} I6 (W9 _ _ a dx k' p' hR (aa9 li) ae (by rw[aq nd];exact e2))) (λf s7 z=>?_) λ_ _ z=>False.elim z;cases f with
 |next=>obtain⟨_,_,_,z⟩:=z;exact False.elim z
 |brk=>obtain⟨_,_,_,z⟩:=z;exact False.elim z
 |cont=>obtain⟨_,_,_,z⟩:=z;exact False.elim z
 |ret u =>obtain⟨v,σ8,H8,I8,rv,z⟩:=z;have I8:Inv X [] σ8 H8 s7:=I8.KN I.ok;obtain⟨m,hn,_⟩:=id I8.loc;refine wpAny_nameGoes hl hn (by rw[I.ok.kind];rfl) λh' m' NY sb=>?_;exact⟨v,_,H8,I8.Jm O NY sb,rv,z⟩
end L2
namespace L2
section
variable {X:Cx}
def xY:i5 X (.builtin "sorted") (λxs H Q=>∃(t:Addr) (ns:List Int),xs=[.ref t]/\bY X.K H t (ns.map V.int)/\ns.length < 64 /\
  ∀(ms:List Int) (p:Addr),ms.Perm ns->ms.Pairwise (·<=·)->H p=none->Q (.ref p) (upd H p (.lst (ms.map V.int)))):=by
 rintro MG s σ H xs us Q I r ⟨t,ns,rfl,ht,Oa,q⟩;rw[Vals.yG r];obtain⟨MJ,rv,⟨o,ho,hc,n,hd⟩,hz⟩:=I.tuple ht;have hi:=rv.ints;have xr:MJ.length < 64:=by rw[hi.length];exact Oa
 have line:MJ.length<=sizeLine:=Af xr;refine PySem.Calls.call_function_entry kind_sorted plain_sorted entry_sorted (args_sorted1 _) ?_;show wpAny _ _ (checkCount "sorted" 1 1 1 >>= λ_=>collect (.ref t) >>= λvs=>newList vs >>= λl=>holding [l] (call (.builtin "list.sort") [l] []) >>= λ_=>ret l) _ _ _;refine YV (Y2 (YV (wpAny_collect_seq t (.inr rfl) ho hc hd (λh1 k1=>YV (wpAny_newList (YV (aaS ?_)) ?_)) ?_)))
 ·
  have new:(h1.push {cls:=.type "list",data:=.seq MJ.toArray.toList.toArray}).get? h1.objs.size=some (seqObj "list" MJ.toArray 0):=Za h1 rfl;refine aae slot_list_sort ⟨_,new,rfl⟩ entry_list_sort (list_sort_tree new hi xr λout ms p1 p2 p3=>⟨.none,rfl,Y2 ⟨_,rfl,?_⟩⟩) (args_list_sort _);have NR:s.heap.get? h1.objs.size=none:=by
   cases z:s.heap.get? h1.objs.size with
   |none=>rfl|some u=>exact absurd (Y8 (k1 _ _ z)) (aad _)
  obtain⟨ep,at_⟩:=sortedHeap_at (vs:=MJ) (out:=out) new;have keep:∀b u,s.heap.get? b=some u->(sortedHeap (h1.push {cls:=.type "list",data:=.seq MJ.toArray.toList.toArray}) h1.objs.size MJ out).get? b=some u:=λb u e=>by have e1:=YZ {cls:=.type "list",data:=.seq MJ.toArray.toList.toArray} (k1 b u e);rw[sortedHeap_old (λz=>by rw[z,NR] at e;cases e) (Y8 e1)];exact e1
  have len:(ms.map V.int).length<=sizeLine:=by rw[YW,p2.length_eq];exact Af Oa
  exact⟨.ref _,upd H h1.objs.size (.lst (ms.map V.int)),I.grown (t':=s.toks) keep NR ⟨len,out.toList,ep,m8 p1,at_⟩,rfl,q ms _ p2 p3 (I.bw.gone NR)⟩
 . simpa using line
 simpa using line
end
end L2
namespace BwX
open PySem
section
variable {P:Program}{w:World}{A:Around}{E:abC}{s:Shared}
def CG {t:Addr}{k:Nat}{x:Value}(hi:s.heap.IsTupleIter it t k) (ht:s.heap.IsTuple t MJ) (hx:MJ[k]?=some x)
  (q:∀h',h'.IsTupleIter it t (k+1)->Heap.SameBut it s.heap h'->Q x {s with heap:=h'}):wpAny (model P w) A (Builtin.SmallTypes.nextOf (.ref it)) Q E s:=by
 have ty:=hi.typeIs;obtain⟨⟨c1,d1,f1,l1⟩,g1,rfl,rfl⟩:=hi;obtain⟨⟨c2,d2,f2,l2⟩,g2,rfl,n,rfl⟩:=ht;unfold Builtin.SmallTypes.nextOf;refine YV (Z9 (name:=Str.ofString "__next__") ty aaU (aae aaU ty F.entry_tuple_iterator_next ?_ (F.args_tuple_iterator_next_1 _)));obtain⟨hp,ga,d,tk,os⟩:=s;show wpAny _ _ (Builtin.«tuple_iterator.__next__» _) _ _ _
 wp_walk
 rw[ZF,hx];refine YV (wpAny_setField g1 rfl (by simp) (Y2 ⟨x,rfl,Y2 (q _ ⟨_,ZT _ g1 rfl,rfl,?_⟩ (Zj ..))⟩));simp[Obj.mapFields,rawInt]
def DY {t:Addr}{k:Nat}(hh:A.handled=none)(hi:s.heap.IsTupleIter it t k)(ht:s.heap.IsTuple t MJ)(hx:MJ[k]?=none)
  (q:∀h' e,Heap.ExtBut it s.heap h'->(∃o,h'.get? e=some o/\o.cls=.type "StopIteration")->E (.ref e) {s with heap:=h'}):wpAny (model P w) A (Builtin.SmallTypes.nextOf (.ref it)) Q E s:=by
 have ty:=hi.typeIs;obtain⟨⟨c1,d1,f1,l1⟩,g1,rfl,rfl⟩:=hi;obtain⟨⟨c2,d2,f2,l2⟩,g2,rfl,n,rfl⟩:=ht;unfold Builtin.SmallTypes.nextOf;refine YV (Z9 (name:=Str.ofString "__next__") ty aaU (aae aaU ty F.entry_tuple_iterator_next ?_ (F.args_tuple_iterator_next_1 _)));obtain⟨hp,ga,d,tk,os⟩:=s;have h1:A.in1.handled=none:=hh;show wpAny _ _ (Builtin.«tuple_iterator.__next__» _) _ _ _
 wp_walk
 rw[ZF,hx]
 wp_walk
 unfold raiseNew
 wp_walk
 exact q _ _ (((Zj ..).extBut.push _).push _) ⟨_,Za _ rfl,rfl⟩
end
structure Src (P:Program)(w:World)(i:Addr)(T:Nat->Heap->Prop)(xs:Array Value)(fp:List Addr):Prop where
 item:∀(A:Around) (k:Nat) (x:Value) (s:Shared) (Q:abC) (E:abC),T k s.heap->xs[k]?=some x->(∀h',T (k+1) h'->Heap.SameBut i s.heap h'->Q x {s with heap:=h'})->wpAny (model P w) A (Builtin.SmallTypes.nextOf (.ref i)) Q E s
 stop:∀(A:Around) (k:Nat) (s:Shared) (Q:abC) (E:abC),A.handled=none->T k s.heap->xs[k]?=none->(∀h' e,Heap.ExtBut i s.heap h'->(∃o,h'.get? e=some o/\o.cls=.type "StopIteration")->E (.ref e) {s with heap:=h'})->wpAny (model P w) A (Builtin.SmallTypes.nextOf (.ref i)) Q E s
 keep:∀k h h',T k h->(∀b∈fp,∀o,h.get? b=some o->h'.get? b=some o)->T k h'
 mem:i∈fp
def zP {t:Addr}(ne:t≠it):Src P w it (λk h=>h.IsTupleIter it t k/\h.IsTuple t MJ) MJ [it,t] where
 item:=λA k x s Q E st hx q=>CG st.1 st.2 hx λh' z sb=>q h' ⟨z,st.2.extBut sb.extBut ne⟩ sb
 stop:=λA k s Q E hh st hx q=>DY hh st.1 st.2 hx q
 keep:=λk h h' st z=>⟨st.1.at λo e=>z it (by simp) o e,by obtain⟨o,e,r⟩:=st.2;exact⟨o,z t (by simp) o e,r⟩⟩
 mem:=by simp
def Aj {t:Addr}(ne:t≠it):Src P w it (λk h=>h.IsListIter it t k/\h.IsList t MJ) MJ [it,t] where
 item:=λA k x s Q E st hx q=>wpAny_nextOf_list_item st.1 st.2 hx λh' z sb=>q h' ⟨z,st.2.extBut sb.extBut ne⟩ sb
 stop:=λA k s Q E hh st hx q=>wpAny_nextOf_list_end hh st.1 st.2 hx q
 keep:=λk h h' st z=>⟨st.1.at λo e=>z it (by simp) o e,st.2.at λo e=>z t (by simp) o e⟩
 mem:=by simp
structure Zp (z TI TO i1 i2:Addr)(p1 p2:List Addr)(T1 T2:Nat->Heap->Prop)(f0:Value)(k1 k2:Nat)(h:Heap):Prop where
 zp:IsZip h z TI TO f0
 ti:IsPair h TI (.ref i1) (.ref i2)
 to:∃a b,IsPair h TO a b
 s1:T1 k1 h
 s2:T2 k2 h
 n1:¬z∈p1/\¬TO∈p1/\¬i2∈p1
 n2:¬z∈p2/\¬TO∈p2/\¬i1∈p2
 nz:TI≠z/\TO≠z/\TI≠TO/\TI≠i1/\TI≠i2/\TO≠i1/\TO≠i2/\i1≠z/\i2≠z
section
variable {P:Program}{w:World}{A:Around}{E:abC}{s:Shared}{z TI TO i1 i2:Addr}{p1 p2:List Addr}{T1 T2:Nat->Heap->Prop}{k1 k2:Nat}{xs ys:Array Value}
def Ek {x y:Value}(S1:Src P w i1 T1 xs p1) (S2:Src P w i2 T2 ys p2) (Z:Zp z TI TO i1 i2 p1 p2 T1 T2 .none k1 k2 s.heap) (hx:xs[k1]?=some x) (hy:ys[k2]?=some y)
  (q:∀h',Zp z TI TO i1 i2 p1 p2 T1 T2 (rawInt s.heap.objs.size) (k1+1) (k2+1) h'->IsPair h' s.heap.objs.size x y->(∀c o,c≠z->c≠TO->c≠i1->c≠i2->s.heap.get? c=some o->h'.get? c=some o)->Q (.ref s.heap.objs.size) {s with heap:=h'}) :
  wpAny (model P w) A (Builtin.«zip.__next__» ⟨[.ref z],[]⟩) (λfin s'=>∃v,fin=.done (.ret v)/\Q v s') E s:=by
 obtain⟨hz,NS,⟨a,b,NA⟩,t1,t2,n1,n2,nz⟩:=Z;obtain⟨hp,ga,d,tk,os⟩:=s;have d1:∀(h:Heap) (Q:abC) (E:abC),(∀h',T1 (k1+1) h'->Heap.SameBut i1 h h'->Q x ⟨h',ga,d,tk,os⟩)->T1 k1 h->wpAny (model P w) A (Builtin.SmallTypes.nextOf (.ref i1)) Q E ⟨h,ga,d,tk,os⟩:=λh Q E c t=>S1.item A k1 x ⟨h,ga,d,tk,os⟩ Q E t hx c;have d2:∀(h:Heap) (Q:abC) (E:abC),(∀h',T2 (k2+1) h'->Heap.SameBut i2 h h'->Q y ⟨h',ga,d,tk,os⟩)->T2 k2 h->wpAny (model P w) A (Builtin.SmallTypes.nextOf (.ref i2)) Q E ⟨h,ga,d,tk,os⟩:=λh Q E c t=>S2.item A k2 y ⟨h,ga,d,tk,os⟩ Q E t hy c;obtain⟨z1,z2,z3,z4,z5,z6,z7,z8,z9⟩:=nz;have o1:∀b∈p1,b≠z/\b≠TO/\b≠i2:=λb hb=>⟨λe=>n1.1 (e ▸ hb),λe=>n1.2.1 (e ▸ hb),λe=>n1.2.2 (e ▸ hb)⟩;have o2:∀b∈p2,b≠z/\b≠TO/\b≠i1:=λb hb=>⟨λe=>n2.1 (e ▸ hb),λe=>n2.2.1 (e ▸ hb),λe=>n2.2.2 (e ▸ hb)⟩;have z12:i1≠i2:=(o1 i1 S1.mem).2.2
 wp_walk using wpAny_onRaise,d1
 rotate_left
 . exact S1.keep k1 _ _ t1 λb hb o e=>((Zj ..).2 b (o1 b hb).1).trans e
 intro h1 UH Og;have SN:∀b,b≠z->(hp.update z (Obj.mapFields λx=>x.setIfInBounds 0 Value.ellipsis)).get? b=hp.get? b:=λb n=>(Zj ..).2 b n;have Ql:IsZip h1 z TI TO .ellipsis:=(Og.2 z z8.symm).trans (ZT _ hz rfl);have Qm:IsPair h1 TO a b:=(Og.2 TO z6).trans ((SN TO z2).trans NA);have Pt:∀b o,b≠z->b≠i1->hp.get? b=some o->h1.get? b=some o:=λb o n m e=>(Og.2 b m).trans ((SN b n).trans e);have l1:h1.objs.size=hp.objs.size:=Og.1.trans (Zj ..).1;clear SN Og d1
 wp_walk using wpAny_onRaise,d2
 rotate_left
 . exact S2.keep k2 _ _ t2 λb hb o e=>((Zj ..).2 b (o2 b hb).2.1).trans (Pt b o (o2 b hb).1 (o2 b hb).2.2 e)
 intro h2 Xd Qn;have up1:∀b,b≠TO->(h1.update TO (Obj.mapSeq λv=>v.setIfInBounds 0 x)).get? b=h1.get? b:=λb n=>(Zj ..).2 b n;have SO:IsZip h2 z TI TO .ellipsis:=(Qn.2 z z9.symm).trans ((up1 z z2.symm).trans Ql);have SQ:IsPair h2 TO x b:=(Qn.2 TO z7).trans (ZT _ Qm rfl);have Q_:∀b o,b≠TO->b≠i2->h1.get? b=some o->h2.get? b=some o:=λb o n m e=>(Qn.2 b m).trans ((up1 b n).trans e);have l2:h2.objs.size=hp.objs.size:=(Qn.1.trans (Zj ..).1).trans l1;clear up1 Qn d2
 wp_walk
 have Qo:IsPair (h2.update TO (Obj.mapSeq λx=>x.setIfInBounds (0+1) y)) TO x y:=ZT _ SQ rfl;have Qp:∀b o,b≠TO->h2.get? b=some o->(h2.update TO (Obj.mapSeq λx=>x.setIfInBounds (0+1) y)).get? b=some o:=λb o n e=>((Zj ..).2 b n).trans e;have l3:(h2.update TO (Obj.mapSeq λx=>x.setIfInBounds (0+1) y)).objs.size=hp.objs.size:=(Zj ..).1.trans l2;refine⟨_,rfl,?_⟩;generalize h2.update TO (Obj.mapSeq λx=>x.setIfInBounds (0+1) y)=h3 at Qo Qp l3 ⊢;dsimp only at q;rw[<-l3] at q;have zn:z≠h3.objs.size:=Zv (by rw[l3];exact Y8 hz);have g4:∀b o,h3.get? b=some o->(h3.push {cls:=.type "tuple",data:=.seq #[x,y]}).get? b=some o:=λb o e=>YZ _ e;have gn:(h3.push {cls:=.type "tuple",data:=.seq #[x,y]}).get? h3.objs.size=some {cls:=.type "tuple",data:=.seq #[x,y]}:=Za _ rfl;show Q _ ⟨((h3.push {cls:=.type "tuple",data:=.seq #[x,y]}).update z _).update z _,ga,d,tk,os⟩;generalize h3.push {cls:=.type "tuple",data:=.seq #[x,y]}=h4 at g4 gn ⊢;have Xe:IsZip h4 z TI TO .ellipsis:=g4 _ _ (Qp _ _ z2.symm SO);have kz:∀b o,b≠z->h4.get? b=some o->((h4.update z (Obj.mapFields λv=>v.setIfInBounds 0 (rawInt (h3.objs.size:Nat)))).update z (Obj.mapFields λv=>v.setIfInBounds 1 (.bool false))).get? b=some o:=λb o n e=>((Zj ..).2 b n).trans (((Zj ..).2 b n).trans e);have kp:∀b o,b≠z->b≠TO->b≠i1->b≠i2->hp.get? b=some o->((h4.update z (Obj.mapFields λv=>v.setIfInBounds 0 (rawInt (h3.objs.size:Nat)))).update z (Obj.mapFields λv=>v.setIfInBounds 1 (.bool false))).get? b=some o:=λb o n1 n2 n3 n4 e=>kz b o n1 (g4 b o (Qp b o n2 (Q_ b o n2 n4 (Pt b o n1 n3 e))));have Xf:IsZip (h4.update z (Obj.mapFields λv=>v.setIfInBounds 0 (rawInt (h3.objs.size:Nat)))) z TI TO (rawInt (h3.objs.size:Nat)):=ZT _ Xe rfl;refine q _ ⟨ZT _ Xf rfl,kp _ _ z1 z3 z4 z5 NS,⟨x,y,kz _ _ z2 (g4 _ _ Qo)⟩,S1.keep _ _ _ UH λb hb o e=>kz b o (o1 b hb).1 (g4 b o (Qp b o (o1 b hb).2.1 (Q_ b o (o1 b hb).2.1 (o1 b hb).2.2 e))),S2.keep _ _ _ Xd λb hb o e=>kz b o (o2 b hb).1 (g4 b o (Qp b o (o2 b hb).2.1 e)),n1,n2,⟨z1,z2,z3,z4,z5,z6,z7,z8,z9⟩⟩ (kz _ _ zn.symm gn) kp
def EB {Q:Fin->Shared->Prop}(hh:A.handled=none)(S1:Src P w i1 T1 xs p1)(S2:Src P w i2 T2 ys p2)(Z:Zp z TI TO i1 i2 p1 p2 T1 T2 .none k1 k2 s.heap)(he:xs[k1]?=none\/ys[k2]?=none)
  (q:∀h' e,(∀c o,c≠z->c≠TO->c≠i1->c≠i2->s.heap.get? c=some o->h'.get? c=some o)->(∃o,h'.get? e=some o/\o.cls=.type "StopIteration")->E (.ref e) {s with heap:=h'}) :
  wpAny (model P w) A (Builtin.«zip.__next__» ⟨[.ref z],[]⟩) Q E s:=by
 obtain⟨hz,NS,⟨a,b,NA⟩,t1,t2,n1,n2,nz⟩:=Z;obtain⟨hp,ga,d,tk,os⟩:=s;obtain⟨z1,z2,z3,z4,z5,z6,z7,z8,z9⟩:=nz;have o1:∀b∈p1,b≠z:=λb hb e=>n1.1 (e ▸ hb);have o2:∀b∈p2,b≠z/\b≠TO/\b≠i1:=λb hb=>⟨λe=>n2.1 (e ▸ hb),λe=>n2.2.1 (e ▸ hb),λe=>n2.2.2 (e ▸ hb)⟩;have zs:∀(h:Heap) (e:Addr),IsZip h z TI TO .ellipsis->(∃o,h.get? e=some o/\o.cls=.type "StopIteration")->∃o,(h.update z (Obj.mapFields λv=>v.setIfInBounds 0 .none)).get? e=some o/\o.cls=.type "StopIteration":=λh e hz ⟨o,ho,hc⟩=>by refine⟨o,((Zj ..).2 e ?_).trans ho,hc⟩;rintro rfl;rw[hz] at ho;cases ho;simp at hc
 cases hx:xs[k1]? with
 |none =>
  have d1:∀(h:Heap) (Q:abC) (E:abC),(∀h' e,Heap.ExtBut i1 h h'->(∃o,h'.get? e=some o/\o.cls=.type "StopIteration")->E (.ref e) ⟨h',ga,d,tk,os⟩)->T1 k1 h->wpAny (model P w) A (Builtin.SmallTypes.nextOf (.ref i1)) Q E ⟨h,ga,d,tk,os⟩:=λh Q E c t=>S1.stop A k1 ⟨h,ga,d,tk,os⟩ Q E hh t hx c
  wp_walk using wpAny_onRaise,d1
  rotate_left
  . exact S1.keep k1 _ _ t1 λb hb o e=>((Zj ..).2 b (o1 b hb)).trans e
  intro h1 e eb st;have Ql:IsZip h1 z TI TO .ellipsis:=eb z _ z8.symm (ZT _ hz rfl);have kp:∀b o,b≠z->b≠i1->hp.get? b=some o->h1.get? b=some o:=λb o n m q=>eb b o m (((Zj ..).2 b n).trans q)
  wp_walk
  exact q _ e (λc o c1 c2 c3 c4 w=>((Zj ..).2 c c1).trans (kp c o c1 c3 w)) (zs h1 e Ql st)
 |some x =>
  have hy:ys[k2]?=none:=he.resolve_left (by rw[hx];simp);have d1:∀(h:Heap) (Q:abC) (E:abC),(∀h',T1 (k1+1) h'->Heap.SameBut i1 h h'->Q x ⟨h',ga,d,tk,os⟩)->T1 k1 h->wpAny (model P w) A (Builtin.SmallTypes.nextOf (.ref i1)) Q E ⟨h,ga,d,tk,os⟩:=λh Q E c t=>S1.item A k1 x ⟨h,ga,d,tk,os⟩ Q E t hx c;have d2:∀(h:Heap) (Q:abC) (E:abC),(∀h' e,Heap.ExtBut i2 h h'->(∃o,h'.get? e=some o/\o.cls=.type "StopIteration")->E (.ref e) ⟨h',ga,d,tk,os⟩)->T2 k2 h->wpAny (model P w) A (Builtin.SmallTypes.nextOf (.ref i2)) Q E ⟨h,ga,d,tk,os⟩:=λh Q E c t=>S2.stop A k2 ⟨h,ga,d,tk,os⟩ Q E hh t hy c
  wp_walk using wpAny_onRaise,d1
  rotate_left
  . exact S1.keep k1 _ _ t1 λb hb o e=>((Zj ..).2 b (o1 b hb)).trans e
  intro h1 UH Og;have Ql:IsZip h1 z TI TO .ellipsis:=(Og.2 z z8.symm).trans (ZT _ hz rfl);have Pt:∀b o,b≠z->b≠i1->hp.get? b=some o->h1.get? b=some o:=λb o n m e=>(Og.2 b m).trans (((Zj ..).2 b n).trans e);have Qm:IsPair h1 TO a b:=Pt _ _ z2 z6 NA;clear Og d1
  wp_walk using wpAny_onRaise,d2
  rotate_left
  . exact S2.keep k2 _ _ t2 λb hb o e=>((Zj ..).2 b (o2 b hb).2.1).trans (Pt b o (o2 b hb).1 (o2 b hb).2.2 e)
  intro h2 e eb st;have SO:IsZip h2 z TI TO .ellipsis:=eb z _ z9.symm (((Zj ..).2 z z2.symm).trans Ql);have Q_:∀b o,b≠TO->b≠i2->h1.get? b=some o->h2.get? b=some o:=λb o n m q=>eb b o m (((Zj ..).2 b n).trans q)
  wp_walk
  exact q _ e (λc o c1 c2 c3 c4 w=>((Zj ..).2 c c1).trans (Q_ c o c2 c4 (Pt c o c1 c3 w))) (zs h2 e SO st)
abbrev Zt (z TI TO i1 i2 t l:Addr)(xs ys:Array Value)(f0:Value)(k:Nat)(h:Heap):Prop:=Zp z TI TO i1 i2 [i1,t] [i2,l] (λk h=>h.IsTupleIter i1 t k/\h.IsTuple t xs) (λk h=>h.IsListIter i2 l k/\h.IsList l ys) f0 k k h
def HS (t l:Addr)(xs ys:Array Value):Meets (Builtin.«zip.__new__» ⟨[.type "zip",.ref t,.ref l],[]⟩) (λ_ R s=>s.heap.IsTuple t xs/\s.heap.IsList l ys /\
  ∀h',Zt (s.heap.objs.size+4) (s.heap.objs.size+2) (s.heap.objs.size+3) s.heap.objs.size (s.heap.objs.size+1) t l xs ys .none 0 h'->(∀c o,s.heap.get? c=some o->h'.get? c=some o)->R (.ok (.ret (.ref (s.heap.objs.size+4)))) {s with heap:=h'}):=by
 refine .of_wp λP w A R s c=>?_;obtain⟨ht,hl,q⟩:=c;obtain⟨hp,ga,d,tk,os⟩:=s;have sz:=sub_zip;have t0:(Shared.heap ⟨hp,ga,d,tk,os⟩).IsTuple t xs:=ht;have l0:(Shared.heap ⟨hp.push {cls:=.type "tuple_iterator",data:=.fields #[.ref t,.int 0 0]},ga,d,tk,os⟩).IsList l ys:=hl.push _;have nt:@LT.lt Nat _ t hp.objs.size:=by obtain⟨_,e,_⟩:=ht;exact Y8 e
 have nl:@LT.lt Nat _ l hp.objs.size:=by obtain⟨_,e,_⟩:=hl;exact Y8 e
 wp_walk using wpAny_pyIter_tuple t0,wpAny_pyIter_list l0
 refine⟨_,rfl,?_⟩;have z1:(hp.push {cls:=.type "tuple_iterator",data:=.fields #[.ref t,.int 0 0]}).objs.size=hp.objs.size+1:=Z2 ..;have g1:(hp.push {cls:=.type "tuple_iterator",data:=.fields #[.ref t,.int 0 0]}).get? hp.objs.size=some {cls:=.type "tuple_iterator",data:=.fields #[.ref t,.int 0 0]}:=Za _ rfl;have k1:∀c o,hp.get? c=some o->(hp.push {cls:=.type "tuple_iterator",data:=.fields #[.ref t,.int 0 0]}).get? c=some o:=λc o e=>YZ _ e;dsimp only;generalize hp.push {cls:=.type "tuple_iterator",data:=.fields #[.ref t,.int 0 0]}=h1 at z1 g1 k1 ⊢;have z2:(h1.push {cls:=.type "list_iterator",data:=.fields #[.ref l,.int 0 0]}).objs.size=hp.objs.size+2:=(Z2 ..).trans (by rw[z1]);have g2:(h1.push {cls:=.type "list_iterator",data:=.fields #[.ref l,.int 0 0]}).get? h1.objs.size=some {cls:=.type "list_iterator",data:=.fields #[.ref l,.int 0 0]}:=Za _ rfl;have k2:∀c o,h1.get? c=some o->(h1.push {cls:=.type "list_iterator",data:=.fields #[.ref l,.int 0 0]}).get? c=some o:=λc o e=>YZ _ e;generalize h1.push {cls:=.type "list_iterator",data:=.fields #[.ref l,.int 0 0]}=h2 at z2 g2 k2 ⊢;rw[z1] at g2 ⊢;show R (.ok (.ret (.ref ((h2.push {cls:=.type "tuple",data:=.seq #[.ref hp.objs.size,.ref (hp.objs.size+1)]}).push {cls:=.type "tuple",data:=.seq #[.none,.none]}).objs.size))) ⟨((h2.push {cls:=.type "tuple",data:=.seq #[.ref hp.objs.size,.ref (hp.objs.size+1)]}).push {cls:=.type "tuple",data:=.seq #[.none,.none]}).push {cls:=.type "zip",data:=.fields #[.none,.bool false,.bool false,.ref h2.objs.size,.ref (h2.push {cls:=.type "tuple",data:=.seq #[.ref hp.objs.size,.ref (hp.objs.size+1)]}).objs.size]},ga,d,tk,os⟩;have z3:(h2.push {cls:=.type "tuple",data:=.seq #[.ref hp.objs.size,.ref (hp.objs.size+1)]}).objs.size=hp.objs.size+3:=(Z2 ..).trans (by rw[z2]);have g3:(h2.push {cls:=.type "tuple",data:=.seq #[.ref hp.objs.size,.ref (hp.objs.size+1)]}).get? h2.objs.size=some {cls:=.type "tuple",data:=.seq #[.ref hp.objs.size,.ref (hp.objs.size+1)]}:=Za _ rfl;have k3:∀c o,h2.get? c=some o->(h2.push {cls:=.type "tuple",data:=.seq #[.ref hp.objs.size,.ref (hp.objs.size+1)]}).get? c=some o:=λc o e=>YZ _ e;generalize h2.push {cls:=.type "tuple",data:=.seq #[.ref hp.objs.size,.ref (hp.objs.size+1)]}=h3 at z3 g3 k3 ⊢;rw[z2] at g3 ⊢;have z4:(h3.push {cls:=.type "tuple",data:=.seq #[.none,.none]}).objs.size=hp.objs.size+4:=(Z2 ..).trans (by rw[z3]);have g4:(h3.push {cls:=.type "tuple",data:=.seq #[.none,.none]}).get? h3.objs.size=some {cls:=.type "tuple",data:=.seq #[.none,.none]}:=Za _ rfl;have k4:∀c o,h3.get? c=some o->(h3.push {cls:=.type "tuple",data:=.seq #[.none,.none]}).get? c=some o:=λc o e=>YZ _ e;generalize h3.push {cls:=.type "tuple",data:=.seq #[.none,.none]}=h4 at z4 g4 k4 ⊢;rw[z3] at g4 ⊢;have g5:∀o:Obj,o.isFreed=false->(h4.push o).get? (hp.objs.size+4)=some o:=λo f=>by rw[<-z4];exact Za _ f
 rw[z4];have k5:∀c o u,h4.get? c=some o->(h4.push u).get? c=some o:=λc o u e=>YZ _ e;refine q _ ⟨g5 _ rfl,k5 _ _ _ (k4 _ _ g3),⟨_,_,k5 _ _ _ g4⟩,⟨⟨_,k5 _ _ _ (k4 _ _ (k3 _ _ (k2 _ _ g1))),rfl,rfl⟩,?_⟩,⟨⟨_,k5 _ _ _ (k4 _ _ (k3 _ _ g2)),rfl,rfl⟩,?_⟩,?_,?_,?_⟩ λc o e=>k5 _ _ _ (k4 _ _ (k3 _ _ (k2 _ _ (k1 _ _ e))))
 . obtain⟨o,e,r⟩:=ht;exact⟨o,k5 _ _ _ (k4 _ _ (k3 _ _ (k2 _ _ (k1 _ _ e)))),r⟩
 . exact hl.at λo e=>k5 _ _ _ (k4 _ _ (k3 _ _ (k2 _ _ (k1 _ _ e))))
 . refine⟨?_,?_,?_⟩ <;> simp only[Y0,aaF,or_false,not_or] <;> exact⟨by intro e;have e:(_:Nat)=_:=e;omega,by intro e;have e:(_:Nat)=_:=e;omega⟩
 . refine⟨?_,?_,?_⟩ <;> simp only[Y0,aaF,or_false,not_or] <;> exact⟨by intro e;have e:(_:Nat)=_:=e;omega,by intro e;have e:(_:Nat)=_:=e;omega⟩
 refine⟨?_,?_,?_,?_,?_,?_,?_,?_,?_⟩ <;> intro e <;> have e:(_:Nat)=_:=e <;> omega
def Gb {t l:Addr}{xs ys:Array Value}(ht:s.heap.IsTuple t xs)(hl:s.heap.IsList l ys)
  (q:∀h',Zt (s.heap.objs.size+4) (s.heap.objs.size+2) (s.heap.objs.size+3) s.heap.objs.size (s.heap.objs.size+1) t l xs ys .none 0 h'->(∀c o,s.heap.get? c=some o->h'.get? c=some o)->Q (.ref (s.heap.objs.size+4)) {s with heap:=h'}):wpAny (model P w) A (call (.type "zip") [.ref t,.ref l]) Q E s :=
 callType_new F.called_zip (by decide) (F.typeCall_zip_2 _ _) (F.newCall_zip_2 _ _) (λo=>F.args_object_init_3 o _ _) F.entry_zip_new (HS t l xs ys) ⟨ht,hl,λh' Z k=>⟨⟨_,Z.zp,rfl⟩,q h' Z k⟩⟩
def uf {t l:Addr}{xs ys:Array Value}{k:Nat}{x y:Value}{Q:Option Value->Shared->Prop}(n1:t≠i1)(n2:l≠i2)(Z:Zt z TI TO i1 i2 t l xs ys .none k s.heap)(hx:xs[k]?=some x)(hy:ys[k]?=some y)
  (q:∀h',Zt z TI TO i1 i2 t l xs ys (rawInt s.heap.objs.size) (k+1) h'->IsPair h' s.heap.objs.size x y->(∀c o,c≠z->c≠TO->c≠i1->c≠i2->s.heap.get? c=some o->h'.get? c=some o)->Q (some (.ref s.heap.objs.size)) {s with heap:=h'}):wpAny (model P w) A (pyNext (.ref z)) Q E s:=by
 have ty:s.TypeIs (.ref z) "zip":=⟨_,Z.zp,rfl⟩;unfold pyNext;exact YV (wpAny_attempt (Z9 (name:=Str.ofString "__next__") ty F.slot_zip_next (aae F.slot_zip_next ty F.entry_zip_next (Ek (zP n1) (Aj n2) Z hx hy λh' a b c=>Y2 (q h' a b c)) (F.args_zip_next_1 _))))
def uN {t l:Addr}{xs ys:Array Value}{k:Nat}{Q:Option Value->Shared->Prop}(hh:A.handled=none)(n1:t≠i1)(n2:l≠i2)(Z:Zt z TI TO i1 i2 t l xs ys .none k s.heap)(he:xs[k]?=none\/ys[k]?=none)
  (q:∀h',(∀c o,c≠z->c≠TO->c≠i1->c≠i2->s.heap.get? c=some o->h'.get? c=some o)->Q none {s with heap:=h'}):wpAny (model P w) A (pyNext (.ref z)) Q E s:=by
 have ty:s.TypeIs (.ref z) "zip":=⟨_,Z.zp,rfl⟩;unfold pyNext;refine YV (wpAny_attempt (Z9 (name:=Str.ofString "__next__") ty F.slot_zip_next (aae F.slot_zip_next ty F.entry_zip_next (EB hh (zP n1) (Aj n2) Z he λh' e kp st=>?_) (F.args_zip_next_1 _))));obtain⟨o,e1,e2⟩:=st;exact YV (wpAny_isInstance (T:="StopIteration") (b:=true) ⟨o,e1,e2⟩ isSubtype_stop (Y2 (q _ kp)))
end
end BwX
namespace BwX
open PySem PyProof.Rows
section
variable {P:Program}{w:World}{A:Around}{E:abC}{s:Shared}
def DS {S t:Addr}{ns:List Int}{R:Result->Shared->Prop}{led:Bool}(hh:A.handled=none) (ht:s.heap.IsTuple t MJ) (hi:IntsAre MJ.toList ns) (hb:MJ.size+1 < scanBound) (ne:t≠S)
  (hS:s.heap.get? S=some {cls:=.type "set",dict:=none,data:=.set #[] 0 (.fresh 0 0 led)})
  (q:∀(h':Heap) (tk:Nat),h'.SetOf (intKind P w) S (λk=>(firstMet (λi=>ns.getD i 0) MJ.size).any (·==k)) (firstMet (λi=>ns.getD i 0) MJ.size).length->(∀b o,b≠S->s.heap.get? b=some o->h'.get? b=some o)->R (.ok (.ret .none)) {s with heap:=h',toks:=tk}) :
  codeAny (model P w) A (.builtin "set.__init__" ⟨[.ref S,.ref t],[]⟩) R s:=by
 have ty:=ht.typeIs;have hT:s.TypeIs (.ref S) "set":=⟨_,hS,rfl⟩;have b1:=F.sub_tuple_set;have b2:=F.sub_tuple_frozenset;have pl:plainId "set.__init__"=true:=by decide +kernel
 refine codeAny_builtin F.entry_set_init ?_;rw[Around.under_plainId pl _];obtain⟨hp,ga,d,tk,os⟩:=s;have t0:(Shared.heap ⟨hp,ga,d,tk,os⟩).IsTuple t MJ:=ht
 wp_walk using wpAny_pyIter_tuple t0
 have lt:t < hp.objs.size:=by obtain⟨_,e,_⟩:=ht;exact Y8 e
 have lS:S < hp.objs.size:=Y8 hS;have Xg:A.in1.in1.handled=none:=by simp[hh]
 refine codeAny_set_update_loopS ((Walks.tuple Xg hp.objs.size t (Zv lt) MJ).toS) S (by simp only[Y0,aaF,or_false,not_or];exact⟨Zv lS,ne.symm⟩) (λi=>ns.getD i 0) (λi v hv=>IntsAre.int_at hi i v (by rw[Array.getElem?_toList];exact hv)) hb MJ.size 0 _ (by omega) (Zo _) ?_ ?_ ?_
 . exact⟨⟨_,Za _ rfl,rfl,rfl⟩,ht.push _⟩
 . exact SetOf_congr ((setObjOf_fresh led).setOf (YZ _ hS) (by decide)) (λ_=>rfl) rfl
 rintro⟨h',g',d',NG,Sh⟩ mv hq;obtain rfl:g'=ga:=mv.gens;obtain rfl:d'=d:=mv.drawn;obtain rfl:Sh=os:=mv.os
 wp_walk
 refine q h' NG hq λb o n e=>mv.heap b o ?_ (YZ _ e);simp only[Y0,aaF,or_false,not_or];exact⟨n,Zv (Y8 e)⟩
def Jf (o:Obj):Prop:=∃led:Bool,o={cls:=.type "set",dict:=none,data:=.set #[] 0 (.fresh 0 0 led)}
def Bo {t:Addr}{ns:List Int}(hh:A.handled=none)(ht:s.heap.IsTuple t MJ)(hi:IntsAre MJ.toList ns)(hb:MJ.size+1 < scanBound)
  (q:∀(h':Heap) (tk:Nat),h'.SetOf (intKind P w) s.heap.objs.size (λk=>(firstMet (λi=>ns.getD i 0) MJ.size).any (·==k)) (firstMet (λi=>ns.getD i 0) MJ.size).length->(∀b o,s.heap.get? b=some o->h'.get? b=some o)->Q (.ref s.heap.objs.size) {s with heap:=h',toks:=tk}) :
  wpAny (model P w) A (call (.type "set") [.ref t]) Q E s:=by
 have c1:=abc.notType;have c2:=abc.canCreate;have c3:=abc.made;have c4:=abc.sub;have c5:=F.typeCall_set_1 (.ref t);obtain⟨_,_,c6⟩:=abc.mro;refine wpAny_call (codeAny_of_tree (Y2 ⟨Code.quiet_builtin _ (by decide +kernel),codeAny_builtin F.entry_type_call ?_⟩));rw[Around.under_plain (weight_type_call_type "set" [.ref t] []) rfl]
 wp_walk
 refine abq (code_set_new_1 (.ref t) (E:=E) (Q₁:=λv s1=>∃g o,v=.ref s.heap.objs.size/\s1={s with heap:=g}/\g.get? s.heap.objs.size=some o/\Jf o/\∀b u,s.heap.get? b=some u->g.get? b=some u) λled=>⟨_,_,rfl,rfl,Za _ rfl,⟨led,rfl⟩,λb u e=>YZ _ e⟩) λr s1 z=>?_
 match r,z with
 |.error e,z=>exact z
 |.ok (.ret v),z =>
  obtain⟨g,_,rfl,rfl,Ra,⟨led,rfl⟩,kept⟩:=z;have ty:Shared.TypeIs {s with heap:=g} (.ref s.heap.objs.size) "set":=⟨_,Ra,rfl⟩;have c7:=abc.init.lookup;have c8:=abc.init.bind (.ref s.heap.objs.size)
  wp_walk
  have there:g.IsTuple t MJ:=ht.at λo e=>kept t o e;have apart:t≠s.heap.objs.size:=by obtain⟨_,e,_⟩:=ht;exact Zv (Y8 e)
  refine codeAny_call_builtin_code (plainId_quiet (by decide +kernel) _) (check_set_init_1 ty (DS (A:=A.in1) (ns:=ns) (by simp[hh]) there hi hb apart Ra λh' tk hq kp=>?_))
  wp_walk
  exact q h' tk hq λb o e=>kp b o (Zv (Y8 e)) (kept b o e)
end
end BwX
namespace L2
section
variable {x qual:Str}{st:Stmt}{f C:Addr}{fd:FuncData}{N ps:List Str}{k:Nat}{sp:Sp}
def dj.oT (F:dj K x qual st f fd) (S:aG N ps (aw st))
  (MP:∀(MK:Value) (A:Around) (outer:List Env) (s:Shared) (H:Hp) (vs:List V) (Q:VK) (E:XK),cU k (A.deeper (envOfC qual (aw st) s.heap.objs.size f MK))->sp vs H Q E ->
   ∃t,sh (ot bB P w K mg MH N qual (aw st) f MK A outer s H E).Je (b9 st) t/\t {nx:=λ_ H'=>Q .cv H',rt:=Q} (start N vs) H)
  (len:∀vs H Q E,sp vs H Q E->vs.length=ps.length:=by intro _ _ _ _ h;repeat (first|(obtain⟨rfl,_⟩:=h;exact rfl)|obtain⟨_,h⟩:=h)):a8 P w K mg MH bB (k+1) f fd ps sp:=F.ok S len MP
def dj.mR (F:dj K x qual st f fd)(S:aG N ps (aw st))
  (MP:∀(MK:Value) (A:Around) (outer:List Env) (s:Shared) (H:Hp) (vs:List V) (Q:VK) (E:XK),cU k (A.deeper (envOfC qual (aw st) s.heap.objs.size f MK))->sp vs H Q E ->
   ∃t,sh (Mc C P w K mg MH N qual (aw st) f MK A outer s H E) (b9 st) t/\t {nx:=λ_ H'=>Q .cv H',rt:=Q} (start N vs) H)
  (len:∀vs H Q E,sp vs H Q E->vs.length=ps.length:=by intro _ _ _ _ h;repeat (first|(obtain⟨rfl,_⟩:=h;exact rfl)|obtain⟨_,h⟩:=h)):a8 P w K mg MH (fq P w C) (k+1) f fd ps sp:=F.MD S len MP
end
end L2
namespace Bw
open PySem PySem.Spec PyProof.Rows L2
section
variable {X:Cx}{x:Str}{e:Expr}{te:TE}{p pos pos':Pos}
def aT (i:Nat) (hN:X.N.Nodup) (he:PE X e te) (hi:X.N[i]?=some x:=by rfl) (hx:Loc X.env.scope x:=by exact Or.inl rfl) (hs:swapsWith e (some (.Name x pos')) pos.line X.env=pure false:=by rfl) (hf:X.fn x=true\/X.env.scope.names.lookup x=some .local:=by first|exact .inl rfl|exact .inr rfl):PS X (.Assign [.Name x pos'] e pos) (xi te (f7 i)):=qF hN hi hx he hs hf
def bq (i:Nat)(hN:X.N.Nodup)(hi:X.N[i]?=some x:=by rfl)(hx:Loc X.env.scope x:=by exact Or.inl rfl)(hf:X.fn x=true\/X.env.scope.names.lookup x=some .local:=by first|exact .inl rfl|exact .inr rfl):PG X (.Name x pos) (f7 i):=uv hN hi hx hf
def bf (hm:X.mg "len"=none)(h:PE X e te)(hg:Gl X "len":=by rfl)(he:starEach [e] X.env=(false,eval e X.env)::starEach [] X.env:=by rfl):PE X (.Call (.Name "len" p) [e] [] pos) (Hn (λxs H Q=>∃p ys,xs=[.ref p]/\(aP X.K H p ys\/bY X.K H p ys)/\Q (.int ys.length) H) (cg te dE)):=b7 ux hg hm PySem.boot_len (aa h ah (hs:=he)) (he:=he)
end
def Mn (h:p [])(us:abF)(e:us.length=0):p us:=by
 cases us with
 |nil=>exact h|cons a us=>cases e
def K4 (h:∀a,p [a])(us:abF)(e:us.length=1):p us:=by
 cases us with
 |nil=>cases e|cons a us=>exact Mn (p:=λus=>p (a::us)) (h a) us (Nat.succ.inj e)
def K7 (h:∀a b,p [a,b])(us:abF)(e:us.length=2):p us:=by
 cases us with
 |nil=>cases e|cons a us=>exact K4 (p:=λus=>p (a::us)) (h a) us (Nat.succ.inj e)
def JB (h:∀a b c,p [a,b,c])(us:abF)(e:us.length=3):p us:=by
 cases us with
 |nil=>cases e|cons a us=>exact K7 (p:=λus=>p (a::us)) (h a) us (Nat.succ.inj e)
def K8 (h:∀a b c d,p [a,b,c,d])(us:abF)(e:us.length=4):p us:=by
 cases us with
 |nil=>cases e|cons a us=>exact JB (p:=λus=>p (a::us)) (h a) us (Nat.succ.inj e)
def Lc (h:∀a b c d e,p [a,b,c,d,e])(us:abF)(e:us.length=5):p us:=by
 cases us with
 |nil=>cases e|cons a us=>exact K8 (p:=λus=>p (a::us)) (h a) us (Nat.succ.inj e)
def MC (h:∀a b c d e f,p [a,b,c,d,e,f])(us:abF)(e:us.length=6):p us:=by
 cases us with
 |nil=>cases e|cons a us=>exact Lc (p:=λus=>p (a::us)) (h a) us (Nat.succ.inj e)
def Lg (h:∀a b c d e f g,p [a,b,c,d,e,f,g])(us:abF)(e:us.length=7):p us:=by
 cases us with
 |nil=>cases e|cons a us=>exact MC (p:=λus=>p (a::us)) (h a) us (Nat.succ.inj e)
def Fn (P:Program)(w:World)(K:abB)(mg:abD)(MH:Heap)(CX:mU)(k:Nat)(x:Str)(ps:List Str)(sp:Sp):Prop :=
 ∃(f:Addr) (fd:FuncData),mg x=some (.ref f)/\PySem.W.keepIn K (.ref f)=true/\Binds K fd ps []/\a8 P w K mg MH CX k f fd ps sp
def iK (K:abB)(mg:abD)(x:Str)(st:Stmt):Prop:=∃(f:Addr) (fd:FuncData),mg x=some (.ref f)/\dj K x x st f fd
section
variable {X:Cx}{CX:mU}{k:Nat}{x:Str}{ps:List Str}{sp:Sp}{E:XK}{p pos:Pos}{e:Expr}{es:List Expr}{t:TA}
def aV (F:Fn X.prog X.w X.K X.mg X.MH CX k x ps sp) (hr:cU k X.A) (hx:Passes CX X E) (ha:PA X (e::es) t) (hg:Gl X x:=by rfl) (Nn:(x==("__debug__":Str))=false:=by decide) (he:starEach (e::es) X.env=(false,eval e X.env)::starEach es X.env:=by rfl) (MR:(backTo pos (starEach es X.env)).any (·.1)=false:=by rfl) :
  PE X (.Call (.Name x p) (e::es) [] pos) (mZ sp [] E t):=by
 obtain⟨f,fd,hm,hk,hb,F⟩:=F;exact EU F hr hg hm hk hb .nil hx ha Nn he MR
end
section
def iK.mk {x:Str}{st:Stmt}{k:Nat}(D:iK K mg x st)
  (ok:∀f fd,dj K x x st f fd->a8 P w K mg MH CX k f fd ps sp) (hb:∀(kV doc pm:Value) (an:Option Addr) (MK ct:Value) (us:abF),us.length=ps.length->bindArgs (PySem.W.fnOf x x (df st) (b9 st) (aw st) .none kV doc pm an MK ct) ⟨us,[]⟩=pure (ps.zip us):=by intro _ _ _ _ _ _;first|exact K4 (λ_=>rfl)|exact K7 (λ_ _=>rfl)|exact JB (λ_ _ _=>rfl)|exact K8 (λ_ _ _ _=>rfl)|exact Lc (λ_ _ _ _ _=>rfl)|exact Lg (λ_ _ _ _ _ _ _=>rfl)):Fn P w K mg MH CX k x ps sp:=by
 obtain⟨f,fd,hm,F⟩:=D;exact⟨f,fd,hm,F.kp,F.binds hb,ok f fd F⟩
theorem Fn.mono {CX:mU}{x:Str}{ps:List Str}{j k:Nat}{sp:Sp}(F:Fn P w K mg MH CX j x ps sp)(h:j<=k):Fn P w K mg MH CX k x ps sp:=by obtain⟨f,fd,hm,hk,hb,F⟩:=F;exact⟨f,fd,hm,hk,hb,F.mono h⟩
end
def st (w:W):Str:=⟨w.toArray⟩
def qR (w:W):TL.tl (st w)=w:=rfl
def ck (w:W):(st w).length=w.length:=by rw[TL.mf,qR]
def j6 {v w:W}:st v=st w↔v=w:=⟨λh=>by have:=Z0 TL.tl h;exact this,λh=>by rw[h]⟩
def lB {s:String}:Str.ofString s=st (cd s):=TL.xR (by rw[TL.iH,qR];rfl)
def Gv (mg:abD)(x:Str)(v:V):Prop:=∃u,mg x=some u/\RelV v u
def bc {x:Str}(h:Gv X.mg x v)(hg:Gl X x:=by rfl)(hd:(x==("__debug__":Str))=false:=by decide):PE X (.Name x pos) (tC v):=by obtain⟨u,hm,r⟩:=h;exact FZ hg hm r hd
def fs {N P:List Str}{sc:Scope}(a:sc.kind=.function:=by rfl)(b:sc.isCoroutine=false:=by rfl)(c:sc.isGenerator=false:=by rfl)(d:N.Nodup:=by decide +kernel)(e:N.take P.length=P:=by rfl)(f:∀x∈P,sc.names.lookup x=some .local\/sc.names.lookup x=some .cell:=by decide +kernel)(g:∀y∈sc.names,y.2≠.free:=by decide +kernel):aG N P sc:=⟨a,b,c,d,e,f,g⟩
end Bw
namespace L2
def Ev (t:TE)(σ:St)(H:Hp)(v:V):Prop:=∀R:VK,R v H->t σ H R
def Tv (t:TT)(σ:St)(H:Hp)(b:Bool):Prop:=∀R:Bool->Hp->Prop,R b H->t σ H R
section
variable {σ:St}{H:Hp}{ta tb tc te:TE}{t u:TT}{x y v:V}{i j k:Int}{b c:Bool}{K:abB}{a p:Addr}{xs ys:List V}
def ag (h:σ[n]?=some (some v)):Ev (cf n) σ H v:=λ_ r=>⟨v,h,r⟩
def aD:Ev (tC v) σ H v:=λ_ r=>r
def mB {f:Int->Int->V}(ha:Ev ta σ H (.int i))(hb:Ev tb σ H (.int j)):Ev (j_ (rY f) ta tb) σ H (f i j):=λ_ r=>ha _ (hb _ ⟨i,j,rfl,rfl,r⟩)
def zt {C:Int->Int->Prop}{f:Int->Int->V}(ha:Ev ta σ H (.int i))(hb:Ev tb σ H (.int j))(h:C i j):Ev (j_ (rI C f) ta tb) σ H (f i j):=λ_ r=>ha _ (hb _ ⟨i,j,rfl,rfl,h,r⟩)
def cx (ha:Ev ta σ H x)(hb:Ev tb σ H y)(s:Gy x y=true:=by rfl):Ev (j_ K_ ta tb) σ H (.bl (decide (x=y))):=λ_ r=>ha _ (hb _ ⟨s,r⟩)
def rb (ha:Ev ta σ H x)(hb:Ev tb σ H y)(s:Gy x y=true:=by rfl):Ev (j_ Md ta tb) σ H (.bl (!decide (x=y))):=λ_ r=>ha _ (hb _ ⟨s,r⟩)
def uj (ha:Ev ta σ H x):Ev (j_ (λx y H Q=>y=.cv/\Q (.bl (decide (x=.cv))) H) ta (tC .cv)) σ H (.bl (decide (x=.cv))):=λ_ r=>ha _ ⟨rfl,r⟩
def Cb (ha:Ev ta σ H (.str ⟨#[n]⟩))(hb:Ev tb σ H (.str z)):Ev (j_ (λx y H Q=>∃(c:Nat) (z:Str),x=.str ⟨#[c]⟩/\y=.str z/\Q (.bl (decide (c∈z.cps.toList))) H) ta tb) σ H (.bl (decide (n∈z.cps.toList))):=λ_ r=>ha _ (hb _ ⟨n,z,rfl,rfl,r⟩)
def E1 (ha:Ev ta σ H (.str ⟨#[n]⟩))(hb:Ev tb σ H (.str z)):Ev (j_ (λx y H Q=>∃(c:Nat) (z:Str),x=.str ⟨#[c]⟩/\y=.str z/\Q (.bl (!decide (c∈z.cps.toList))) H) ta tb) σ H (.bl (!decide (n∈z.cps.toList))):=λ_ r=>ha _ (hb _ ⟨n,z,rfl,rfl,r⟩)
def ni {neg:Bool}(ha:Ev ta σ H x)(hb:Ev tb σ H (.ref p))(s:aP K H p xs\/bY K H p xs)(f:d_ x=true)(fs:xs.all d_=true):Ev (j_ (Ie K neg) ta tb) σ H (.bl (if neg then !o4 x xs else o4 x xs)):=λ_ r=>ha _ (hb _ ⟨p,xs,rfl,s,f,fs,r⟩)
def uh (ha:Ev ta σ H (.str z))(hb:Ev tb σ H (.int i))(hz:z.length<=sizeLine)(e:oN z.cps.toList i=some n):Ev (j_ JY ta tb) σ H (.str ⟨#[n]⟩):=λ_ r=>ha _ (hb _ ⟨z,i,n,rfl,rfl,hz,e,r⟩)
def a6 (ha:Ev ta σ H (.ref p))(hb:Ev tb σ H (.int i))(s:aP K H p xs)(e:oN xs i=some v):Ev (j_ (AF K) ta tb) σ H v:=λ_ r=>ha _ (hb _ ⟨p,xs,i,v,rfl,rfl,s,e,r⟩)
def BZ (ha:Ev ta σ H (.ref p))(hb:Ev tb σ H (.int i))(s:bY K H p xs)(e:oN xs i=some v):Ev (j_ (Kx K) ta tb) σ H v:=λ_ r=>ha _ (hb _ ⟨p,xs,i,v,rfl,rfl,s,e,r⟩)
def bb {fs:List (Str×V)}(ha:Ev ta σ H (.ref a))(e:H a=some (.ins C dx fs))(c:zd K C)(n:iJ K C f)(l:fs.lookup f=some v):Ev (sA K ta f) σ H v:=λ_ r=>ha _ ⟨a,C,dx,fs,v,rfl,e,c,n,l,r⟩
def aU (ha:Ev ta σ H (.ref p))(s:aP K H p xs\/bY K H p xs):Ev (Hn (λxs H Q=>∃p ys,xs=[.ref p]/\(aP K H p ys\/bY K H p ys)/\Q (.int ys.length) H) (cg ta dE)) σ H (.int xs.length):=λ_ r=>ha _ ⟨p,xs,rfl,s,r⟩
def uV (ha:Ev ta σ H (.str z))(hz:z.length<=sizeLine):Ev (Hn (λxs H Q=>∃z,xs=[.str z]/\z.length<=sizeLine/\Q (.int z.length) H) (cg ta dE)) σ H (.int z.length):=λ_ r=>ha _ ⟨z,rfl,hz,r⟩
def KZ (ha:Ev ta σ H (.bl b))(hb:b=false->Ev tb σ H (.bl c)):Ev (Kz ta tb) σ H (.bl (b||c)):=λR r=>ha _ ⟨b,rfl,by
 cases b with
 |false=>exact xg (hb rfl _ r)|true=>exact rN r⟩
def aJ (h:Ev te σ H (.bl b)):Tv (qX te) σ H b:=λ_ r=>h _ ⟨b,rfl,r⟩
def L8 (h:Ev te σ H (.bl b)):Tv (tB te) σ H b:=λ_ r=>h _ ⟨b,rfl,r⟩
def CC {p q:Int->Int->Bool}(ha:Ev ta σ H (.int i))(hb:Ev tb σ H (.int j))(hc:Ev tc σ H (.int k)):Ev (yn (rY λi j=>.bl (p i j)) (rY λi j=>.bl (q i j)) ta tb tc) σ H (.bl (p i j&&q j k)):=λR r=>ha _ (hb _ ⟨i,j,rfl,rfl,p i j,rfl,by
 cases h:p i j with
 |false=>rw[h] at r;exact xg r|true=>rw[h] at r;exact rN (hc _ ⟨j,k,rfl,rfl,r⟩)⟩)
def cJ {p q:Int->Int->Bool}(ha:Ev ta σ H (.int i))(hb:Ev tb σ H (.int j))(hc:Ev tc σ H (.int k)):Tv (qX (yn (rY λi j=>.bl (p i j)) (rY λi j=>.bl (q i j)) ta tb tc)) σ H (p i j&&q j k):=aJ (CC ha hb hc)
def ju {p:Int->Int->Bool}(ha:Ev ta σ H (.int i))(hb:Ev tb σ H (.int j)):Tv (qX (j_ (rY λi j=>.bl (p i j)) ta tb)) σ H (p i j):=λ_ r=>ha _ (hb _ ⟨i,j,rfl,rfl,_,rfl,r⟩)
def fF (h:Tv t σ H b):Tv (JH t) σ H (!b):=λ_ r=>h _ r
def pN (h:Tv t σ H b)(h2:b=true->Tv u σ H c):Tv (JU t u) σ H (b&&c):=λR r=>h _ (by
 cases b with
 |false=>exact xg r|true=>exact rN (h2 rfl _ r))
def iA (h:Tv t σ H b)(h2:b=false->Tv u σ H c):Tv (Mi t u) σ H (b||c):=λR r=>h _ (by
 cases b with
 |false=>exact xg (h2 rfl _ r)|true=>exact rN r)
def uK (ha:Ev ta σ H (.int i)):Ev (L_ (rU λi=>.int (-i)) ta) σ H (.int (-i)):=λ_ r=>ha _ ⟨i,rfl,r⟩
def KU {r:V->List V->Hp->VK->Prop}(ha:Ev ta σ H (.str z))(h:∀R,R v H->r (.str z) [] H R):Ev (Ma r ta) σ H v:=λR q=>ha _ ⟨⟨z,rfl⟩,h R q⟩
def aY {s1 s2:TS}(h:Tv t σ H b)(q1:b=true->s1 D σ H)(q2:b=false->s2 D σ H):JT t s1 s2 D σ H:=h _ (by
 cases b with
 |false=>exact xg (q2 rfl)|true=>exact rN (q1 rfl))
def bW (h:Ev te σ H v)(q:D.rt v H):Dg te D σ H:=h _ q
def cj (h:Ev te σ H v)(q:D.nx (σ.set n (some v)) H):xi te (f7 n) D σ H:=h _ q
def IP {s1 s2:TS}(q:s1 {D with nx:=s2 D} σ H):Eu s1 s2 D σ H:=q
end
def au.laid {p:Addr}(e:au H H')(h:H p=none):au H (upd H' p o):=λb u q=>by rw[aq (ao q h)];exact e b u q
section
variable {σ:St}{H:Hp}{ta tb tc:TE}{i j c:Int}
def zz {R:It->Hp->Prop}(ha:Ev ta σ H (.int i)) (hb:Ev tb σ H (.int j)) (hc:Ev tc σ H (.int c)) (rg:JG i j c n) (q:R (Jy i c n) H):G0 (cg ta (cg tb (cg tc dE))) σ H R:=ha _ (hb _ (hc _ ⟨i,j,c,n,rfl,rg,q⟩))
def zg {R:It->Hp->Prop}(ha:Ev ta σ H (.int i))(hb:Ev tb σ H (.int j))(rg:-(2 ^ 62)<=i/\i < 2 ^ 62/\-(2 ^ 62)<=j/\j < 2 ^ 62)(q:R (Bx i (j - i).toNat) H):G3 (cg ta (cg tb dE)) σ H R:=ha _ (hb _ ⟨i,j,rfl,rg,q⟩)
def uR {R:It->Hp->Prop}(ha:Ev ta σ H (.int j))(h1:-(2 ^ 62)<=j)(h2:j < 2 ^ 62)(q:R (Bx 0 j.toNat) H):DQ (cg ta dE) σ H R:=ha _ ⟨j,rfl,h1,h2,q⟩
def pW {tb:TS}(h:wi σ H λJ H1=>∃W:Nat->Nat->St->Hp->Prop,(∃m,W 0 m σ H1)/\∀i m σ H,W i m σ H ->
  (J.stop i H/\D.nx σ H)\/(J.go i H/\∃N:St->Hp->Prop,(∀σ' H',N σ' H'->∃m',m' < m/\W (i+1) m' σ' H')/\∀x H',J.xn i H x H'->g x σ H' λσ2 H2=>tb {D with nx:=N,ct:=N,bk:=D.nx} σ2 H2)):Hu wi g tb D σ H:=h
end
def Iz {D:Addr}(Pv:Nat->Hp->Prop)(h0:Pv 0 (upd H1 D (.lst [])))
  (hs:∀i c H,z.cps.toList[i]?=some c->Pv i H->g (.str ⟨#[c]⟩) (wipe σ vs) H λσ2 H2=>wipe σ2 vs=wipe σ vs/\tt σ2 H2 λb H3 =>if b=true then te σ2 H3 λy H4=>∃acc,H4 D=some (.lst acc)/\acc.length < sizeLine/\Pv (i+1) (upd H4 D (.lst (acc++[y]))) else Pv (i+1) H3) (hd:∀H,Pv z.cps.toList.length H->Qd H) :
  ∃W:Nat->Nat->Hp->Prop,(∃m,W 0 m (upd H1 D (.lst [])))/\∀i m H,W i m H ->
   ((J9 z).stop i H/\Qd H)\/((J9 z).go i H/\∃Nx:Hp->Prop,(∀H',Nx H'->∃m',m' < m/\W (i+1) m' H')/\∀x H',(J9 z).xn i H x H'->g x (wipe σ vs) H' λσ2 H2=>wipe σ2 vs=wipe σ vs/\tt σ2 H2 λb H3 =>if b=true then te σ2 H3 λy H4=>∃acc,H4 D=some (.lst acc)/\acc.length < sizeLine/\Nx (upd H4 D (.lst (acc++[y]))) else Nx H3):=by
 have sz:z.cps.toList.length=z.cps.size:=aaD;refine⟨λi m H=>m=z.cps.size - i/\i<=z.cps.size/\Pv i H,⟨z.cps.size,by simp,Zo _,h0⟩,?_⟩;rintro i m H ⟨rfl,hi,p⟩;by_cases MN:i < z.cps.size
 . refine .inr ⟨MN,Pv (i+1),λH' p'=>⟨z.cps.size - (i+1),by omega,rfl,MN,p'⟩,λx H' y=>?_⟩;obtain⟨e,c,hc,rfl⟩:=y;subst e;exact hs i c _ (by rw[Array.getElem?_toList];exact hc) p
 have e:i=z.cps.size:=by omega
 subst e;exact .inl ⟨Y5 _,hd H (by rw[sz];exact p)⟩
end L2
namespace Bw
open PySem PySem.Spec PyProof.Rows L2
abbrev AW:Str:=Str.ofString "abcdefghijklmnopqrstuvwxyz"
abbrev Bi:Str:=Str.ofString "0123456789"
structure GW (mg:abD):Prop where
 uD:Gv mg "LETTERS" (.str AW)
 digits:Gv mg "DIGITS" (.str Bi)
 most:Gv mg "MOST_NAME" (.int 12)
 KC:Gv mg "MOST_DIGITS" (.int 7)
 len:mg "len"=none
 all:mg "all"=none
 int:mg "int"=none
def DT:TL.tl AW=(List.range 26).map (·+97):=by rw[TL.iH];decide +kernel
def BK:TL.tl Bi=(List.range 10).map (·+48):=by rw[TL.iH];decide +kernel
def HP (h1:97<=c)(h2:c<=122):oN (AW.cps.toList) ((c:Int) - 97)=some c:=by
 have e:((c:Int) - 97)=((c - 97:Nat):Int):=by omega
 rw[e];refine cz ?_;have q:AW.cps.toList=(List.range 26).map (·+97):=DT;rw[q,Y1,aaC (by omega)];simp;omega
def Jb (h1:48<=c)(h2:c<=57):oN (Bi.cps.toList) ((c:Int) - 48)=some c:=by
 have e:((c:Int) - 48)=((c - 48:Nat):Int):=by omega
 rw[e];refine cz ?_;have q:Bi.cps.toList=(List.range 10).map (·+48):=BK;rw[q,Y1,aaC (by omega)];simp;omega
def yQ (c:Nat):decide (c∈AW.cps.toList)=isLet c:=by
 have q:AW.cps.toList=(List.range 26).map (·+97):=DT;rw[q,Zx];unfold isLet;simp only[Y4,Y3,Zr,aaG];constructor
 . rintro⟨x,hx,rfl⟩;omega
 rintro⟨h1,h2⟩;exact⟨c - 97,by omega,by omega⟩
def IL (c:Nat):decide (c∈Bi.cps.toList)=b6 c:=by
 have q:Bi.cps.toList=(List.range 10).map (·+48):=BK;rw[q,Zx];unfold b6;simp only[Y4,Y3,Zr,aaG];constructor
 . rintro⟨x,hx,rfl⟩;omega
 rintro⟨h1,h2⟩;exact⟨c - 48,by omega,by omega⟩
def DI:Sp:=λvs H Q _=>∃c:Nat,vs=[.int c]/\Q (.str (st [sg c])) H
def Ew (h:97<=c/\c<=122):sg c=c:=by unfold sg vw isLet;simp[h]
def Eg (h:48<=c/\c<=57):sg c=c:=by unfold sg vw b6;simp[h]
def JW (h1:¬(97<=c/\c<=122))(h2:¬(48<=c/\c<=57))(h3:c≠32)(h4:c≠10)(h5:c≠44)(h6:c≠47):sg c=63:=by
 unfold sg vw isLet b6;have e1:(decide (97<=c)&&decide (c<=122))=false:=by simp;omega
 have e2:(decide (48<=c)&&decide (c<=57))=false:=by simp;omega
 rw[e1,e2];simp[h3,h4,h5,h6]
section
def EV:aG ["code"] ["code"] (aw kZ):=fs
def E9 (G:GW mg){f:Addr}{fd:FuncData}(F:dj K "sign_of" "sign_of" kZ f fd):a8 P w K mg MH bB 1 f fd ["code"] DI:=by
 refine F.ok EV (λvs H Q E h=>?_) (λMK A outer s H vs Q E hr h=>?_)
 . obtain⟨c,rfl,_⟩:=h;rfl
 obtain⟨c,rfl,q⟩:=h;refine⟨_,af (aO (cN cu cu ax (pv 0) ax) (ak (aA (bh uQ (bc G.uD) (bD f_ (pv 0) ax) (λ_ _=>rfl)))) aC)
  (af (aO (cN cu cu ax (pv 0) ax) (ak (aA (bh uQ (bc G.digits) (bD f_ (pv 0) ax) (λ_ _=>rfl)))) aC)
  (af (aO (aB cy (pv 0) ax (aI _)) (ak (aA bt)) aC)
  (af (aO (aB cy (pv 0) ax (aI _)) (ak (aA bt)) aC)
  (af (aO (aB cy (pv 0) ax (aI _)) (ak (aA bt)) aC)
  (af (aO (aB cy (pv 0) ax (aI _)) (ak (aA bt)) aC)
  (ak (aA bt))))))),?_⟩
 refine aY (cJ aD (ag rfl) aD) (λh=>?_) (λh1=>?_)
 . simp only[Y3,Y4] at h;refine bW (uh aD (mB (ag rfl) aD) (by decide +kernel) (HP (c:=c) (by omega) (by omega))) ?_;rw[Ew (by omega)] at q;exact q
 refine aY (cJ aD (ag rfl) aD) (λh=>?_) (λh2=>?_)
 . simp only[Y3,Y4] at h;refine bW (uh aD (mB (ag rfl) aD) (by decide +kernel) (Jb (c:=c) (by omega) (by omega))) ?_;rw[Eg (by omega)] at q;exact q
 have step:∀(n:Nat) (b:Bool),b=decide (V.int (c:Int)=V.int (n:Int))->(b=true->c=n)/\(b=false->c≠n):=λn b e=>by
  rw[a_] at e;subst e;constructor
  . intro z;have:=aam z;omega
  intro z z2;subst z2;simp at z
 refine aY (aJ (cx (ag rfl) aD)) (λh=>?_) (λh3=>?_)
 . have e:=(step 32 _ rfl).1 h;subst e;exact bW aD q
 refine aY (aJ (cx (ag rfl) aD)) (λh=>?_) (λh4=>?_)
 . have e:=(step 10 _ rfl).1 h;subst e;exact bW aD q
 refine aY (aJ (cx (ag rfl) aD)) (λh=>?_) (λh5=>?_)
 . have e:=(step 44 _ rfl).1 h;subst e;exact bW aD q
 refine aY (aJ (cx (ag rfl) aD)) (λh=>?_) (λh6=>?_)
 . have e:=(step 47 _ rfl).1 h;subst e;exact bW aD q
 rw[JW (λz=>by simp at h1;omega) (λz=>by simp at h2;omega) ((step 32 _ rfl).2 h3) ((step 10 _ rfl).2 h4) ((step 44 _ rfl).2 h5) ((step 47 _ rfl).2 h6)] at q;exact q
def uc (K:abB):Sp:=λvs H Q _=>∃(a:Addr) (cs:abA),vs=[.ref a]/\aP K H a (cs.map λc=>V.int (c:Nat))/\cs.length<=70000/\∀H',au H H'->Q (.str (st (cs.map sg))) H'
def take_snoc {l:List α}{x:α}(h:l[i]?=some x):l.take (i+1)=l.take i++[x]:=by rw[List.take_add_one,h];rfl
def yl (l:abA):Txt.join (Str.ofString "") (l.map λc=>st [c])=st l:=by
 rw[TL.join_eq];refine TL.xR ?_;rw[TL.zA,TL.iH,qR];show TL.d9 [] ((l.map λc=>st [c]).map TL.tl)=l;rw[Zk]
 induction l with
 |nil=>rfl
 |cons c l ih =>
  cases l with
  |nil=>rfl|cons d l =>have ih:TL.d9 [] ((d::l).map (TL.tl ∘ λc=>st [c]))=d::l:=ih;show [c]++([]++TL.d9 [] ((d::l).map (TL.tl ∘ λc=>st [c])))=c::d::l;rw[ih];rfl
def vi:aG ["codes","code"] ["codes"] (aw kU):=fs
def Gr {k:Nat}(FS:Fn P w K mg MH bB k "sign_of" ["code"] DI){f:Addr}{fd:FuncData}(F:dj K "text_of" "text_of" kU f fd):a8 P w K mg MH bB (k+1) f fd ["codes"] (uc K):=by
 refine F.ok vi (λvs H Q E h=>?_) (λMK A outer s H vs Q E hr h=>?_)
 . obtain⟨a,cs,rfl,_⟩:=h;rfl
 obtain⟨a,cs,rfl,hS,hl,q⟩:=h;refine⟨_,ak (aA (El bt (fX rfl vi.nd (bJ (pv 0)) (bC (own:=[("code",1)]) rfl) (λ_ _ _ _ _=>bq 1 vi.nd) (λ_ _ _ _ _=>cC)
  (λ_ _ _ _ _=>aV FS hr aX (aa (pv 1) ah))))),?_⟩
 refine⟨⟨_,rfl⟩,_,rfl,a,rfl,⟨_,hS⟩,λD hD=>jG (K:=K) (a:=a) (xs:=cs.map λc=>V.int (c:Nat)) (λi H'=>au H H'/\H' D=some (.lst ((cs.take i).map λc=>V.str (st [sg c]))))
  ⟨(au.refl H).laid hD,ae⟩ (λi H' _ h=>h.1.seq hS) ?_ ?_⟩
 . rintro i x H' hi ⟨h1,h2⟩;rw[Y1] at hi;obtain⟨c,hc,rfl⟩:=Zu.mp hi;refine⟨rfl,_,rfl,c,rfl,_,h2,?_,?_⟩
   . rw[YW,Zh,Zl];omega
   refine⟨λb u z=>?_,?_⟩
   . rw[aq (ao z hD)];exact h1 b u z
   rw[ae,take_snoc hc,Zd];rfl
 rintro H' ⟨h1,h2⟩;rw[YW,ZR] at h2;refine⟨_,D,(cs.map sg).map (λc=>st [c]),rfl,rfl,.inl (aP.of ?_),?_,?_⟩
 . rw[h2,Zk,Zk];rfl
 . have e:(((cs.map sg).map (λc=>st [c])).map (·.length)).sum=cs.length:=by
    rw[Zk,Zk];clear h2 hS q hl
    induction cs with
    |nil=>rfl|cons c cs ih =>rw[Zb,aap,ih,Y7];show 1+cs.length=_;omega
   have e2:(Str.ofString "").length=0:=by decide +kernel
   rw[e,e2];omega
 rw[yl];exact q H' h1
def mJ:Sp:=λvs H Q _=>∃wd:W,vs=[.str (st wd)]/\wd.length<=70000/\∀H',au H H'->Q (.bl (eW wd)) H'
def zH (h:wd≠[]):oN (st wd).cps.toList ((0:Int))=some (wd.headD 0):=by
 refine cz (j:=0) ?_;show wd[0]?=some (wd.headD 0);cases wd with
 |nil=>exact absurd rfl h|cons c r=>rfl
def nS:aG ["word","sign"] ["word"] (aw k8):=fs
def A7 (G:GW mg){f:Addr}{fd:FuncData}(F:dj K "is_name" "is_name" k8 f fd):a8 P w K mg MH bB 1 f fd ["word"] mJ:=by
 refine F.ok nS (λvs H Q E h=>?_) (λMK A outer s H vs Q E hr h=>?_)
 . obtain⟨a,rfl,_⟩:=h;rfl
 obtain⟨wd,rfl,hl,q⟩:=h;have hz:(st wd).length<=sizeLine:=by rw[ck,Zl];omega
 refine⟨_,af (aO (PW.pt (fh (cH (cN cu cu ax (b7 gq (by rfl) G.len PySem.boot_len (aa (pv 0) ah)) (bc G.most)))
   (cY (aB sk (bh uQ (pv 0) ax (λ_ _=>rfl)) (bc G.uD) (by with_unfolding_all rfl))))) (ak (aA mN)) aC)
  (ak (aA (b7 (y_ rfl) (by rfl) G.all PyProof.Rows.boot_all (aa (fX rfl nS.nd (HQ (pv 0)) (bC (own:=[("sign",1)]) rfl) (λ_ _ _ _ _=>bq 1 nS.nd) (λ_ _ _ _ _=>cC)
   (λ_ _ _ _ _=>JM (fL rV (pv 1) (bc G.uD) (by with_unfolding_all rfl)) (yq (fL rV (pv 1) (bc G.digits) (by with_unfolding_all rfl))))) ah)))),?_⟩
 refine aY (iA (fF (cJ aD (uV (ag rfl) hz) aD)) λh0=>aJ (E1 (uh (ag rfl) aD hz (zH ?_)) aD)) (λh=>?_) (λh=>?_)
 . rintro rfl;simp at h0;rw[ck] at h0;simp at h0
 . rw[yQ] at h;refine bW aD ?_;have e:eW wd=false:=by
    unfold eW;rw[ck] at h;simp only[ZU,ZL,aag,ZC] at h;rcases h with (h|h)|h
    . have:¬1<=wd.length:=λz=>h (by omega);simp[this]
    . have:¬wd.length<=12:=λz=>h (by omega);simp[this]
    rw[h];simp
   rw[<-e];exact q H (au.refl H)
 rw[yQ,ck] at h;simp only[Z4,ZO,Y3,Y4] at h;obtain⟨⟨h1,h2⟩,h3⟩:=h;have e:eW wd=wd.all λc=>isLet c||b6 c:=by unfold eW;have z1:decide (1<=wd.length)=true:=Zy (by omega);have z2:decide (wd.length<=12)=true:=Zy (by omega);rw[z1,z2,h3];simp
 refine⟨_,rfl,_,rfl,λD hD=>Iz (z:=st wd) (λi H'=>au H H'/\H' D=some (.lst ((wd.take i).map λc=>V.bl (isLet c||b6 c)))) ⟨(au.refl H).laid hD,ae⟩ ?_ ?_⟩
 . rintro i c H' hi ⟨k1,k2⟩;have hi:wd[i]?=some c:=hi;refine⟨rfl,?_⟩;refine (KZ (Cb (ag rfl) aD) λ_=>Cb (ag rfl) aD) _ ⟨_,k2,?_,?_⟩
   . rw[YW,Zh,Zl];omega
   rw[yQ,IL];refine⟨λb u z=>?_,?_⟩
   . rw[aq (ao z hD)];exact k1 b u z
   rw[ae,take_snoc hi,Zd];rfl
 rintro H' ⟨k1,k2⟩;have k2:H' D=some (.lst ((wd.take wd.length).map λc=>V.bl (isLet c||b6 c))):=k2;rw[ZR] at k2;refine⟨D,wd.map λc=>isLet c||b6 c,rfl,aP.of (by rw[k2,Zk];rfl),?_⟩;have e2:((wd.map λc=>isLet c||b6 c).all id)=eW wd:=by rw[e,aaY];rfl
 rw[e2];exact q H' k1
def lK:Sp:=λvs H Q _=>∃wd:W,vs=[.str (st wd)]/\wd.length<=70000/\(∀c∈wd,c < 128)/\Q (.int (ay wd)) H
def Ae:∀c:Nat,c < 128->Unicode.isDigit c=b6 c:=by decide +kernel
def qA (h:∀c∈wd,c < 128):Txt.isdigit (st wd)=(!wd.isEmpty&&wd.all b6):=by
 unfold Txt.isdigit;have e:(st wd).cps.all Unicode.isDigit=wd.all b6:=by show wd.toArray.all Unicode.isDigit=_;rw[List.all_toArray,Zx,Zn,Zn];exact⟨λz c hc=>by rw[<-Ae c (h c hc)];exact z c hc,λz c hc=>by rw[Ae c (h c hc)];exact z c hc⟩
 rw[e,ck];cases wd with
 |nil=>rfl|cons c r=>simp
def xw (wd:W):NumText.digitsVal wd=xN wd:=by unfold NumText.digitsVal xN;congr 1;funext n c;omega
def Js (h0:wd≠[])(h1:wd.all b6=true)(h2:wd.length<=7):intText? (st wd)=some ((xN wd:Nat):Int):=by rw[<-xw];refine intText_digits (x:=st wd) (λc hc=>?_) h0 (by rw[ck];omega);have:=Zn.mp h1 c hc;unfold b6 at this;simpa using this
def Jq:aG ["word"] ["word"] (aw ij):=fs
def IK (G:GW mg){f:Addr}{fd:FuncData}(F:dj K "number_of" "number_of" ij f fd):a8 P w K mg MH bB 1 f fd ["word"] lK:=by
 refine F.ok Jq (λvs H Q E h=>?_) (λMK A outer s H vs Q E hr h=>?_)
 . obtain⟨a,rfl,_⟩:=h;rfl
 obtain⟨wd,rfl,hl,ha,q⟩:=h;have hz:(st wd).length<=sizeLine:=by rw[ck,Zl];omega
 refine⟨_,af (aO (PW.pt (fh (aB lH (b7 gq (by rfl) G.len PySem.boot_len (aa (pv 0) ah)) (bc G.KC) (aI _)) (cY (cH (iL (J3 PySem.F.slot_str_isdigit PySem.F.type_str_isdigit xO (pv 0))))))) (ak (aA (wX rL ax))) aC)
  (af (aO (PW.pt (uO (aB cy (bh uQ (pv 0) ax (λ_ _=>rfl)) bt (aI _)) (pA (aB qm (pv 0) bt (aI _))))) (ak (aA (wX rL ax))) aC)
  (ak (aA (k_ vk (by rfl) G.int PyProof.Rows.boot_int (aa (pv 0) ah))))),?_⟩
 refine aY (iA (aJ (mB (uV (ag rfl) hz) aD)) λh0=>fF (L8 (KU (ag rfl) λR r=>⟨_,rfl,rfl,trivial,r⟩))) (λh=>?_) (λh=>?_)
 . refine bW (uK aD) ?_;have e:ay wd=-1:=by
    unfold ay;rw[YY];rw[qA ha,ck] at h;simp only[ZU,ZL,aag,Y4] at h;rcases h with h|h|h
    . exact .inl (by omega)
    . exact .inr (.inl (by cases wd with|nil=>rfl|cons c r=>simp at h))
    exact .inr (.inr h)
   rw[e] at q;exact q
 rw[qA ha,ck] at h;simp only[Z4,ZO,Y3,ZC] at h;obtain⟨h1,h2,h3⟩:=h;have MT:wd≠[]:=by rintro rfl;simp at h2
 have e0:ay wd=if wd.headD 0=48/\wd≠[48] then -1 else (xN wd:Int):=by
  unfold ay;rw[YX];rintro (z|z|z)
  . exact h1 (by omega)
  . exact MT z
  rw[h3] at z;cases z
 refine aY (pN (aJ (cx (uh (ag rfl) aD hz (zH MT)) aD)) λh0=>aJ (rb (ag rfl) aD)) (λh=>?_) (λh=>?_)
 . refine bW (uK aD) ?_;rw[YY] at e0
   . rw[e0] at q;exact q
   simp only[Y3,Y4,ZL,ZC] at h;refine⟨?_,λz=>h.2 ?_⟩
   . have:=h.1;injection this with this;have:=Z0 TL.tl this;have:[wd.headD 0]=[48]:=this;injection this
   rw[z];rfl
 rw[YX] at e0
 . rw[e0] at q;exact⟨_,rfl,_,_,rfl,Js MT h3 (by omega),by rw[ck];omega,q⟩
 rintro⟨z1,z2⟩;simp only[aag,ZC,ZO,Y4] at h;rcases h with h|h
 . exact h (by rw[z1];rfl)
 injection h with h;have h:=Z0 TL.tl h;exact z2 h
end
end Bw
namespace L2
structure zM (P:Program)(w:World)(K:abB)(d:Addr)(vs:List (Key×Value)):Prop where
 dd:∀h:Heap,K.In h->h.DictOf (cA P w) d vs
 ne:(d==sysModules)=false
section
variable {X:Cx}{d:Addr}{vs:List (Key×Value)}{o i:Expr}{td ty:TE}{pos:Pos}
def IC (d:Addr) (vs:List (Key×Value)) (td ty:TE):TE:=λσ H Q=>td σ H λx H1=>ty σ H1 λy H2=>∃k v u,x=.ref d/\y=kV k/\valueAt vs k=some u/\RelV v u/\Q v H2
def Kb (d:Addr)(vs:List (Key×Value))(ty td:TE):TE:=λσ H Q=>ty σ H λy H1=>td σ H1 λx H2=>∃k,x=.ref d/\y=kV k/\Q (.bl (valueAt vs k).isSome) H2
def CI (D:zM X.prog X.w X.K d vs)(ho:PE X o td)(hi:PE X i ty)(hs:Ks i):PE X (.Subscript o i pos) (IC d vs td ty):=by intro MG s σ H Q I h;refine FV PySem.F.slot_dict_getitem.lookup hs (bE (ho MG s σ H _ I h) λu s1 ⟨x,H1,I1,rx,q1⟩=>bE (hi MG s1 σ H1 _ I1 q1) λiv s2 ⟨y,H2,I2,ry,k,v,u',ex,ey,hv,rv,q2⟩=>?_);subst ex ey;obtain rfl:u=Value.ref d:=rx;have dd:=D.dd s2.heap I2.n_;obtain⟨ob,es,ep,e1,e2,_⟩:=id dd;exact⟨⟨ob,e1,e2.1⟩,wpAny_getItem_of (rn ry) dd.mapOf hv ⟨v,H2,I2.tok _,rv,q2⟩⟩
def Er (D:zM X.prog X.w X.K d vs)(hi:PE X i ty)(ho:PE X o td):PC X .In i o (Kb d vs ty td):=by intro MG s σ H Q I h;refine bE (hi MG s σ H _ I h) λiv s1 ⟨y,H1,I1,ry,q1⟩=>bE (ho MG s1 σ H1 _ I1 q1) λu s2 ⟨x,H2,I2,rx,k,ex,ey,q2⟩=>?_;subst ex ey;obtain rfl:u=Value.ref d:=rx;have dd:=D.dd s2.heap I2.n_;exact wpAny_in_of (rn ry) D.ne dd.mapOf ⟨.bl _,H2,I2.tok _,rfl,q2⟩
end
def au.tup (e:au H H')(h:bY K H a xs):bY K H' a xs:=by
 rcases h with (h|⟨o,h⟩)|h
 . exact .inl (.inl (e _ _ h))
 . exact .inl (.inr ⟨o,e _ _ h⟩)
 exact .inr h
section
variable {α β γ:Type}{F G:α->β->Prop}
theorem Paired.sf:∀{l₁:List α} {l₂:List β} {i:Nat} {x:α},Paired F l₁ l₂->l₁[i]?=some x->∃y,l₂[i]?=some y/\F x y
 |_,_,_,_,.nil,e=>by simp at e|_,_,0,_,.cons r _,e=>by simp at e;subst e;exact⟨_,rfl,r⟩|_,_,i+1,x,.cons _ t,e=>by obtain⟨y,h1,h2⟩:=Paired.sf (i:=i) (x:=x) t (by simpa using e);exact⟨y,by simpa using h1,h2⟩
theorem Paired.at2:∀{l₁:List α} {l₂:List β} {i:Nat} {y:β},Paired F l₁ l₂->l₂[i]?=some y->∃x,l₁[i]?=some x/\F x y
 |_,_,_,_,.nil,e=>by simp at e|_,_,0,_,.cons r _,e=>by simp at e;subst e;exact⟨_,rfl,r⟩|_,_,i+1,y,.cons _ t,e=>by obtain⟨x,h1,h2⟩:=Paired.at2 (i:=i) (y:=y) t (by simpa using e);exact⟨x,by simpa using h1,h2⟩
theorem Paired.tk:∀{l₁:List α} {l₂:List β} (n:Nat),Paired F l₁ l₂->Paired F (l₁.take n) (l₂.take n)
 |_,_,0,_=>.nil|_,_,_+1,.nil=>.nil|_,_,n+1,.cons r t=>.cons r (Paired.tk n t)
theorem Paired.dp:∀{l₁:List α} {l₂:List β} (n:Nat),Paired F l₁ l₂->Paired F (l₁.drop n) (l₂.drop n)
 |_,_,0,r=>r|_,_,_+1,.nil=>.nil|_,_,n+1,.cons _ t=>Paired.dp n t
theorem Paired.rep {a:α}{b:β}(h:F a b):∀n:Nat,Paired F (List.replicate n a) (List.replicate n b)
 |0=>.nil|n+1=>.cons h (Paired.rep h n)
end
end L2
namespace Bw
open L2 Tote
def sV (ws:List W):List V:=ws.map λw=>V.str (st w)
def nV (ns:abA):List V:=ns.map λn=>V.int (n:Nat)
def iM (K:abB)(H:Hp)(a:Addr)(ns:abA):Prop:=aP K H a (nV ns)
def bG (K:abB)(H:Hp)(a:Addr)(rs:abz):Prop:=∃as:List Addr,aP K H a (as.map V.ref)/\Paired (iM K H) as rs
def lT (H:Hp)(a:Addr)(rs:abz):Prop:=∃as:List Addr,H a=some (.lst (as.map V.ref))/\Paired (λb ns=>H b=some (.lst (nV ns))) as rs
section
variable {K:abB}{H H':Hp}{a:Addr}
def lT.lists (h:lT H a rs):bG K H a rs:=by obtain⟨as,h1,h2⟩:=h;exact⟨as,aP.of h1,Paired.eV h2 λ_ _ z=>aP.of z⟩
def lT.same (h:lT H a rs)(e:au H H'):lT H' a rs:=by obtain⟨as,h1,h2⟩:=h;exact⟨as,e _ _ h1,Paired.eV h2 λ_ _ z=>e _ _ z⟩
def iM.same (h:iM K H a ns)(e:au H H'):iM K H' a ns:=e.seq h
def ji (h:Paired (iM K H) as rs)(e:au H H'):Paired (iM K H') as rs:=Paired.eV h λ_ _ z=>z.same e
def bG.same (h:bG K H a rs)(e:au H H'):bG K H' a rs:=by obtain⟨as,h1,h2⟩:=h;exact⟨as,e.seq h1,ji h2 e⟩
def dW (ws:List W):(sV ws).length=ws.length:=YW ..
def aL (ws:abA):(nV ws).length=ws.length:=YW ..
def Cp {x:W}(h:ws[i]?=some x):(sV ws)[i]?=some (.str (st x)):=by unfold sV;rw[Y1,h];rfl
end
structure CK (K:abB)(mg:abD)(x:Str)(fs:List Str)(C:Addr):Prop where
 cl:zd K C
 no:∀f∈fs,iJ K C f
 mg:mg x=some (.ref C)
def Dm (K:abB)(C:Addr)(m qual:Str)(st:Stmt):Prop:=∃(f:Addr) (fd:FuncData),Meth K C m f/\dj K m qual st f fd
def Di (K:abB)(C:Addr)(qual:Str)(st:Stmt):Prop:=∃(f:Addr) (fd:FuncData),Mk K C f/\dj K "__init__" qual st f fd
def yi (P:Program)(w:World)(K:abB)(mg:abD)(MH:Heap)(CX:mU)(k:Nat)(C:Addr)(ps:List Str)(sp:Sp):Prop :=
 ∃(f:Addr) (fd:FuncData),Mk K C f/\Binds K fd ps []/\a8 P w K mg MH CX k f fd ps sp
def nW (P:Program)(w:World)(K:abB)(mg:abD)(MH:Heap)(CX:mU)(k:Nat)(C:Addr)(m:Str)(ps:List Str)(sp:Sp):Prop :=
 ∃(f:Addr) (fd:FuncData),Meth K C m f/\Binds K fd ps []/\a8 P w K mg MH CX k f fd ps sp
section
variable {X:Cx}{CX:mU}{k:Nat}{x:Str}{ps:List Str}{sp:Sp}{E:XK}{p pos:Pos}{e:Expr}{es:List Expr}{t:TA}{C:Addr}
def rD (F:yi X.prog X.w X.K X.mg X.MH CX k C ps sp) (hr:cU (k+1) X.A) (hm:X.mg x=some (.ref C)) (hx:Passes CX X E) (ha:PA X (e::es) t) (hg:Gl X x:=by rfl) (Nn:(x==("__debug__":Str))=false:=by decide) (he:starEach (e::es) X.env=(false,eval e X.env)::starEach es X.env:=by rfl)
  (MR:(backTo pos (starEach es X.env)).any (·.1)=false:=by rfl):PE X (.Call (.Name x p) (e::es) [] pos) (GP C sp [] E t):=by
 obtain⟨f,fd,M,hb,F⟩:=F;exact Fe M F hr hg hm hb .nil hx ha Nn he MR
end
def bV:e_ f v []=[(f,v)]:=rfl
def bg {g:Str}{x:V}{r:List (Str×V)}(h:g≠f):e_ f v ((g,x)::r)=(g,x)::e_ f v r:=by show (if g=f then (g,v)::r else (g,x)::e_ f v r)=_;rw[YX h]
def bK {r:List (Str×V)}:List.lookup f ((f,v)::r)=some v:=by simp[List.lookup]
def aS {g:Str}{r:List (Str×V)}(h:f≠g):List.lookup f ((g,v)::r)=List.lookup f r:=by have:(f==g)=false:=Zq.mpr h;simp[List.lookup,this]
def jM (nm kd fa u:V):List (Str×V):=[("name",nm),("kind",kd),("fields",fa),("unit",u)]
abbrev gY:List Str:=["name","kind","fields","unit"]
def lN {a b c:V}:(jM a b c d).lookup ("name":Str)=some a:=bK
def hX {a b c:V}:(jM a b c d).lookup ("kind":Str)=some b:=by unfold jM;rw[aS (by decide +kernel)];exact bK
def jK {a b c:V}:(jM a b c d).lookup ("fields":Str)=some c:=by unfold jM;rw[aS (by decide +kernel),aS (by decide +kernel)];exact bK
def xP {a b c:V}:(jM a b c d).lookup ("unit":Str)=some d:=by unfold jM;rw[aS (by decide +kernel),aS (by decide +kernel),aS (by decide +kernel)];exact bK
def dA (K:abB)(C:Addr)(H:Hp)(a:Addr)(p:aK):Prop:=∃dx fa,H a=some (.ins C dx (jM (.str (st p.name)) (.str (st (cd (kindS p.kind)))) (.ref fa) (.int (p.unit:Nat))))/\bG K H fa p.fields
def da (K:abB)(C:Addr)(H:Hp)(a:Addr)(ps:List aK):Prop:=∃as:List Addr,aP K H a (as.map V.ref)/\Paired (dA K C H) as ps
section
variable {K:abB}{H H':Hp}{C a:Addr}
theorem dA.same {p:aK} (h:dA K C H a p) (e:au H H'):dA K C H' a p:=by obtain⟨dx,fa,h1,h2⟩:=h;exact⟨dx,fa,e _ _ h1,h2.same e⟩
def qd {ps:List aK}(h:Paired (dA K C H) as ps)(e:au H H'):Paired (dA K C H') as ps:=Paired.eV h λ_ _ z=>z.same e
def da.same {ps:List aK}(h:da K C H a ps)(e:au H H'):da K C H' a ps:=by obtain⟨as,h1,h2⟩:=h;exact⟨as,e.seq h1,qd h2 e⟩
end
def uT (C:Addr):Sp:=λvs H Q _=>∃(x dx:Addr) (a b c d:V),vs=[.ref x,a,b,c,d]/\H x=some (.ins C dx [])/\Q .cv (upd H x (.ins C dx (jM a b c d)))
section
def DU:aG ["self","name","kind","fields","unit"] ["self","name","kind","fields","unit"] (aw iE):=fs
def BE (T:CK K mg "Pool" gY C){f:Addr}{fd:FuncData}(F:dj K "__init__" "Pool.__init__" iE f fd):a8 P w K mg MH bB 1 f fd ["self","name","kind","fields","unit"] (uT C):=by
 refine F.ok DU (λvs H Q E h=>?_) (λMK A outer s H vs Q E hr h=>?_)
 . obtain⟨x,dx,a,b,c,d,rfl,_⟩:=h;rfl
 obtain⟨x,dx,a,b,c,d,rfl,hx,q⟩:=h;refine⟨_,af (cG (pv 0) (pv 1) rfl) (af (cG (pv 0) (pv 2) rfl) (af (cG (pv 0) (pv 3) rfl) (ak (cG (pv 0) (pv 4) rfl)))),?_⟩;refine⟨_,rfl,_,rfl,x,C,dx,[],rfl,hx,T.cl,T.no _ (by simp),(by show 0 < 1000;decide),?_⟩;refine⟨_,rfl,_,rfl,x,C,dx,_,rfl,ae,T.cl,T.no _ (by simp),(by show 1 < 1000;decide),?_⟩;refine⟨_,rfl,_,rfl,x,C,dx,_,rfl,ae,T.cl,T.no _ (by simp),(by repeat (first|rw[bV]|rw[bg (by decide +kernel)]);show 2 < 1000;decide),?_⟩;refine⟨_,rfl,_,rfl,x,C,dx,_,rfl,ae,T.cl,T.no _ (by simp),(by repeat (first|rw[bV]|rw[bg (by decide +kernel)]);show 3 < 1000;decide),?_⟩;rw[cQ,cQ,cQ]
 repeat (first|rw[bV]|rw[bg (by decide +kernel)])
 exact q
end
end Bw
namespace L2
theorem k6 {α β:Type}{F:α->β->Prop}:∀{l₁:List α} {l₂:List β},l₁.length=l₂.length->(∀(i:Nat) x y,l₁[i]?=some x->l₂[i]?=some y->F x y)->Paired F l₁ l₂
 |[],[],_,_=>.nil|x::l₁,y::l₂,h,g=>.cons (g 0 x y rfl rfl) (k6 (by simpa using h) λi a b h1 h2=>g (i+1) a b (by simpa using h1) (by simpa using h2))|[],_::_,h,_=>by simp at h|_::_,[],h,_=>by simp at h
section
variable {X:Cx}
end
end L2
namespace HT
def mr {E:abC}{s:Shared}{t sl:Addr}{items:Array Value}{vl vu:Value}{lo hi:Option Int}(ht:IsTup s.heap t items)(hs:s.heap.IsSliceOf sl vl vu .none)(pl:IsPart vl lo)(pu:IsPart vu hi)
  (hw:cq items.size 0 lo=0/\cq items.size items.size hi=items.size)(h:Q (.ref t) s):wpAny (model P w) A (getItem (.ref t) (.ref sl)) Q E s:=by
 obtain⟨os,Oe,OY,OZ⟩:=id hs;have ty:s.TypeIs (.ref sl) "slice":=⟨os,Oe,OY⟩;unfold getItem
 try with_reducible refine aaS ?_
 first|refine YV (Y2 ?_)|skip
 refine YV (wpAny_sequenceKey ht.typeIs (by decide) ?_);refine YV (Z9 (name:=Str.ofString "__getitem__") ht.typeIs Z_ (aae Z_ ht.typeIs entry_tuple_getitem ?_ (args_tuple_getitem _ _)));show wpAny _ _ (Builtin.Tuple.tupleItemsOf (.ref t) >>= _) _ _ s;refine YV (tupleItemsOf_ ht (YV (wpAny_typeOf ty ?_)));rw[YY (by decide)];refine YV (i9 hs pl pu ?_);rw[hw.1,hw.2];show wpAny _ _ (if (((0:Nat):Int)==0&&(1:Int)==1&&(items.size - 0)==items.size)=true then _ else _) _ _ s;rw[YY (by simp)];have t0:s.heap.IsTuple t items:=ht;obtain⟨⟨c,dd,f,l⟩,g,rfl,n,rfl⟩:=ht;obtain⟨hp,ga,d,tk,os⟩:=s
 wp_walk
 exact⟨_,rfl,Y2 h⟩
end HT
namespace L2
section
variable {X:Cx}
def LV:V->Option Int->Option Int->Hp->VK->Prop:=λx lo hi H Q=>∃a xs,x=.ref a/\H a=some (.tup xs)/\∀p H',au H H'->H' p=some (.tup (fY xs lo hi))->Q (.ref p) H'
def Ff:JO X LV:=by
 intro MG s σ H x v vl vu lo hi sl Q I rx hs pl pu h;obtain⟨a,xs,rfl,hx,q⟩:=h;by_cases hw:HT.cq xs.length 0 lo=0/\HT.cq xs.length xs.length hi=xs.length
 . cases rx;obtain⟨MJ,r,ht,hz⟩:=I.tuple (bY.of hx);have hlen:MJ.toArray.size=xs.length:=by rw[Zf];exact r.length.symm
   refine⟨"tuple",_,Z_.lookup,ht.typeIs,HT.mr ht hs pl pu (by rw[hlen];exact hw) ⟨.ref a,H,I,rfl,q a H (au.refl H) ?_⟩⟩;rw[hx];unfold fY;rw[hw.1,hw.2];simp
 exact Jv MG s σ H _ v vl vu lo hi sl Q I rx hs pl pu ⟨a,xs,rfl,bY.of hx,hw,λp hp=>q p _ ((au.refl H).laid hp) ae⟩
theorem oB:∀(l acc:List Int),(l.foldl step_dedup acc).length<=acc.length+l.length/\((l.foldl step_dedup acc).length=acc.length+l.length↔l.Nodup/\∀x∈l,¬x∈acc)
 |[],acc=>by simp
 |v::l,acc=>by
  rw[aan];by_cases h:v∈acc
  . have e:step_dedup acc v=acc:=by unfold step_dedup;rw[YY (by simpa using h)]
    rw[e];have:=(oB l acc).1;rw[Y7];refine⟨by omega,λz=>by omega,λz=>absurd h (z.2 v (by simp))⟩
  have e:step_dedup acc v=acc++[v]:=by unfold step_dedup;rw[YX (by simpa using h)]
  rw[e];obtain⟨i1,i2⟩:=oB l (acc++[v]);rw[Zg,Z7] at i1 i2;rw[Y7];refine⟨by omega,?_⟩;rw[show acc.length+(l.length+1)=acc.length+1+l.length by omega,i2,Z5,abk];simp only[ZJ,Y_,not_or];constructor
  . rintro⟨a,b⟩;exact⟨⟨λm=>(b v m).2 rfl,a⟩,h,λx hx=>(b x hx).1⟩
  rintro⟨⟨a,b⟩,_,c⟩;exact⟨b,λx hx=>⟨c x hx,λz=>a (z ▸ hx)⟩⟩
def FE (ns:List Int):firstMet (λi=>ns.getD i 0) ns.length=ns.foldl step_dedup []:=by
 unfold firstMet;congr 1;refine aba λi=>?_;rw[Y1];by_cases h:i < ns.length
 . rw[aaC h,Y6 h];simp[h]
 rw[ZX (by simpa using h),ZX (by omega)];rfl
def Fu (hc:X.calm=true):i5 X (.type "set") (λxs H Q=>∃(t:Addr) (ns:List Int),xs=[.ref t]/\bY X.K H t (ns.map V.int)/\ns.length<=1000/\∀p S n,H p=none->n<=ns.length->(n=ns.length↔ns.Nodup)->Q (.ref p) (upd H p (.set S n))):=by
 intro MG s σ H xs us Q I r h;obtain⟨t,ns,rfl,ht,hl,q⟩:=h;rw[Vals.yG r];obtain⟨MJ,rv,pt,_⟩:=I.tuple ht;have hn:MJ.length=ns.length:=by rw[<-rv.length,YW]
 have hi:IntsAre MJ.toArray.toList ns:=intsAre_of rv;obtain⟨d1,d2⟩:=oB ns [];rw[aas,Nat.zero_add] at d1 d2;refine BwX.Bo (I.ok.hd hc) (show s.heap.IsTuple t MJ.toArray from pt) hi (by rw[Zf,hn];show ns.length+1 < 4096;omega) λh' tk hS kp=>?_;have hz:MJ.toArray.size=ns.length:=by rw[Zf,hn]
 rw[hz,FE] at hS;refine⟨.ref s.heap.objs.size,_,I.laid (t':=tk) kp (Y5 _) (show bL X.prog X.w _ h' _ (.set _ _) from hS),rfl,q _ _ _ (I.bw.fresh (Y5 _)) d1 (d2.trans ⟨λz=>z.1,λz=>⟨z,by simp⟩⟩)⟩
def EI:i5 X (.builtin "len") (λxs H Q=>∃p S n,xs=[.ref p]/\H p=some (.set S n)/\n<=1000/\Q (.int (n:Nat)) H):=by intro MG s σ H xs us Q I r h;obtain⟨p,S,n,rfl,hp,hn,q⟩:=h;rw[Vals.yG r];obtain⟨o,es,ep,t,ho,hx,hd,_,_,_,hf,rfl⟩:=I.bw p _ hp;exact call_len_set ho hx hd hf (by omega) ⟨.int _,H,I.tok _,⟨_,rfl⟩,q⟩
end
def Dz (K:abB)(a b:Addr):It :=
 ⟨λi H=>∃(xs ys:List V) (x y:V),bY K H a xs/\aP K H b ys/\xs[i]?=some x/\ys[i]?=some y,
  λi H v H'=>∃T x y,v=.ref T/\H T=none/\H'=upd H T (.tup [x,y])/\(∀xs,bY K H a xs->xs[i]?=some x)/\∀ys,aP K H b ys->ys[i]?=some y,
  λi H=>∃xs ys:List V,bY K H a xs/\aP K H b ys/\(xs.length<=i\/ys.length<=i)⟩
structure ZA (z TI TO i1 i2 a b:Addr):Prop where
 n1:¬z∈[i1,a]/\¬TO∈[i1,a]/\¬i2∈[i1,a]
 n2:¬z∈[i2,b]/\¬TO∈[i2,b]/\¬i1∈[i2,b]
 nz:TI≠z/\TO≠z/\TI≠TO/\TI≠i1/\TI≠i2/\TO≠i1/\TO≠i2/\i1≠z/\i2≠z
 na:a≠i1
 nb:b≠i2
def Fi {elts:List Expr}{kk:Nat}{MX:Pos}{z TI TO i1 i2:Addr}(D:ZA z TI TO i1 i2 a b) :
  Turn P w K (.Tuple elts kk MX) (Dz K a b) [z,TI,TO,i1,i2] z (λi h=>IsZip h z TI TO .none/\IsPair h TI (.ref i1) (.ref i2)/\(∃x y,IsPair h TO x y)/\h.IsTupleIter i1 a i/\h.IsListIter i2 b i) where
 mem:=by simp
 obj:=λi h st c hc=>by
  obtain⟨hz,NS,⟨x,y,NA⟩,⟨o1,e1,_,d1⟩,⟨o2,e2,_,d2⟩⟩:=st;have e':c=z\/c=TI\/c=TO\/c=i1\/c=i2:=by simpa using hc
  rcases e' with q|q|q|q|q
  . rw[q];exact⟨_,hz,λv q=>nomatch q⟩
  . rw[q];exact⟨_,NS,λv q=>nomatch q⟩
  . rw[q];exact⟨_,NA,λv q=>nomatch q⟩
  . rw[q];exact⟨o1,e1,λv q=>by rw[d1] at q;cases q⟩
  rw[q];exact⟨o2,e2,λv q=>by rw[d2] at q;cases q⟩
 keep:=λi h h' st k=>by obtain⟨hz,NS,⟨x,y,NA⟩,h1,h2⟩:=st;exact⟨k z (by simp) _ hz,k TI (by simp) _ NS,⟨x,y,k TO (by simp) _ NA⟩,h1.at λo q=>k i1 (by simp) o q,h2.at λo q=>k i2 (by simp) o q⟩
 item:=by
  intro X hP hw hK hc i MG s σ H E I hf st hg;subst hP hw hK;obtain⟨hz,NS,NA,h1,h2⟩:=st;obtain⟨xs,ys,x,y,Pu,Pw,hx,hy⟩:=hg;obtain⟨MJ,rv,p,_⟩:=I.tuple Pu;obtain⟨M8,Rb,p2,_⟩:=I.list Pw;obtain⟨u,hu,ru⟩:=rv.get hx;obtain⟨u2,Sm,So⟩:=Rb.get hy;have UI:z < s.heap.objs.size:=Y8 hz;refine BwX.uf (x:=u) (y:=u2) D.na D.nb ⟨hz,NS,NA,⟨h1,p⟩,⟨h2,p2.isList⟩,D.n1,D.n2,D.nz⟩ (by simpa using hu) (by simpa using Sm) λh' Z hT hk=>?_;refine⟨_,rfl,wpAny_letOwnedTupleGo_zip (s:={s with heap:=h'}) Z.zp λOE Xh sb=>?_⟩;have NJ:OE.get? s.heap.objs.size=some {cls:=.type "tuple",data:=.seq #[u,u2]}:=(sb.2 _ (Nat.ne_of_gt UI)).trans hT;have new:bL X.prog X.w (upd H s.heap.objs.size (.tup [x,y])) OE s.heap.objs.size (.tup [x,y]) :=
   ⟨by show 2<=sizeLine;decide,[u,u2],.cons ru (.cons So .nil),⟨_,NJ,rfl,_,rfl⟩⟩
  have I1:Inv X MG σ (upd H s.heap.objs.size (.tup [x,y])) {s with heap:=OE} :=
   I.tf (t':=s.toks) (ch:=[z,TI,TO,i1,i2]) (λc o hb q=>(sb.2 c (λq'=>hb (by simp[q']))).trans (hk c o (λq'=>hb (by simp[q'])) (λq'=>hb (by simp[q'])) (λq'=>hb (by simp[q'])) (λq'=>hb (by simp[q'])) q)) hf (Y5 _) new
  obtain⟨z1,z2,z3,z4,z5,z6,z7,z8,z9⟩:=D.nz;obtain⟨x',y',SR⟩:=Z.to;refine⟨.ref s.heap.objs.size,_,I1,rfl,⟨_,x,y,rfl,I.bw.fresh (Y5 _),rfl,λl hl=>by rw[I.tu hl Pu];exact hx,λl hl=>by rw[I.rK hl Pw];exact hy⟩,⟨Xh,(sb.2 _ z1).trans Z.ti,⟨x',y',(sb.2 _ z2).trans SR⟩,Z.s1.1.at λo q=>(sb.2 _ z8).trans q,Z.s2.1.at λo q=>(sb.2 _ z9).trans q⟩,λc Rc=>?_⟩;have MN:c < s.heap.objs.size:=by
   have e':c=z\/c=TI\/c=TO\/c=i1\/c=i2:=by simpa using Rc
   obtain⟨_,_,NA⟩:=NA;rcases e' with q|q|q|q|q
   . rw[q];exact UI
   . rw[q];exact Y8 NS
   . rw[q];exact Y8 NA
   . rw[q];obtain⟨_,e1,_⟩:=h1;exact Y8 e1
   rw[q];obtain⟨_,e2,_⟩:=h2;exact Y8 e2
  rw[aq (Zv MN)];exact (hf c Rc).1
 done:=by
  intro X hP hw hK hc i MG s σ H E I hf st hg;subst hP hw hK;obtain⟨hz,NS,NA,h1,h2⟩:=st;obtain⟨xs,ys,Pu,Pw,SS⟩:=hg;obtain⟨MJ,rv,p,_⟩:=I.tuple Pu;obtain⟨M8,Rb,p2,_⟩:=I.list Pw;have l1:=rv.length;have l2:=Rb.length;have he:MJ.toArray[i]?=none\/M8.toArray[i]?=none:=by
   rcases SS with q|q
   . exact .inl (by simp;omega)
   exact .inr (by simp;omega)
  exact BwX.uN (I.ok.hd hc) D.na D.nb ⟨hz,NS,NA,⟨h1,p⟩,⟨h2,p2.isList⟩,D.n1,D.n2,D.nz⟩ he λh' hk=>⟨rfl,I.Gw (t':=s.toks) (ch:=[z,TI,TO,i1,i2]) (λc o hb q =>hk c o (λq'=>hb (by simp[q'])) (λq'=>hb (by simp[q'])) (λq'=>hb (by simp[q'])) (λq'=>hb (by simp[q'])) q) hf⟩
 self:=λA i s Q E st h=>wpAny_pyIter_zip st.1 h
def JR (K:abB)(ta:TA):TI:=λσ H R=>ta σ H λvs H1=>∃a b xs ys,vs=[.ref a,.ref b]/\bY K H1 a xs/\aP K H1 b ys/\R (Dz K a b) H1
def E7 {e e2:Expr}{ta:TA}{p MX:Pos}{elts:List Expr}{kk:Nat}(hg:Gl X "zip")(hm:X.mg "zip"=none)(ha:PA X [e,e2] ta)
  (hs:starEach [e,e2] X.env=(false,eval e X.env)::starEach [e2] X.env:=by rfl)(MR:(backTo pos (starEach [e2] X.env)).any (·.1)=false:=by rfl) :
  PI X (.Tuple elts kk MX) (.Call (.Name "zip" p) [e,e2] [] pos) (JR X.K ta):=by
 intro MG s σ H R I h;refine Call_ (lM I hg hm AI (aaj (bE (ha pos MG s σ H _ I h) λus s1 ⟨vs,H1,I1,r1,q1⟩=>?_) hs MR));obtain⟨a,b,xs,ys,ex,Pu,Pw,q⟩:=q1;subst ex;cases r1 with
 |cons r rr =>
  cases rr with
  |cons r' rr =>
   cases rr;cases r;cases r';obtain⟨MJ,rv,p1,_⟩:=I1.tuple Pu;obtain⟨M8,Rb,p2,_⟩:=I1.list Pw;refine BwX.Gb p1 p2.isList λh' Z hk=>wpAny_pyIter_zip Z.zp ?_;have I2:Inv X MG σ H1 {s1 with heap:=h'}:=I1.kept (t':=s1.toks) hk;have na:a≠s1.heap.objs.size:=by obtain⟨_,e,_⟩:=p1;exact Zv (Y8 e)
   have nb:b≠s1.heap.objs.size+1:=Zv (Nat.lt_succ_of_lt p2.lt);refine⟨s1.heap.objs.size+4,[s1.heap.objs.size+4,s1.heap.objs.size+2,s1.heap.objs.size+3,s1.heap.objs.size,s1.heap.objs.size+1],_,_,H1,rfl,I2,Fi ⟨Z.n1,Z.n2,Z.nz,na,nb⟩,⟨Z.zp,Z.ti,Z.to,Z.s1.1,Z.s2.1⟩,λc Rc=>?_,q⟩;have e':c=s1.heap.objs.size+4\/c=s1.heap.objs.size+2\/c=s1.heap.objs.size+3\/c=s1.heap.objs.size\/c=s1.heap.objs.size+1:=by simpa using Rc
   have hle:s1.heap.objs.size<=c:=by
    rcases e' with z|z|z|z|z
    . rw[z];exact abh _ _
    . rw[z];exact abh _ _
    . rw[z];exact abh _ _
    . rw[z];exact Y5 _
    rw[z];exact abh _ _
   exact I1.yu hle (I1.bw.fresh hle)
def Ke {D:Addr}(hle:xs.length<=ys.length)(Pv:Nat->Hp->Prop)(h0:Pv 0 (upd H1 D (.lst [])))(hl:∀i H,i<=xs.length->Pv i H->bY K H a xs/\aP K H b ys)
  (hs:∀i x y H T,xs[i]?=some x->ys[i]?=some y->Pv i H->H T=none->g (.ref T) (wipe σ vs) (upd H T (.tup [x,y])) λσ2 H2=>wipe σ2 vs=wipe σ vs/\tt σ2 H2 λb H3 =>if b=true then te σ2 H3 λy H4=>∃acc,H4 D=some (.lst acc)/\acc.length < sizeLine/\Pv (i+1) (upd H4 D (.lst (acc++[y]))) else Pv (i+1) H3) (hd:∀H,Pv xs.length H->Qd H) :
  ∃W:Nat->Nat->Hp->Prop,(∃m,W 0 m (upd H1 D (.lst [])))/\∀i m H,W i m H ->
   ((Dz K a b).stop i H/\Qd H)\/((Dz K a b).go i H/\∃Nx:Hp->Prop,(∀H',Nx H'->∃m',m' < m/\W (i+1) m' H')/\∀x H',(Dz K a b).xn i H x H'->g x (wipe σ vs) H' λσ2 H2=>wipe σ2 vs=wipe σ vs/\tt σ2 H2 λb H3 =>if b=true then te σ2 H3 λy H4=>∃acc,H4 D=some (.lst acc)/\acc.length < sizeLine/\Nx (upd H4 D (.lst (acc++[y]))) else Nx H3):=by
 refine⟨λi m H=>m=xs.length - i/\i<=xs.length/\Pv i H,⟨xs.length,by simp,Zo _,h0⟩,?_⟩;rintro i m H ⟨rfl,hi,p⟩;obtain⟨q1,q2⟩:=hl i H hi p;by_cases MN:i < xs.length
 . refine .inr ⟨⟨xs,ys,xs[i],ys[i],q1,q2,by simp[MN],by simp⟩,Pv (i+1),λH' p'=>⟨xs.length - (i+1),by omega,rfl,MN,p'⟩,λx H' w=>?_⟩;obtain⟨T,v,u,rfl,hT,rfl,hx,hy⟩:=w;exact hs i v u _ T (hx xs q1) (hy ys q2) p hT
 have e:i=xs.length:=by omega
 subst e;exact .inl ⟨⟨xs,ys,q1,q2,.inl (Y5 _)⟩,hd H p⟩
section
variable {σ:St}{H:Hp}{ta tb te:TE}{t u:TT}{x y v:V}{b c:Bool}
def zR {Q:VK}(h:Ev ta σ H (.bl b)) (q1:b=true->tb σ H Q) (q2:b=false->Q (.bl false) H):Hc ta tb σ H Q:=h _ ⟨b,rfl,by
 cases b with
 |false=>exact xg (q2 rfl)|true=>exact rN (q1 rfl)⟩
end
end L2
namespace Bw
open L2 Tote
def nY (ws:List W):Prop:=ws.length<=70000/\∀w∈ws,w.length<=70000/\∀c∈w,c < 128
def jF {w:W}{s:String}:decide (V.str (st w)=V.str (Str.ofString s))=decide (w=cd s):=by
 rw[aaE,lB];constructor
 . intro h;injection h with h;exact j6.mp h
 intro h;rw[h]
def G1 (h:i < ws.length):ws[i]?=some (ws.getD i []):=by rw[ZD,Y6 h];rfl
def dP (h:i < ws.length):oN (sV ws) ((i:Nat):Int)=some (.str (st (ws.getD i []))):=cz (Cp (G1 h))
theorem nY.getD {ws:List W}(o:nY ws)(i:Nat):(ws.getD i []).length<=70000/\∀c∈ws.getD i [],c < 128:=by
 by_cases h:i < ws.length
 . exact o.2 _ (Zm (G1 h))
 rw[ZD,ZX (by omega)];exact⟨Zo _,λc hc=>by simp at hc⟩
abbrev ft:List (Nat×W):=[(0,cd "pool"),(4,cd "from"),(6,cd "take"),(8,cd "break"),(10,cd "least"),(12,cd "unit"),(14,cd "none")]
abbrev sizeOf:Tote.Kind->Int×Int
 |.place=>(1,4)|.order=>(2,4)|.any=>(2,3)|.legs=>(2,6)
structure GC (P:Program)(w:World)(K:abB)(mg:abD)(dS aF:Addr):Prop where
 races:Gv mg "MOST_RACES" (.int 16)
 pools:Gv mg "MOST_POOLS" (.int 64)
 couples:Gv mg "MOST_COUPLES" (.int 8)
 runners:Gv mg "MOST_RUNNERS" (.int 24)
 words:Gv mg "POOL_WORDS" (.int 16)
 Hf:Gv mg "SIZES" (.ref dS)
 fixed:Gv mg "FIXED" (.ref aF)
 Dx:∃ts:Tote.Kind->Addr,zM P w K dS [(.inr (st (cd "place")),.ref (ts .place)),(.inr (st (cd "order")),.ref (ts .order)),(.inr (st (cd "any")),.ref (ts .any)),(.inr (st (cd "legs")),.ref (ts .legs))]/\∀(k:Tote.Kind) (H:Hp),bY K H (ts k) [.int (sizeOf k).1,.int (sizeOf k).2]
 IG:∃ts:List Addr,(∀H,bY K H aF (ts.map V.ref))/\Paired (λt (p:Nat×W)=>∀H,bY K H t [.int (p.1:Nat),.str (st p.2)]) ts ft
 range:mg "range"=none
section
def D1 (K:abB):Sp:=λvs H Q _=>∃(a:Addr) (ws:List W),vs=[.ref a]/\aP K H a (sV ws)/\nY ws/\∀H',au H H'->Q (.bl (iX ws)) H'
def HA:aG ["words"] ["words"] (aw ng):=fs
def Hj (G:GW mg){k:Nat}(FN:Fn P w K mg MH bB k "is_name" ["word"] mJ){f:Addr}{fd:FuncData}(F:dj K "is_day" "is_day" ng f fd):a8 P w K mg MH bB (k+1) f fd ["words"] (D1 K):=by
 refine F.ok HA (λvs H Q E h=>?_) (λMK A outer s H vs Q E hr h=>?_)
 . obtain⟨a,ws,rfl,_⟩:=h;rfl
 obtain⟨a,ws,rfl,hS,ok,q⟩:=h;refine⟨_,ak (aA (ya (fL cy (bf G.len (pv 0)) ax (aI _)) (ya (fL cy (bh aM (pv 0) ax (λ_ _=>rfl)) bt (aI _))
  (yq (aV FN hr aX (aa (bh aM (pv 0) ax (λ_ _=>rfl)) ah)))))),?_⟩
 refine zR (cx (aU (ag rfl) (.inl hS)) aD) (λh=>?_) (λh=>?_)
 . rw[a_,dW] at h;have hl:ws.length=2:=by have:=aam h;omega
   refine zR (cx (a6 (ag rfl) aD hS (dP (i:=0) (by omega))) aD) (λh=>?_) (λh=>?_)
   . rw[jF] at h;refine (a6 (ag rfl) aD hS (dP (i:=1) (by omega))) _ ⟨_,rfl,(ok.getD 1).1,λH' e=>?_⟩;have:iX ws=eW (ws.getD 1 []):=by
      unfold iX;rw[hl,Ze h];simp
     rw[<-this];exact q H' e
   rw[jF] at h;have:iX ws=false:=by
    unfold iX;have z:(ws.getD 0 []==cd "day")=false:=by rw[Zq];exact ZE h
    rw[z];simp
   rw[<-this];exact q H (au.refl H)
 rw[a_,dW] at h;have:iX ws=false:=by
  unfold iX;have z:(ws.length==2)=false:=by rw[Zq] at h ⊢;exact λz=>h (by rw[z];rfl)
  rw[z];rfl
 rw[<-this];exact q H (au.refl H)
def fV (ws:List W):Bool:=ws.length==16&&(ft.all λp=>ws.getD p.1 []==p.2)&&eW (ws.getD 1 [])&&(dR (ws.getD 2 [])).isSome
def yp (K:abB):Sp:=λvs H Q _=>∃(a:Addr) (ws:List W),vs=[.ref a]/\aP K H a (sV ws)/\nY ws/\∀H',au H H'->Q (.bl (fV ws)) H'
def vR {ts:Tote.Kind->Addr}{w:W}:valueAt [((.inr (st (cd "place")):Key),Value.ref (ts .place)),(.inr (st (cd "order")),.ref (ts .order)),(.inr (st (cd "any")),.ref (ts .any)),(.inr (st (cd "legs")),.ref (ts .legs))] (.inr (st w))=(dR w).map λk=>Value.ref (ts k):=by
 have key:∀s:W,((Sum.inr (st s):Key)=Sum.inr (st w))↔s=w:=λs=>⟨λh=>j6.mp (Sum.inr.inj h),λh=>by rw[h]⟩;unfold valueAt dR;simp only[aaw,List.find?_nil,key];by_cases h1:w=cd "place"
 . subst h1;simp
 rw[ZI (λz=>h1 z.symm),YX h1];by_cases h2:w=cd "order"
 . subst h2;simp
 rw[ZI (λz=>h2 z.symm),YX h2];by_cases h3:w=cd "any"
 . subst h3;simp
 rw[ZI (λz=>h3 z.symm),YX h3];by_cases h4:w=cd "legs"
 . subst h4;simp
 rw[ZI (λz=>h4 z.symm),YX h4];rfl
def pD:aG ["words","at","word"] ["words"] (aw eD):=fs
def Ex (G:GW mg)(GC:GC P w K mg dS aF){k:Nat}(FN:Fn P w K mg MH bB k "is_name" ["word"] mJ){f:Addr}{fd:FuncData}(F:dj K "has_pool_form" "has_pool_form" eD f fd) :
  a8 P w K mg MH bB (k+1) f fd ["words"] (yp K):=by
 refine F.ok pD (λvs H Q E h=>?_) (λMK A outer s H vs Q E hr h=>?_)
 . obtain⟨a,ws,rfl,_⟩:=h;rfl
 obtain⟨a,ws,rfl,hS,ok,q⟩:=h;obtain⟨ts,hD,hT⟩:=GC.Dx;obtain⟨fs,hF,hP⟩:=GC.IG;refine⟨_,af (aO (aB qm (bf G.len (pv 0)) (bc GC.words) (aI _)) (ak (aA mN)) aC)
  (af (aO (cH (iL (b7 (y_ rfl) (by rfl) G.all PyProof.Rows.boot_all (aa (fX (g:=Ej K 2 (qv (f7 1) (qv (f7 2) Et))) (te:=j_ K_ (j_ (AF K) (cf 0) (cf 1)) (cf 2)) rfl pD.nd (Ju (bc GC.fixed)) (bC (own:=[("at",1),("word",2)]) rfl)
    (λ_ _ _ _ _=>lR rfl (cp (bq 1 pD.nd) (cp (bq 2 pD.nd) jl))) (λ_ _ _ _ _=>cC)
    (λ_ _ _ _ _=>fL cy (bh aM (pv 0) (pv 1) (λ_ _=>rfl)) (pv 2) (aI _))) ah)))) (ak (aA mN)) aC)
  (ak (aA (ya (aV FN hr aX (aa (bh aM (pv 0) ax (λ_ _=>rfl)) ah)) (yq (HG (Er hD (bh aM (pv 0) ax (λ_ _=>rfl)) (bc GC.Hf)))))))),?_⟩
 refine aY (aJ (rb (aU (ag rfl) (.inl hS)) aD)) (λh=>?_) (λh=>?_)
 . rw[a_,dW] at h;refine bW aD ?_;have:fV ws=false:=by
    unfold fV;have z:(ws.length==16)=false:=by rw[ZL,Zq] at h;rw[Zq];exact λz=>h (by rw[z];rfl)
    rw[z];rfl
   rw[<-this];exact q H (au.refl H)
 rw[a_,dW] at h;have hl:ws.length=16:=by rw[ZO] at h;have:=aam h;omega
 have NT:fs.length=7:=by rw[Paired.length hP];rfl
 refine⟨aF,rfl,⟨_,hF H⟩,λD Oh=>Jg (K:=K) (a:=aF) (xs:=fs.map V.ref) (λi H'=>au H H'/\H' D=some (.lst ((ft.take i).map λp=>V.bl (decide (ws.getD p.1 []=p.2)))))
  ⟨(au.refl H).laid Oh,ae⟩ (λi H' _ h=>hF H') ?_ ?_⟩
 . rintro i x H' hi ⟨k1,k2⟩;rw[Y1] at hi;obtain⟨t,ht,rfl⟩:=Zu.mp hi;obtain⟨⟨n,wd⟩,hp,hs⟩:=Paired.sf hP ht;have hn:n < 16:=by
    have:=Zm hp;simp at this;omega
   refine⟨t,_,rfl,hs H',rfl,_,_,rfl,_,_,rfl,rfl,rfl,?_⟩;refine (cx (a6 (ag rfl) (ag rfl) (k1.seq hS) (dP (i:=n) (by omega))) (ag rfl)) _ ⟨_,k2,?_,?_⟩
   . rw[YW,Zh,Zl];have:ft.length=7:=rfl;omega
   refine⟨λb u z=>?_,?_⟩
   . rw[aq (ao z Oh)];exact k1 b u z
   rw[ae,take_snoc hp,Zd];have:decide (V.str (st (ws.getD n []))=V.str (st wd))=decide (ws.getD n []=wd):=by rw[aaE];exact⟨λh=>j6.mp (by injection h),λh=>by rw[h]⟩
   rw[this];rfl
 rintro H' ⟨k1,k2⟩;have k2:H' D=some (.lst ((ft.take (fs.map V.ref).length).map λp=>V.bl (decide (ws.getD p.1 []=p.2)))):=k2;rw[YW,NT] at k2;have eA:((ft.map λp=>decide (ws.getD p.1 []=p.2)).all id)=ft.all λp=>ws.getD p.1 []==p.2:=by rw[aaY];congr 1;funext p;show decide (ws.getD p.1 []=p.2)=(ws.getD p.1 []==p.2);rw[Zx,Y4,ZK]
 refine⟨D,ft.map λp=>decide (ws.getD p.1 []=p.2),rfl,aP.of (by rw[k2,Zk];rfl),_,rfl,?_⟩;rw[eA];refine gS (λh=>?_) (λh=>?_)
 . refine bW aD ?_;have:fV ws=false:=by
    unfold fV;rw[ZL] at h;rw[h];simp
   rw[<-this];exact q H' k1
 have hA:(ft.all λp=>ws.getD p.1 []==p.2)=true:=by simpa using h
 refine (a6 (ag rfl) aD (k1.seq hS) (dP (i:=1) (by omega))) _ ⟨_,rfl,(ok.getD 1).1,λH2 e2=>⟨_,rfl,?_⟩⟩;have eF:fV ws=(eW (ws.getD 1 [])&&(dR (ws.getD 2 [])).isSome):=by unfold fV;rw[hA,hl];simp
 refine gS (λh=>?_) (λh=>?_)
 . refine (a6 (ag rfl) aD ((k1.trans e2).seq hS) (dP (i:=2) (by omega))) _ ⟨Sum.inr (st (ws.getD 2 [])),rfl,rfl,?_⟩;rw[vR];have:((dR (ws.getD 2 [])).map λk=>Value.ref (ts k)).isSome=fV ws:=by
    rw[eF,h,Option.isSome_map];rfl
   rw[this];exact q H2 (k1.trans e2)
 have:fV ws=false:=by
  rw[eF];have:eW (ws.getD 1 [])=false:=by simpa using h
  rw[this];rfl
 rw[<-this];exact q H2 (k1.trans e2)
end
def gU {σ:L2.St}(h:Ev te σ H (.str (st wd)))(ok:wd.length<=70000/\∀c∈wd,c < 128):Ev (mZ lK [] E0 (cg te dE)) σ H (.int (ay wd)):=λ_ r=>h _ ⟨wd,rfl,ok.1,ok.2,r⟩
def zo (h:j<=xs.length):fY xs (some (i:Int)) (some (j:Int))=(xs.drop i).take (j - i):=by
 unfold fY;rw[HT.jq,HT.jq,aaR h];by_cases hi:i<=xs.length
 . rw[aaR hi]
 rw[Nat.min_eq_right (by omega),aaN (Y5 _),aaN (by omega)];simp
section
def fw (ws:List W):Bool :=
 !(!(decide (0<=ay (ws.getD 7 []))&&decide (ay (ws.getD 7 [])<=400))||!(decide (1<=ay (ws.getD 9 []))&&decide (ay (ws.getD 9 [])<=1000))) &&
 (!(!(decide (1<=ay (ws.getD 13 []))&&decide (ay (ws.getD 13 [])<=10000))||!(decide (ay (ws.getD 11 [])=0)||(decide (ay (ws.getD 13 [])<=ay (ws.getD 11 []))&&decide (ay (ws.getD 11 [])<=2*ay (ws.getD 13 []))))) &&
 (if ws.getD 15 []=cd "fewer" then !decide (ws.getD 2 []=cd "place") else decide (ws.getD 15 []=cd "refund")||decide (ws.getD 15 []=cd "carry")))
def uY (K:abB):Sp:=λvs H Q _=>∃(a:Addr) (ws:List W),vs=[.ref a]/\aP K H a (sV ws)/\nY ws/\ws.length=16/\∀H',au H H'->Q (.bl (fw ws)) H'
def qQ:aG ["words","least","unit"] ["words"] (aw dG):=fs
def DA {k:Nat}(FN:Fn P w K mg MH bB k "number_of" ["word"] lK){f:Addr}{fd:FuncData}(F:dj K "are_terms_good" "are_terms_good" dG f fd):a8 P w K mg MH bB (k+1) f fd ["words"] (uY K):=by
 refine F.ok qQ (λvs H Q E h=>?_) (λMK A outer s H vs Q E hr h=>?_)
 . obtain⟨a,ws,rfl,_⟩:=h;rfl
 obtain⟨a,ws,rfl,hS,ok,hl,q⟩:=h;refine⟨_,af (aT 1 qQ.nd (aV FN hr aX (aa (bh aM (pv 0) ax (λ_ _=>rfl)) ah)))
  (af (aT 2 qQ.nd (aV FN hr aX (aa (bh aM (pv 0) ax (λ_ _=>rfl)) ah)))
  (af (aO (PW.pt (fh (cH (cN cu cu ax (aV FN hr aX (aa (bh aM (pv 0) ax (λ_ _=>rfl)) ah)) ax)) (cY (cH (cN cu cu ax (aV FN hr aX (aa (bh aM (pv 0) ax (λ_ _=>rfl)) ah)) ax))))) (ak (aA mN)) aC)
  (af (aO (PW.pt (fh (cH (cN cu cu ax (pv 2) ax)) (cY (cH (PW.pt (fh (aB cy (pv 1) ax (aI _)) (cY (cN cu cu (pv 2) (pv 1) (bD yj ax (pv 2)))))))))) (ak (aA mN)) aC)
  (af (aO (aB cy (bh aM (pv 0) ax (λ_ _=>rfl)) bt (aI _)) (ak (aA (fL qm (bh aM (pv 0) ax (λ_ _=>rfl)) bt (aI _)))) aC)
  (ak (aA (fL gP (bh aM (pv 0) ax (λ_ _=>rfl)) (cn (aa bt (aa bt ah))) (by with_unfolding_all rfl)))))))),?_⟩
 refine cj (gU (a6 (ag rfl) aD hS (dP (i:=11) (by omega))) (ok.getD 11)) ?_;refine cj (gU (a6 (ag rfl) aD hS (dP (i:=13) (by omega))) (ok.getD 13)) ?_;refine aY (iA (fF (cJ aD (gU (a6 (ag rfl) aD hS (dP (i:=7) (by omega))) (ok.getD 7)) aD)) λ_=>fF (cJ aD (gU (a6 (ag rfl) aD hS (dP (i:=9) (by omega))) (ok.getD 9)) aD)) (λh=>?_) (λh1=>?_)
 . refine bW aD ?_;have:fw ws=false:=by unfold fw;rw[h];rfl
   rw[<-this];exact q H (au.refl H)
 refine aY (iA (fF (cJ aD (ag rfl) aD)) λ_=>fF (iA (aJ (cx (ag rfl) aD)) λ_=>cJ (ag rfl) (ag rfl) (zt aD (ag rfl) (.inl ⟨by decide,by decide⟩)))) (λh=>?_) (λh2=>?_)
 . refine bW aD ?_;have:fw ws=false:=by
    unfold fw;have e:decide (V.int (ay (ws.getD 11 []))=V.int 0)=decide (ay (ws.getD 11 [])=0):=by rw[a_];rfl
    rw[e] at h;rw[h];simp
   rw[<-this];exact q H (au.refl H)
 have e2:fw ws=if ws.getD 15 []=cd "fewer" then !decide (ws.getD 2 []=cd "place") else decide (ws.getD 15 []=cd "refund")||decide (ws.getD 15 []=cd "carry"):=by
  unfold fw;have e:decide (V.int (ay (ws.getD 11 []))=V.int 0)=decide (ay (ws.getD 11 [])=0):=by rw[a_];rfl
  rw[e] at h2;rw[h1,h2];simp
 refine aY (aJ (cx (a6 (ag rfl) aD hS (dP (i:=15) (by omega))) aD)) (λh=>?_) (λh=>?_)
 . rw[jF] at h;refine bW (rb (a6 (ag rfl) aD hS (dP (i:=2) (by omega))) aD) ?_;rw[jF];rw[YY (Ze h)] at e2;rw[<-e2];exact q H (au.refl H)
 rw[jF] at h;refine (a6 (ag rfl) aD hS (dP (i:=15) (by omega))) _ ⟨(by show 2<=sizeLine;decide),λt ht=>⟨t,_,rfl,.inr (bY.of ae),rfl,rfl,?_⟩⟩;rw[YX (ZE h)] at e2;have:o4 (V.str (st (ws.getD 15 []))) [V.str (Str.ofString "refund"),V.str (Str.ofString "carry")]=fw ws:=by
  rw[e2];have key:∀s:String,sC (V.str (Str.ofString s)) (V.str (st (ws.getD 15 [])))=decide (ws.getD 15 []=cd s):=λs=>by show (Str.ofString s==st (ws.getD 15 []))=_;rw[Zx,ZK,Y4,lB,j6];exact⟨λz=>z.symm,λz=>z.symm⟩
  show ([V.str (Str.ofString "refund"),V.str (Str.ofString "carry")].any λy=>sC y (V.str (st (ws.getD 15 []))))=_;simp only[aaq,List.any_nil,key,aa3]
 rw[<-this] at q;exact q _ ((au.refl H).laid ht)
def nc (kd:Tote.Kind)(k rc:Nat)(rs:abz):Bool:=match kd with
 |.legs=>decide (rc+k<=rs.length+1)|_=>decide (k<=(rs.getD (rc - 1) []).length)
def iC (d:α)(kd:Tote.Kind)(k rc:Nat)(as:List α):List α:=match kd with
 |.legs=>(as.drop (rc - 1)).take k|.place=>[as.getD (rc - 1) d]|_=>List.replicate k (as.getD (rc - 1) d)
def yo (kd:Tote.Kind)(k rc:Nat)(rs:abz):iC [] kd k rc rs=fR kd k rc rs:=by cases kd <;> rfl
def ub {β:Type}{F:α->β->Prop}{d:α}{e:β}{kd:Tote.Kind}{k rc:Nat}{as:List α}{rs:List β}(h:Paired F as rs)(h1:1<=rc)(h2:rc<=rs.length):Paired F (iC d kd k rc as) (iC e kd k rc rs):=by
 obtain⟨y,hy⟩:∃y,rs[rc - 1]?=some y:=⟨_,Y6 (by omega)⟩;obtain⟨x,hx,hf⟩:=Paired.at2 h hy;have ex:as.getD (rc - 1) d=x:=by rw[ZD,hx];rfl
 have ey:rs.getD (rc - 1) e=y:=by rw[ZD,hy];rfl
 unfold iC;cases kd with
 |legs=>exact Paired.tk k (Paired.dp (rc - 1) h)|place=>rw[ex,ey];exact .cons hf .nil|order=>rw[ex,ey];exact Paired.rep hf k|any=>rw[ex,ey];exact Paired.rep hf k
def rE (K:abB):Sp:=λvs H Q _=>∃(kd:Tote.Kind) (k rc:Nat) (a:Addr) (as:List Addr) (rs:abz),vs=[.str (st (cd (kindS kd))),.int (k:Nat),.int (rc:Nat),.ref a]/\aP K H a (as.map V.ref)/\Paired (iM K H) as rs/\1<=k/\k<=6/\1<=rc/\rc<=rs.length/\rs.length<=70000 /\
 (nc kd k rc rs=false->Q .cv H)/\(nc kd k rc rs=true->∀H' p,au H H'->H p=none->H' p=some (.lst ((iC 0 kd k rc as).map V.ref))->Q (.ref p) H')
def iQ {kd:Tote.Kind}{s:String}:decide (V.str (st (cd (kindS kd)))=V.str (Str.ofString s))=decide (cd (kindS kd)=cd s):=jF
def lu:aG ["kind","size","race","races","interests","place"] ["kind","size","race","races"] (aw ic):=fs
def AB (G:GW mg)(GC:GC P w K mg dS aF){f:Addr}{fd:FuncData}(F:dj K "fields_of" "fields_of" ic f fd):a8 P w K mg MH bB 1 f fd ["kind","size","race","races"] (rE K):=by
 refine F.oT lu λMK A outer s H vs Q E hr h=>?_;obtain⟨kd,k,rc,a,as,rs,rfl,hA,hP,hk1,UJ,N6,hr2,hr3,q0,q1⟩:=h;have ML:as.length=rs.length:=Paired.length hP;refine⟨_,af (aO (aB cy (pv 0) bt (aI _)) (af (aO (aB lH (bD f_ (bD fb (pv 2) (pv 1)) ax) (bf G.len (pv 3)) (aI _)) (ak (aA cO)) aC)
   (ak (aA (cT fO (pv 3) (di (bD f_ (pv 2) ax)) (di (bD fb (bD f_ (pv 2) ax) (pv 1))))))) aC)
  (af (qF (i:=4) lu.nd rfl (Or.inr rfl) (bh aM (pv 3) (bD f_ (pv 2) ax) (λ_ _=>rfl)))
  (af (aO (aB mE (bf G.len (pv 4)) (pv 1) (aI _)) (ak (aA cO)) aC)
  (af (aO (aB cy (pv 0) bt (aI _)) (ak (aA (bU (aa (pv 4) ah)))) aC)
  (ak (aA (fX rfl lu.nd (gN rfl GC.range (aa (pv 1) ah)) (bC (own:=[("place",5)]) rfl) (λ_ _ _ _ _=>bq 5 lu.nd) (λ_ _ _ _ _=>cC) (λ_ _ _ _ _=>pv 4))))))),?_⟩
 refine aY (aJ (cx (ag rfl) aD)) (λh=>?_) (λh=>?_)
 . rw[iQ] at h;have e:kd=.legs:=by
    cases kd <;> first|rfl|(exact absurd (Ze h) (by decide))
   subst e;refine aY (ju (mB (mB (ag rfl) (ag rfl)) aD) (aU (ag rfl) (.inl hA))) (λh=>?_) (λh=>?_)
   . refine bW aD (q0 ?_);rw[YW,ML] at h;have:=Ze h;exact ZI (by omega)
   rw[YW,ML] at h;have:=ZE h;refine⟨_,rfl,?_⟩;refine (mB (ag rfl) aD) _ ⟨_,rfl,?_⟩;refine (mB (mB (ag rfl) aD) (ag rfl)) _ ⟨_,rfl,a,as.map V.ref,rfl,hA,λp hp=>?_⟩;have e1:(rc:Int) - 1=((rc - 1:Nat):Int):=by omega
   have e2:(rc:Int) - 1+(k:Int)=((rc - 1+k:Nat):Int):=by omega
   rw[e1,show (((rc - 1:Nat):Int)+(k:Int))=((rc - 1+k:Nat):Int) by omega,zo (by rw[YW,ML];omega)];refine q1 (Zy (by omega)) _ p ((au.refl H).laid hp) hp ?_;show upd H p _ p=some (.lst (((as.drop (rc - 1)).take k).map V.ref));rw[ae,show rc - 1+k - (rc - 1)=k by omega,List.map_take,abi]
 rw[iQ] at h;have UK:kd≠.legs:=by rintro rfl;exact absurd (ZE h) (by decide)
 obtain⟨ns,Qe⟩:∃ns,rs[rc - 1]?=some ns:=⟨_,Y6 (by omega)⟩;obtain⟨ai,M7,hI⟩:=Paired.at2 hP Qe;have hg:rs.getD (rc - 1) []=ns:=by rw[ZD,Qe];rfl
 have UL:as.getD (rc - 1) 0=ai:=by rw[ZD,M7];rfl
 have P1:oN (as.map V.ref) ((rc:Int) - 1)=some (.ref ai):=by rw[show (rc:Int) - 1=((rc - 1:Nat):Int) by omega];exact cz (by rw[Y1,M7];rfl)
 refine cj (a6 (ag rfl) (mB (ag rfl) aD) hA P1) ?_;have eO:nc kd k rc rs=decide (k<=ns.length):=by unfold nc;rw[hg];cases kd <;> first|rfl|exact absurd rfl UK
 rw[eO] at q0 q1;refine aY (ju (aU (ag rfl) (.inl hI)) (ag rfl)) (λh=>?_) (λh=>?_)
 . refine bW aD (q0 (ZI ?_));rw[aL] at h;have:=Ze h;omega
 rw[aL] at h;have:=ZE h;have q1:=q1 (Zy (by omega));refine aY (aJ (cx (ag rfl) aD)) (λh=>?_) (λh=>?_)
 . rw[iQ] at h;have e:kd=.place:=by
    cases kd <;> first|rfl|(exact absurd (Ze h) (by decide))
   subst e;refine⟨_,rfl,(by show 1<=sizeLine;decide),λp hp=>q1 _ p ((au.refl H).laid hp) hp ?_⟩;show upd H p _ p=some (.lst [.ref (as.getD (rc - 1) 0)]);rw[UL];exact ae
 rw[iQ] at h;have Px:kd≠.place:=by rintro rfl;exact absurd (ZE h) (by decide)
 have eF:iC 0 kd k rc as=List.replicate k ai:=by unfold iC;rw[UL];cases kd <;> first|rfl|exact absurd rfl UK|exact absurd rfl Px
 rw[eF] at q1;refine⟨_,rfl,(k:Int),rfl,by omega,by omega,λD hD=>?_⟩;rw[show ((k:Int)).toNat=k by omega];refine nv (lo:=0) (n:=k) (λi H'=>au H H'/\H' D=some (.lst ((List.replicate i ai).map V.ref))) ⟨(au.refl H).laid hD,ae⟩ ?_ ?_
 . rintro i H' hi ⟨k1,k2⟩;refine⟨rfl,_,rfl,_,k2,?_,?_⟩
   . rw[YW,Zs,Zl];omega
   refine⟨λb u z=>?_,?_⟩
   . rw[aq (ao z hD)];exact k1 b u z
   rw[ae,List.replicate_succ',Zd];rfl
 rintro H' ⟨k1,k2⟩;exact q1 H' D k1 hD k2
end
def nU {w:W}{kd:Tote.Kind}(h:dR w=some kd):w=cd (kindS kd):=by
 unfold dR at h;split at h
 . rename_i e;cases h;exact e
 split at h
 . rename_i e;cases h;exact e
 split at h
 . rename_i e;cases h;exact e
 split at h
 . rename_i e;cases h;exact e
 cases h
def sY (h:fV ws=true):ws.length=16/\∃kd,dR (ws.getD 2 [])=some kd:=by unfold fV at h;simp only[Y3,ZK] at h;exact⟨h.1.1.1,aa1.mp h.2⟩
def Hb (h:ws.length=16):∃p nm kd k fr rc tk t br b le m un u no z:W,ws=[p,nm,kd,k,fr,rc,tk,t,br,b,le,m,un,u,no,z]:=by
 match ws,h with
 |[p,nm,kd,k,fr,rc,tk,t,br,b,le,m,un,u,no,z],_=>exact⟨p,nm,kd,k,fr,rc,tk,t,br,b,le,m,un,u,no,z,rfl⟩
def tP (h:¬(fV ws=true/\fw ws=true)):fm ws rs=none:=by
 by_cases hl:ws.length=16
 . obtain⟨p,nm,kd,k,fr,rc,tk,t,br,b,le,m,un,u,no,z,rfl⟩:=Hb hl;show (match dR kd with
    |none=>none|some kind=>if dH rs kind p nm k fr rc tk t br b le m un u no z then some (⟨nm,kind,fR kind (ay k).toNat (ay rc).toNat rs,(ay u).toNat⟩:aK) else none)=none
   cases hk:dR kd with
   |none=>rfl
   |some kind =>
    show (if dH rs kind p nm k fr rc tk t br b le m un u no z then _ else none)=none;rw[YX];rintro⟨c1,c2,c3,c4,c5,c6,c7,c8,c9,QU,QV,OS,Ph,Ow,OT,NM⟩;refine h ⟨?_,?_⟩
    . unfold fV;show (_&&(ft.all λq=>_)&&eW nm&&(dR kd).isSome)=true;rw[c8,hk];simp[ft,c1,c2,c3,c4,c5,c6,c7]
    have Ou:=nU hk;unfold fw;show (!(!(decide (0<=ay t)&&decide (ay t<=400))||!(decide (1<=ay b)&&decide (ay b<=1000)))&&(!(!(decide (1<=ay u)&&decide (ay u<=10000))||!(decide (ay m=0)||(decide (ay u<=ay m)&&decide (ay m<=2*ay u)))) &&
     (if z=cd "fewer" then !decide (kd=cd "place") else decide (z=cd "refund")||decide (z=cd "carry"))))=true
    have d1:(decide (0<=ay t)&&decide (ay t<=400))=true:=by simp[c9]
    have d2:(decide (1<=ay b)&&decide (ay b<=1000))=true:=by simp[QU]
    have d3:(decide (1<=ay u)&&decide (ay u<=10000))=true:=by simp[QV]
    have d4:(decide (ay m=0)||(decide (ay u<=ay m)&&decide (ay m<=2*ay u)))=true:=by simpa using OS
    rw[d1,d2,d3,d4];by_cases hz:z=cd "fewer"
    . rw[YY hz];rcases Ph with c|c|c
      . have:kd≠cd "place":=by
         rw[Ou];intro e;exact c.2 (by cases kind <;> first|rfl|exact absurd e (by decide))
        simp[this]
      . rw[hz] at c;exact absurd c (by decide)
      rw[hz] at c;exact absurd c (by decide)
    rw[YX hz];rcases Ph with c|c|c
    . exact absurd c.1 hz
    . simp[c]
    simp[c]
 unfold fm;split
 . rename_i e;exact absurd (by rfl) hl
 rfl
def FU {kd:Tote.Kind}(hf:fV ws=true)(ht:fw ws=true)(hk:dR (ws.getD 2 [])=some kd) :
  fm ws rs=if ((sizeOf kd).1<=ay (ws.getD 3 [])/\ay (ws.getD 3 [])<=(sizeOf kd).2)/\(1<=ay (ws.getD 5 [])/\ay (ws.getD 5 [])<=(rs.length:Int))/\nc kd (ay (ws.getD 3 [])).toNat (ay (ws.getD 5 [])).toNat rs=true
   then some ⟨ws.getD 1 [],kd,fR kd (ay (ws.getD 3 [])).toNat (ay (ws.getD 5 [])).toNat rs,(ay (ws.getD 13 [])).toNat⟩ else none:=by
 obtain⟨hl,_⟩:=sY hf;obtain⟨p,nm,kw,k,fr,rc,tk,t,br,b,le,m,un,u,no,z,rfl⟩:=Hb hl;have hk:dR kw=some kd:=hk;show (match dR kw with
   |none=>none|some kind=>if dH rs kind p nm k fr rc tk t br b le m un u no z then some (⟨nm,kind,fR kind (ay k).toNat (ay rc).toNat rs,(ay u).toNat⟩:aK) else none)=if ((sizeOf kd).1<=ay k/\ay k<=(sizeOf kd).2)/\(1<=ay rc/\ay rc<=(rs.length:Int))/\nc kd (ay k).toNat (ay rc).toNat rs=true
   then some (⟨nm,kd,fR kd (ay k).toNat (ay rc).toNat rs,(ay u).toNat⟩:aK) else none
 rw[hk];show (if dH rs kd p nm k fr rc tk t br b le m un u no z then some (⟨nm,kd,fR kd (ay k).toNat (ay rc).toNat rs,(ay u).toNat⟩:aK) else none)=_;have key:dH rs kd p nm k fr rc tk t br b le m un u no z↔((sizeOf kd).1<=ay k/\ay k<=(sizeOf kd).2)/\(1<=ay rc/\ay rc<=(rs.length:Int))/\nc kd (ay k).toNat (ay rc).toNat rs=true:=by
  have Ou:=nU hk;have f1:(ft.all λq=>[p,nm,kw,k,fr,rc,tk,t,br,b,le,m,un,u,no,z].getD q.1 []==q.2)=true:=by unfold fV at hf;simp only[Y3] at hf;exact hf.1.1.2
  have f2:eW nm=true:=by unfold fV at hf;simp only[Y3] at hf;exact hf.1.2
  have f1:p=cd "pool"/\fr=cd "from"/\tk=cd "take"/\br=cd "break"/\le=cd "least"/\un=cd "unit"/\no=cd "none":=by have g:((p==cd "pool")&&((fr==cd "from")&&((tk==cd "take")&&((br==cd "break")&&((le==cd "least")&&((un==cd "unit")&&((no==cd "none")&&true)))))))=true:=f1;simp only[Y3,ZK] at g;obtain⟨g1,g2,g3,g4,g5,g6,g7,_⟩:=g;exact⟨g1,g2,g3,g4,g5,g6,g7⟩
  have f3:(!(!(decide (0<=ay t)&&decide (ay t<=400))||!(decide (1<=ay b)&&decide (ay b<=1000)))&&(!(!(decide (1<=ay u)&&decide (ay u<=10000))||!(decide (ay m=0)||(decide (ay u<=ay m)&&decide (ay m<=2*ay u)))) &&
        (if z=cd "fewer" then !decide (kw=cd "place") else decide (z=cd "refund")||decide (z=cd "carry"))))=true:=ht
  simp only[Y3,ZL,Z4,ZO,Y4,ZU] at f3;obtain⟨⟨t1,t2⟩,⟨t3,t4⟩,t5⟩:=f3;have s1:(leastK kd:Int)=(sizeOf kd).1:=by cases kd <;> rfl
  have s2:(mostK kd:Int)=(sizeOf kd).2:=by cases kd <;> rfl
  have s3:1<=(sizeOf kd).1:=by cases kd <;> decide
  constructor
  . rintro⟨_,_,_,_,_,_,_,_,_,_,_,_,_,Ow,OT,NM⟩;rw[s1,s2] at Ow;refine⟨Ow,OT,?_⟩;unfold nc;rcases NM with ⟨rfl,c⟩|⟨hn,c⟩
    . exact Zy (by omega)
    have e:(ay rc - 1).toNat=(ay rc).toNat - 1:=by omega
    rw[e] at c;cases kd <;> first|exact Zy (by omega)|exact absurd rfl hn
  rintro⟨Ow,OT,NM⟩;refine⟨f1.1,f1.2.1,f1.2.2.1,f1.2.2.2.1,f1.2.2.2.2.1,f1.2.2.2.2.2.1,f1.2.2.2.2.2.2,f2,t1,t2,t3,t4,?_,by rw[s1,s2];exact Ow,OT,?_⟩
  . split at t5
    . rename_i hz;simp only[ZL,ZC] at t5;refine .inl ⟨hz,?_⟩;rintro rfl;exact t5 Ou
    refine .inr ?_;simpa using t5
  have e:(ay rc - 1).toNat=(ay rc).toNat - 1:=by omega
  rw[e];unfold nc at NM;by_cases hn:kd=.legs
  . subst hn;have:=Ze NM;exact .inl ⟨rfl,by omega⟩
  refine .inr ⟨hn,?_⟩;have:(ay k).toNat<=(rs.getD ((ay rc).toNat - 1) []).length:=by cases kd <;> first|exact Ze NM|exact absurd rfl hn
  omega
 by_cases hc:dH rs kd p nm k fr rc tk t br b le m un u no z
 . rw[YY hc,YY (key.mp hc)]
 rw[YX hc,YX (λz=>hc (key.mpr z))]
section
def yU (K:abB) (C:Addr):Sp:=λvs H Q _=>∃(a b:Addr) (ws:List W) (as:List Addr) (rs:abz),vs=[.ref a,.ref b]/\aP K H a (sV ws)/\nY ws/\aP K H b (as.map V.ref)/\Paired (iM K H) as rs/\rs.length<=16 /\
 (fm ws rs=none->∀H',au H H'->Q .cv H')/\(∀p,fm ws rs=some p->∀H' x dx fa NK,au H H'->H x=none->H fa=none->H' x=some (.ins C dx (jM (.str (st p.name)) (.str (st (cd (kindS p.kind)))) (.ref fa) (.int (p.unit:Nat)))) ->
  H' fa=some (.lst (NK.map V.ref))->(∀F:Addr->abA->Prop,Paired F as rs->Paired F NK p.fields)->Q (.ref x) H')
def ll:aG ["words","races","kind","size","bounds","race","fields"] ["words","races"] (aw ig):=fs
def EG (G:GW mg)(GC:GC P w K mg dS aF)(T:CK K mg "Pool" gY C){k:Nat}(FF:Fn P w K mg MH bB k "has_pool_form" ["words"] (yp K))(FT:Fn P w K mg MH bB k "are_terms_good" ["words"] (uY K))
  (FN:Fn P w K mg MH bB k "number_of" ["word"] lK)(FL:Fn P w K mg MH bB k "fields_of" ["kind","size","race","races"] (rE K))(FP:yi P w K mg MH bB k C ["self","name","kind","fields","unit"] (uT C))
  {f:Addr}{fd:FuncData}(F:dj K "read_pool" "read_pool" ig f fd):a8 P w K mg MH bB (k+2) f fd ["words","races"] (yU K C):=by
 refine F.ok ll (λvs H Q E h=>?_) (λMK A outer s H vs Q E N6 h=>?_)
 . obtain⟨_,_,_,_,_,rfl,_⟩:=h;rfl
 obtain⟨a,b,ws,as,rs,rfl,hS,ok,SU,Py,Qq,q0,q1⟩:=h;have hr:cU k _:=N6.mono (Nat.le_succ k);obtain⟨ts,hD,hT⟩:=GC.Dx;refine⟨_,af (aO (PW.pt (fh (cH (iL (aV FF hr aX (aa (pv 0) ah)))) (cY (cH (iL (aV FT hr aX (aa (pv 0) ah))))))) (ak (aA cO)) aC)
  (af (aT 2 ll.nd (bh aM (pv 0) ax (λ_ _=>rfl)))
  (af (aT 3 ll.nd (aV FN hr aX (aa (bh aM (pv 0) ax (λ_ _=>rfl)) ah)))
  (af (aT 4 ll.nd (CI hD (bc GC.Hf) (pv 2) (λ_ _=>rfl)))
  (af (aT 5 ll.nd (aV FN hr aX (aa (bh aM (pv 0) ax (λ_ _=>rfl)) ah)))
  (af (aO (PW.pt (fh (cH (cN cu cu (bh DC (pv 4) ax (λ_ _=>rfl)) (pv 3) (bh DC (pv 4) ax (λ_ _=>rfl)))) (cY (cH (cN cu cu ax (pv 5) (bf G.len (pv 1))))))) (ak (aA cO)) aC)
  (af (aT 6 ll.nd (aV FL hr aX (aa (pv 2) (aa (pv 3) (aa (pv 5) (aa (pv 1) ah))))))
  (af (aO (aB uU (pv 6) cO (aI _)) (ak (aA cO)) aC)
  (ak (aA (rD FP N6 T.mg aX (aa (bh aM (pv 0) ax (λ_ _=>rfl)) (aa (pv 2) (aa (pv 6) (aa (aV FN hr aX (aa (bh aM (pv 0) ax (λ_ _=>rfl)) ah)) ah)))))))))))))),?_⟩
 refine⟨_,rfl,a,ws,rfl,hS,ok,λH1 e1=>⟨_,rfl,?_⟩⟩;refine gS (λh=>?_) (λh=>?_)
 . refine q0 (tP λz=>?_) H1 e1;rw[z.1] at h;cases h
 have hf:fV ws=true:=by simpa using h
 obtain⟨hl,kd,hk⟩:=sY hf;refine⟨_,rfl,a,ws,rfl,e1.seq hS,ok,hl,λH2 e2=>⟨_,rfl,?_⟩⟩;have NZ:=e1.trans e2;refine gS (λh=>?_) (λh=>?_)
 . refine q0 (tP λz=>?_) H2 NZ;rw[z.2] at h;cases h
 have ht:fw ws=true:=by simpa using h
 have SV:=NZ.seq hS;have pe:=FU (rs:=rs) hf ht hk;have Ou:=nU hk;refine cj (a6 (ag rfl) aD SV (dP (i:=2) (by omega))) ?_;refine cj (gU (a6 (ag rfl) aD SV (dP (i:=3) (by omega))) (ok.getD 3)) ?_;refine⟨_,rfl,Sum.inr (st (ws.getD 2 [])),V.ref (ts kd),Value.ref (ts kd),rfl,rfl,by rw[vR,hk];rfl,rfl,?_⟩;refine cj (gU (a6 (ag rfl) aD SV (dP (i:=5) (by omega))) (ok.getD 5)) ?_;have hA:=NZ.seq SU;have hP:=ji Py NZ;have ML:as.length=rs.length:=Paired.length hP;refine aY (iA (fF (cJ (BZ (ag rfl) aD (hT kd H2) (cz (j:=0) rfl)) (ag rfl) (BZ (ag rfl) aD (hT kd H2) (cz (j:=1) rfl)))) λ_=>fF (cJ aD (ag rfl) (aU (ag rfl) (.inl hA)))) (λh=>?_) (λh=>?_)
 . refine bW aD (q0 ?_ H2 NZ);rw[pe,YX];rintro⟨z1,z2,_⟩;rw[YW,ML] at h;simp only[ZU,ZL,aag,ZC] at h;omega
 rw[YW,ML] at h;simp only[Z4,ZO,Y3,Y4] at h;obtain⟨h1,h2⟩:=h;have s3:1<=(sizeOf kd).1:=by cases kd <;> decide
 have s4:(sizeOf kd).2<=6:=by cases kd <;> decide
 have n3:ay (ws.getD 3 [])=(((ay (ws.getD 3 [])).toNat:Nat):Int):=by omega
 have n5:ay (ws.getD 5 [])=(((ay (ws.getD 5 [])).toNat:Nat):Int):=by omega
 refine⟨_,rfl,_,rfl,_,rfl,_,rfl,kd,(ay (ws.getD 3 [])).toNat,(ay (ws.getD 5 [])).toNat,b,as,rs,by rw[<-n3,<-n5,<-Ou];rfl,hA,hP,by omega,by omega,by omega,by omega,by omega,λhO=>?_,λhO H3 p e3 Xi hp=>?_⟩
 ·
  refine⟨_,rfl,rfl,_,rfl,q0 ?_ H2 NZ⟩;rw[pe,YX];rintro⟨_,_,z⟩;rw[hO] at z;cases z
 refine⟨_,rfl,rfl,_,rfl,?_⟩;have PM:=NZ.trans e3;have UM:=PM.seq hS;refine (a6 (ag rfl) aD UM (dP (i:=1) (by omega))) _ ⟨_,rfl,_,rfl,?_⟩;refine (gU (a6 (ag rfl) aD UM (dP (i:=13) (by omega))) (ok.getD 13)) _ ?_;intro x dx nx Rf nex;refine⟨x,dx,_,_,_,_,rfl,ae,rfl,?_⟩;rw[YY ⟨h1,h2,hO⟩] at pe;have sm:au H3 (upd (upd (upd H3 dx (.own x)) x (.ins C dx [])) x (.ins C dx (jM (V.str (st (ws.getD 1 []))) (V.str (st (ws.getD 2 []))) (V.ref p) (V.int (ay (ws.getD 13 [])))))):=λb u z=>by rw[aq (ao z nx),aq (ao z nx),aq (ao z Rf)];exact z
 have hu:0<=ay (ws.getD 13 []):=by unfold fw at ht;simp only[Y3,ZL,Z4,ZO,Y4] at ht;omega
 have Qr:p≠x:=ao hp nx;have npd:p≠dx:=ao hp Rf;refine q1 _ pe _ x dx p (iC 0 kd (ay (ws.getD 3 [])).toNat (ay (ws.getD 5 [])).toNat as) (PM.trans sm) (PM.free nx) (NZ.free Xi) ?_ ?_ ?_
 . rw[ae,Ou];rw[Ou] at *;simp only[Int.toNat_of_nonneg hu]
 . exact sm _ _ hp
 intro F0 Xj;show Paired _ _ (fR _ _ _ rs);rw[<-yo];exact ub Xj (by omega) (by omega)
end
end Bw
namespace L2
def KD (h:te σ H D.rt):Dg te D σ H:=h
def zO {Q:VK}(h:wi σ H λJ H1=>∀D,H1 D=none->∃W:Nat->Nat->Hp->Prop,(∃m,W 0 m (upd H1 D (.lst [])))/\∀i m H,W i m H ->
 (J.stop i H/\Q (.ref D) H)\/(J.go i H/\∃Nx:Hp->Prop,(∀H',Nx H'->∃m',m' < m/\W (i+1) m' H')/\∀x H',J.xn i H x H'->g x (wipe σ vs) H' λσ2 H2=>wipe σ2 vs=wipe σ vs/\tt σ2 H2 λb H3 =>if b=true then te σ2 H3 λy H4=>∃acc,H4 D=some (.lst acc)/\acc.length < sizeLine/\Nx (upd H4 D (.lst (acc++[y]))) else Nx H3)):HL wi g tt te vs σ H Q:=h
def j7 {tb:TE}{i j:Int}(ha:Ev ta σ H (.int i))(hb:Ev tb σ H (.int j)):Ev (j_ (rY λi j=>.int (i+j)) ta tb) σ H (.int (i+j)):=λ_ r=>ha _ (hb _ ⟨i,j,rfl,rfl,r⟩)
def rR {tb:TE}{i j:Int}(ha:Ev ta σ H (.int i))(hb:Ev tb σ H (.int j)):Ev (j_ (rY λi j=>.int (i - j)) ta tb) σ H (.int (i - j)):=λ_ r=>ha _ (hb _ ⟨i,j,rfl,rfl,r⟩)
def uS {ty td:TE}{y:V}{d:Addr}{o:Option V}(hy:Ev ty σ H y)(hd:Ev td σ H (.ref d))(g:gZ H d y o):Tv (tB (JJ ty td)) σ H o.isSome:=λ_ r=>hy _ (hd _ ⟨d,o,rfl,g,_,rfl,r⟩)
def Fz (p q r:Int->Int->Bool)(ta tb tc td:TE):TT:=λσ H Q=>∃i j k l,Ev ta σ H (.int i)/\Ev tb σ H (.int j)/\Ev tc σ H (.int k)/\Ev td σ H (.int l)/\Q (p i j&&(q j k&&r k l)) H
def Bg {a b c d:Expr}{o1 o2 o3:CmpOp}{p q r:Int->Int->Bool}{tb tc td:TE}(h1:jT X (compareOp o1) (rY λi j=>.bl (p i j)))(h2:jT X (compareOp o2) (rY λi j=>.bl (q i j)))(h3:jT X (compareOp o3) (rY λi j=>.bl (r i j)))
  (ha:PE X a ta)(hb:PE X b tb)(hc:PE X c tc)(hd:PE X d td)(hm:lastMarks [o1,o2,o3] [b,c,d]=false:=by with_unfolding_all rfl):PT X (.Compare a [o1,o2,o3] [b,c,d] pos) (Fz p q r ta tb tc td):=by
 rintro MG s σ H Q I ⟨i,j,k,l,ea,eb,ec,ed,hq⟩;have get:∀{e:Expr} {te:TE} {v:V},PE X e te->Ev te σ H v->∀s',Inv X MG σ H s'->wpAny (model X.prog X.w) X.A (eval e X.env) (λu s2=>RelV v u/\Inv X MG σ H s2) X.xe s':=λ{e te v} he ev s' I' =>
  bE (he MG s' σ H (λx H1=>x=v/\H1=H) I' (ev _ ⟨rfl,rfl⟩)) λu s2 ⟨x,H1,I2,rx,e1,e2⟩=>by subst e1 e2;exact⟨rx,I2⟩
 have cmp:∀{op:CmpOp} {p:Int->Int->Bool} {i j:Int} {u v:Value},jT X (compareOp op) (rY λi j=>.bl (p i j))->RelV (.int i) u->RelV (.int j) v->∀s',Inv X MG σ H s'->wpAny (model X.prog X.w) X.A (compareOp op u v) (λc s2=>c=.bool (p i j)/\Inv X MG σ H s2) X.xe s':=λ{op p i j u v} ho ru rv s' I' =>
  bE (ho MG s' σ H _ _ u v (λx H1=>x=.bl (p i j)/\H1=H) I' ru rv ⟨i,j,rfl,rfl,rfl,rfl⟩) λc s2 ⟨x,H1,I2,rx,e1,e2⟩=>by subst e1 e2;exact⟨rx,I2⟩
 refine isTrue_chain (bE (get ha ea s I) λu0 s0 ⟨r0,I0⟩=>test_link (bE (get hb eb s0 I0) λu1 s1 ⟨r1,I1⟩=>bE (cmp h1 r0 r1 s1 I1) λc1 s2 ⟨e1,I2⟩=>?_)) hm;subst e1;refine Z8 ?_;cases z1:p i j with
 |false=>rw[z1] at hq;exact ite_ff ⟨H,I2,hq⟩
 |true =>
  rw[z1] at hq;refine ite_tt (test_link (bE (get hc ec s2 I2) λu2 s3 ⟨r2,I3⟩=>bE (cmp h2 r1 r2 s3 I3) λc2 s4 ⟨e2,I4⟩=>?_));subst e2;refine Z8 ?_;cases z2:q j k with
  |false=>rw[z2] at hq;exact ite_ff ⟨H,I4,hq⟩|true =>rw[z2] at hq;refine ite_tt (test_last (bE (get hd ed s4 I4) λu3 s5 ⟨r3,I5⟩=>bE (cmp h3 r2 r3 s5 I5) λc3 s6 ⟨e3,I6⟩=>?_));subst e3;exact Z8 ⟨H,I6,hq⟩
end L2
namespace Bw
open L2 Tote
def Cq (H:Hp)(d:Addr)(l:abA):Prop:=∃MI,H d=some (.dK MI)/\MI.length<=l.length/\∀n:Nat,(c_ MI (Sum.inl (n:Int):Key)).isSome=decide (n∈l)
def Cq.put {MI:List (Key×V)}(h:MI.length<=l.length)(hk:∀n:Nat,(c_ MI (Sum.inl (n:Int):Key)).isSome=decide (n∈l)) :
  (putK MI (Sum.inl (n:Int)) (V.bl true)).length<=(l++[n]).length/\∀m:Nat,(c_ (putK MI (Sum.inl (n:Int)) (V.bl true)) (Sum.inl (m:Int):Key)).isSome=decide (m∈l++[n]):=by
 refine⟨?_,λm=>?_⟩
 . have:=iq MI (Sum.inl (n:Int):Key) (V.bl true);rw[Zg];simp;omega
 rw[rX];by_cases e:m=n
 . subst e;rw[YY rfl];simp
 rw[YX (λz=>e (by have:=Sum.inl.inj z;omega)),hk m];simp[e]
def Fs {b:Int}(hb:0<=b)(Q8:b < 100000):Builtin.Range.small 2 b 3=true:=by unfold Builtin.Range.small Builtin.Range.rangeSize;simp only[Builtin.Range.rangeFitsLong,Y3,ZU,Y4,ZK,show ((3:Int) > 0) by decide,aaB];split <;> omega
def Jc {m:Nat}:Builtin.Range.rangeSize 2 ((2+3*m:Nat):Int) 3=(m:Int):=by unfold Builtin.Range.rangeSize;simp only[show ((3:Int) > 0) by decide,aaB];split <;> omega
def AL {R:Nat}{c a b:W}{r:List W}{fs ss:abA}:dw R (c::a::b::r) fs ss=if c=cd "couple"/\1<=ay a/\ay a < ay b/\ay b<=(R:Int)/\¬(ay a).toNat∈ss/\¬(ay b).toNat∈fs/\¬(ay b).toNat∈ss
  then dw R r (fs++[(ay a).toNat]) (ss++[(ay b).toNat]) else none:=rfl
def Kp {r:List W}(h:i+3<=r.length):r.drop i=r.getD i []::r.getD (i+1) []::r.getD (i+2) []::r.drop (i+3):=by
 have g:∀j,j < r.length->r.drop j=r.getD j []::r.drop (j+1):=λj hj=>by rw[aaf hj,ZD,Y6 hj];rfl
 rw[g i (by omega),g (i+1) (by omega),g (i+2) (by omega)]
section
def yO (K:abB):Sp:=λvs H Q _=>∃(a:Addr) (ws:List W),vs=[.ref a]/\aP K H a (sV ws)/\nY ws/\ws≠[] /\
 (bF ws=none->∀H',au H H'->Q .cv H')/\(∀hs,bF ws=some hs->∀H' x,au H H'->H x=none->H' x=some (.lst (nV hs))->Q (.ref x) H')
def u7 {w0 n:W}{r:List W}:bF (w0::n::r)=if r.length % 3=0/\r.length<=24/\2<=ay n/\ay n<=24 then (dw (ay n).toNat r [] []).map (dM (ay n).toNat) else none:=rfl
def xH (MT:ws≠[])(h:(!((ws.length:Int)==2+3*(((ws.length:Int) - 2) / 3))||decide (8 < ((ws.length:Int) - 2) / 3))=true):bF ws=none:=by
 match ws,MT with
 |[w0],_=>rfl
 |w0::n::r,_ =>
  rw[u7,YX];rintro⟨z1,z2,_⟩;have el:((w0::n::r).length:Int)=2+(r.length:Int):=by simp;omega
  rw[el] at h;simp only[ZU,ZL,Zq,Y4] at h;omega
def Av (MT:ws≠[])(h:(ws.length:Int)=2+3*(((ws.length:Int) - 2) / 3)):∃w0 n r,ws=w0::n::r:=by
 match ws,MT with
 |[w0],_=>exact absurd h (by show ¬((1:Int)=2+3*((1 - 2) / 3));decide)|w0::n::r,_=>exact⟨w0,n,r,rfl⟩
def u_ (R:Nat)(ss:abA):dM R ss=((List.range R).map λi=>i+1).filter λn=>!decide (n∈ss):=by unfold dM;congr 1;funext n;rw[Z1]
def fH:aG ["words","couples","runners","firsts","seconds","at","first","second","runner"] ["words"] (aw fS):=fs
def Gu (G:GW mg)(GC:GC P w K mg dS aF){k:Nat}(FN:Fn P w K mg MH bB k "number_of" ["word"] lK){f:Addr}{fd:FuncData}(F:dj K "read_race" "read_race" fS f fd):a8 P w K mg MH bB (k+1) f fd ["words"] (yO K):=by
 refine F.oT fH λMK A outer s H vs Q E hr h=>?_;obtain⟨a,ws,rfl,hS,ok,MT,q0,q1⟩:=h;have hu:∀{X:Cx},X.A=(A.deeper (envOfC "read_race" (aw fS) s.heap.objs.size f MK))->X.A.units+1 < cLine:=λ{X} e=>by rw[e];have:=hr.un;omega
 refine⟨_,af (aT 1 fH.nd (bD Gn (bD f_ (bf G.len (pv 0)) ax) ax))
  (af (aO (PW.pt (fh (aB qm (bf G.len (pv 0)) (bD fb ax (bD yj ax (pv 1))) (aI _)) (cY (aB lH (pv 1) (bc GC.couples) (aI _))))) (ak (aA cO)) aC)
  (af (aT 2 fH.nd (aV FN hr aX (aa (bh aM (pv 0) ax (λ_ _=>rfl)) ah)))
  (af (aO (cH (cN cu cu ax (pv 2) (bc GC.runners))) (ak (aA cO)) aC)
  (af (aT 3 fH.nd qj)
  (af (qF (i:=4) fH.nd rfl (Or.inr rfl) qj)
  (af (dq ZZ rfl (sQ rfl GC.range (aa ax (aa (bf G.len (pv 0)) (aa ax ah)))) (bq 5 fH.nd)
   (af (aT 6 fH.nd (aV FN hr aX (aa (bh aM (pv 0) (bD fb (pv 5) ax) (λ_ _=>rfl)) ah)))
   (af (aT 7 fH.nd (aV FN hr aX (aa (bh aM (pv 0) (bD fb (pv 5) ax) (λ_ _=>rfl)) ah)))
   (af (aO (PW.pt (fh (aB qm (bh aM (pv 0) (pv 5) (λ_ _=>rfl)) bt (aI _)) (cY (cH (Bg cu mE cu ax (pv 6) (pv 7) (pv 2)))))) (ak (aA cO)) aC)
   (af (aO (PW.pt (fh (rm (uH (hu rfl) (pv 6) (pv 4))) (fh (rm (uH (hu rfl) (pv 7) (pv 3))) (cY (rm (uH (hu rfl) (pv 7) (pv 4))))))) (ak (aA cO)) aC)
   (af (mX (hu rfl) (pv 3) (pv 6) mN rfl)
   (ak (mX (hu rfl) (pv 4) (pv 7) mN rfl))))))))
  (ak (aA (fX rfl fH.nd (tQ rfl GC.range (aa ax (aa (bD fb (pv 2) ax) ah))) (bC (own:=[("runner",8)]) rfl) (λ_ _ _ _ _=>bq 8 fH.nd) (λ_ _ _ _ _=>pb (rm (Bj (hu rfl) (pv 8) (pv 4)))) (λ_ _ _ _ _=>pv 8)))))))))),?_⟩
 refine cj (zt (mB (aU (ag rfl) (.inl hS)) aD) aD ⟨by decide,by decide⟩) ?_;rw[dW];refine aY (iA (aJ (rb (aU (ag rfl) (.inl hS)) (mB aD (zt aD (ag rfl) (.inl ⟨by decide,by decide⟩))))) λ_=>ju (ag rfl) aD) (λh=>?_) (λh=>?_)
 . refine bW aD (q0 ?_ H (au.refl H));rw[a_,dW] at h;exact xH MT h
 rw[a_,dW] at h;simp only[Z4,ZO,ZK,ZC] at h;obtain⟨h1,h2⟩:=h;obtain⟨w0,n,r,rfl⟩:=Av MT h1
 have el:((w0::n::r).length:Int)=2+(r.length:Int):=by simp;omega
 rw[el] at h1 h2;obtain⟨m,hm⟩:∃m:Nat,r.length=3*m:=⟨r.length / 3,by omega⟩;have hm8:m<=8:=by omega
 have Xk:n.length<=70000/\∀c∈n,c < 128:=ok.getD 1;refine cj (gU (wd:=n) (a6 (ag rfl) aD hS (dP (i:=1) (by simp))) Xk) ?_;refine aY (fF (cJ aD (ag rfl) aD)) (λh=>?_) (λh=>?_)
 . refine bW aD (q0 ?_ H (au.refl H));rw[u7,YX];rintro⟨_,_,z1,z2⟩;simp only[ZL,aag,ZC] at h;omega
 simp only[ZO,Y3,Y4] at h;have hn:ay n=(((ay n).toNat:Nat):Int):=by omega
 generalize hR:(ay n).toNat=R at hn;have SW:bF (w0::n::r)=(dw R r [] []).map (dM R):=by rw[u7,YY ⟨by omega,by omega,h.1,h.2⟩,hR]
 rw[hn];intro d1 UN d2 hd2;have Rg:d2≠d1:=by rintro rfl;rw[ae] at hd2;cases hd2
 have Qs:H d2=none:=by rwa [aq Rg] at hd2
 have Qt:((w0::n::r).length:Int)=((2+3*m:Nat):Int):=by rw[el,hm];omega
 have S0:au H (upd (upd H d1 (.dK [])) d2 (.dK [])):=((au.refl H).laid UN).laid Qs;refine pW (zz (n:=m) aD (aU (ag rfl) (.inl (S0.seq hS))) aD ⟨by decide,by decide,?_,?_⟩ ?_)
 . rw[dW,Qt];exact Fs (by omega) (by omega)
 . rw[dW,Qt];exact Jc
 refine rJ (lo:=2) (c:=3) (n:=m) (λi σ H'=>∃(v5 v6 v7:Option V) (fs ss:abA),σ=[some (.ref a),some (.int ((((w0::n::r).length:Int) - 2) / 3)),some (.int (R:Nat)),some (.ref d1),some (.ref d2),v5,v6,v7,none] /\
   au H H'/\Cq H' d1 fs/\Cq H' d2 ss/\fs.length<=i/\ss.length<=i/\dw R (r.drop (3*i)) fs ss=dw R r [] [])
  ⟨none,none,none,[],[],rfl,S0,⟨[],by rw[aq Rg.symm];exact ae,Y5 _,λ_=>rfl⟩,⟨[],ae,Y5 _,λ_=>rfl⟩,Y5 _,Y5 _,rfl⟩ ?_ ?_
 . rintro i σ H' hi ⟨v5,v6,v7,fs,ss,rfl,S1,⟨k1,e1,l1,p1⟩,⟨k2,e2,l2,p2⟩,lf,ls,hc⟩;have SY:=S1.seq hS;have d3:r.drop (3*i)=r.getD (3*i) []::r.getD (3*i+1) []::r.getD (3*i+2) []::r.drop (3*(i+1)):=by
    have:=Kp (r:=r) (i:=3*i) (by omega);rw[this,show 3*i+3=3*(i+1) by omega]
   have ga:∀j,(w0::n::r).getD (2+j) []=r.getD j []:=λj=>by rw[show 2+j=j+1+1 by omega];rfl
   have Ra:oN (sV (w0::n::r)) (2+(i:Nat)*3)=some (.str (st (r.getD (3*i) []))):=by have:=dP (ws:=w0::n::r) (i:=2+3*i) (by simp;omega);rw[ga] at this;rw[show (2:Int)+(i:Nat)*3=((2+3*i:Nat):Int) by omega];exact this
   have sf:oN (sV (w0::n::r)) (2+(i:Nat)*3+1)=some (.str (st (r.getD (3*i+1) []))):=by have:=dP (ws:=w0::n::r) (i:=2+(3*i+1)) (by simp;omega);rw[ga] at this;rw[show (2:Int)+(i:Nat)*3+1=((2+(3*i+1):Nat):Int) by omega];exact this
   have at2:oN (sV (w0::n::r)) (2+(i:Nat)*3+2)=some (.str (st (r.getD (3*i+2) []))):=by have:=dP (ws:=w0::n::r) (i:=2+(3*i+2)) (by simp;omega);rw[ga] at this;rw[show (2:Int)+(i:Nat)*3+2=((2+(3*i+2):Nat):Int) by omega];exact this
   have Xl:(r.getD (3*i+1) []).length<=70000/\∀c∈r.getD (3*i+1) [],c < 128:=by rw[<-ga];exact ok.getD _
   have Xm:(r.getD (3*i+2) []).length<=70000/\∀c∈r.getD (3*i+2) [],c < 128:=by rw[<-ga];exact ok.getD _
   rw[d3,AL] at hc;generalize hA:ay (r.getD (3*i+1) [])=na at hc;generalize hB:ay (r.getD (3*i+2) [])=nb at hc;refine cj (gU (a6 (ag rfl) (mB (ag rfl) aD) SY sf) Xl) ?_;refine cj (gU (a6 (ag rfl) (mB (ag rfl) aD) SY at2) Xm) ?_;rw[hA,hB];have none_:dw R r [] []=none->Q .cv H':=λz=>q0 (by rw[SW,z];rfl) H' S1;refine aY (iA (aJ (rb (a6 (ag rfl) (ag rfl) SY Ra) aD)) λ_=>fF (λR' r'=>⟨1,na,nb,(R:Int),aD,ag rfl,ag rfl,ag rfl,r'⟩)) (λh=>?_) (λh=>?_)
   . refine bW aD (none_ ?_);rw[<-hc,YX];rintro⟨z1,z2,z3,z4,_⟩;rw[jF] at h;dsimp only at h;rw[Zy z1,Zy z2,Zy z3,Zy z4] at h;cases h
   rw[jF] at h;simp only[Z4,ZO,Y3,Y4] at h;obtain⟨z1,z2,z3,z4⟩:=h;have ea:na=((na.toNat:Nat):Int):=by omega
   have eb:nb=((nb.toNat:Nat):Int):=by omega
   have Xn:gZ H' d2 (.int na) (c_ k2 (Sum.inl na)):=gZ.k (k:=Sum.inl na) e2;have Xo:gZ H' d1 (.int nb) (c_ k1 (Sum.inl nb)):=gZ.k (k:=Sum.inl nb) e1;have Xp:gZ H' d2 (.int nb) (c_ k2 (Sum.inl nb)):=gZ.k (k:=Sum.inl nb) e2;have s1:(c_ k2 (Sum.inl na)).isSome=decide (na.toNat∈ss):=by rw[<-p2,<-ea]
   have s2:(c_ k1 (Sum.inl nb)).isSome=decide (nb.toNat∈fs):=by rw[<-p1,<-eb]
   have s3:(c_ k2 (Sum.inl nb)).isSome=decide (nb.toNat∈ss):=by rw[<-p2,<-eb]
   refine aY (iA (uS (ag rfl) (ag rfl) Xn) λ_=>iA (uS (ag rfl) (ag rfl) Xo) λ_=>uS (ag rfl) (ag rfl) Xp) (λh=>?_) (λh=>?_)
   . refine bW aD (none_ ?_);rw[<-hc,YX];rintro⟨_,_,_,_,y1,y2,y3⟩;rw[s1,s2,s3,ZI y1,ZI y2,ZI y3] at h;cases h
   rw[s1,s2,s3] at h;simp only[Z4,ZC] at h;obtain⟨y1,y2,y3⟩:=h;rw[YY ⟨z1,z2,z3,z4,y1,y2,y3⟩] at hc;have Xq:d1≠d2:=Rg.symm;have UO:=Cq.put (n:=na.toNat) l1 p1;have UP:=Cq.put (n:=nb.toNat) l2 p2;rw[<-ea] at UO;rw[<-eb] at UP;refine⟨_,rfl,_,rfl,d1,_,rfl,.inl ⟨k1,Sum.inl na,e1,rfl,by rw[Zl];omega,rfl⟩,?_⟩;refine⟨_,rfl,_,rfl,d2,_,rfl,.inl ⟨k2,Sum.inl nb,by rw[aq Rg];exact e2,rfl,by rw[Zl];omega,rfl⟩,?_⟩;refine⟨_,_,_,fs++[na.toNat],ss++[nb.toNat],rfl,λb u z=>?_,⟨_,by rw[aq Xq];exact ae,UO⟩,⟨_,ae,UP⟩,by rw[Zg];simp;omega,by rw[Zg];simp;omega,hc⟩;rw[aq (ao z Qs),aq (ao z UN)];exact S1 b u z
 rintro σ H' ⟨v5,v6,v7,fs,ss,rfl,S1,hF1,⟨k2,e2,l2,p2⟩,lf,ls,hc⟩;rw[aaN (by omega)] at hc;have hc:some ss=dw R r [] []:=hc;rw[<-hc] at SW;dsimp only;refine KD (zO ?_);refine zg (i:=1) (j:=((R:Nat):Int)+1) aD (j7 (ag rfl) aD) ⟨by decide,by decide,by omega,by omega⟩ ?_;intro D hD;rw[show (((R:Nat):Int)+1 - 1).toNat=R by omega];refine nv (lo:=1) (n:=R) (λi H2=>au H' H2/\H2 D=some (.lst (nV (((List.range i).map λj=>j+1).filter λn=>!decide (n∈ss))))) ⟨(au.refl H').laid hD,ae⟩ ?_ ?_
 . rintro i H2 hi ⟨m1,m2⟩;refine⟨rfl,?_⟩;have gt:gZ H2 d2 (.int (1+(i:Nat))) (c_ k2 (Sum.inl (1+(i:Nat):Int))):=gZ.k (k:=Sum.inl (1+(i:Nat):Int)) (m1 _ _ e2);have sg:(c_ k2 (Sum.inl (1+(i:Nat):Int))).isSome=decide (i+1∈ss):=by rw[<-p2];congr 3;omega
   refine⟨_,rfl,_,rfl,d2,_,rfl,gt,_,rfl,?_⟩;rw[sg];have fl:((List.range (i+1)).map λj=>j+1).filter (λn=>!decide (n∈ss))=(((List.range i).map λj=>j+1).filter λn=>!decide (n∈ss))++(if (!decide (i+1∈ss))=true then [i+1] else []):=by
    rw[List.range_succ,Zd,aaM];congr 1;by_cases z:i+1∈ss
    . simp[z]
    simp[z]
   refine gS (λh=>?_) (λh=>?_)
   . refine⟨_,rfl,_,m2,?_,λb u z=>?_,?_⟩
     . rw[aL,Zl];have:=abe (λn=>!decide (n∈ss)) ((List.range i).map λj=>j+1);rw[YW,aa7] at this;omega
     . rw[aq (ao z hD)];exact m1 b u z
     rw[ae,fl,YY h];unfold nV;rw[Zd];show some (HO.lst (_++[V.int (1+(i:Nat))]))=some (HO.lst (_++[V.int ((i+1:Nat):Int)]));rw[show (1:Int)+(i:Nat)=((i+1:Nat):Int) by omega]
   refine⟨m1,?_⟩;rw[fl,YX h,ZW];exact m2
 rintro H2 ⟨m1,m2⟩;refine q1 (dM R ss) SW H2 D (S1.trans m1) (S1.free hD) ?_;rw[m2,u_]
end
end Bw
namespace L2
def Bu (hu:X.A.units+1 < cLine):jT X (compareOp .In) (λx y H Q=>∃p xs,x=.cv/\y=.ref p/\aP X.K H p xs/\(∀v∈xs,v=.cv\/∃a ys,v=.ref a/\aP X.K H a ys)/\Q (.bl (xs.any λv=>decide (v=.cv))) H):=by
 intro MG s σ H x y v u Q I rx ry h;obtain⟨p,xs,rfl,rfl,hq,hx,q⟩:=h;cases ry;cases rx;obtain⟨MJ,r,pl,hz⟩:=I.list hq;have key:∀{xs:List V} {us:abF},Vals xs us->(∀v∈xs,v=.cv\/∃a ys,v=.ref a/\aP X.K H a ys)->(∀u∈us,SeqAt.EqAt X.A.in1 s u .none (u==.none))/\us.any (·==.none)=xs.any λv=>decide (v=.cv):=by
  intro xs us r
  induction r with
  |nil=>exact λ_=>⟨λu hu=>by simp at hu,rfl⟩
  |@cons v u xs us r1 r2 ih =>
   intro hx;obtain⟨Xr,Xs⟩:=ih λv hv=>hx v (Zc _ hv);have e1:SeqAt.EqAt X.A.in1 s u .none (u==.none)/\(u==.none)=decide (v=.cv):=by
    rcases hx v (ZG ..) with rfl|⟨a,ys,rfl,hs⟩
    . cases r1;exact⟨SeqAt.EqAt.same _,rfl⟩
    cases r1;obtain⟨M8,_,Pz,_⟩:=I.list hs;refine⟨?_,rfl⟩;exact SeqAt.EqAt.list_none Pz.isList (by show X.A.units+1 < cLine;exact hu)
   refine⟨λu' Sk=>?_,?_⟩
   . rcases Y0.mp Sk with rfl|h
     . exact e1.1
     exact Xr u' h
   rw[aaq,aaq,e1.2,Xs]
 obtain⟨k1,k2⟩:=key r hx;refine SeqAt.in_listAt (·==.none) pl.isList (λw hw=>k1 w (by simpa using hw)) ⟨.bl _,H,I,rfl,?_⟩;rw[show MJ.toArray.any (·==.none)=MJ.any (·==.none) by simp,k2];exact q
end L2
namespace Bw
open L2 Tote
def FQ (K:abB)(H:Hp)(a:Addr)(ls:List (List W)):Prop:=∃as:List Addr,aP K H a (as.map V.ref)/\Paired (λb ws=>aP K H b (sV ws)) as ls
def ES (MI:List (Key×V))(l:List W):Prop:=MI.length<=l.length/\∀n:W,(c_ MI (Sum.inr (st n):Key)).isSome=l.contains n
def ES.put {MI:List (Key×V)}{l:List W}{n:W}(h:ES MI l):ES (putK MI (Sum.inr (st n)) (V.bl true)) (l++[n]):=by
 refine⟨?_,λm=>?_⟩
 . have:=iq MI (Sum.inr (st n):Key) (V.bl true);have:=h.1;rw[Zg];simp;omega
 rw[rX];by_cases e:m=n
 . subst e;rw[YY rfl];simp
 rw[YX (λz=>e (j6.mp (Sum.inr.inj z))),h.2 m];simp[e]
def Ka (K:abB)(C:Addr)(H H':Hp)(pl:Addr)(a:Addr)(p:aK):Prop:=∃dx fa NK,H' a=some (.ins C dx (jM (.str (st p.name)) (.str (st (cd (kindS p.kind)))) (.ref fa) (.int (p.unit:Nat))))/\fa≠pl/\H' fa=some (.lst (NK.map V.ref))/\Paired (iM K H) NK p.fields
section
def u6 (K:abB) (C:Addr):Sp:=λvs H Q _=>∃(a b:Addr) (ls:List (List W)) (rs:abz),vs=[.ref a,.ref b]/\FQ K H a ls/\(∀ws∈ls,nY ws)/\bG K H b rs/\rs.length<=16 /\
 (jk ls rs=none->∀H',au H H'->Q .cv H')/\(∀ps,jk ls rs=some ps->∀H' x,au H H'->da K C H' x ps->Q (.ref x) H')
def j1:aG ["lines","races","pools","names","words","pool"] ["lines","races"] (aw gD):=fs
def By (G:GW mg)(GC:GC P w K mg dS aF)(T:CK K mg "Pool" gY C){k:Nat}(FP:Fn P w K mg MH bB k "read_pool" ["words","races"] (yU K C)){f:Addr}{fd:FuncData}(F:dj K "read_pools" "read_pools" gD f fd) :
  a8 P w K mg MH bB (k+1) f fd ["lines","races"] (u6 K C):=by
 refine F.oT j1 λMK A outer s H vs Q E hr h=>?_;obtain⟨a,b,ls,rs,rfl,⟨as,hA,hP⟩,ok,⟨Xu,Xv,Qu⟩,Qq,q0,q1⟩:=h;have ML:as.length=ls.length:=Paired.length hP;have hu:=wg hr;refine⟨_,af (aO (aB lH (bf G.len (pv 0)) (bc GC.pools) (aI _)) (ak (aA cO)) aC)
  (af (aT 2 j1.nd (bU ah))
  (af (aT 3 j1.nd qj)
  (af (dq ZZ rfl (bJ (pv 0)) (bq 4 j1.nd)
   (af (aT 5 j1.nd (aV FP hr aX (aa (pv 4) (aa (pv 1) ah))))
   (af (aO (PW.pt (fh (aB uU (pv 5) cO (aI _)) (cY (rm (uH hu (aR (pv 5) rfl) (pv 3)))))) (ak (aA cO)) aC)
   (af (mX hu (pv 3) (aR (pv 5) rfl) mN rfl)
   (ak (eJ (qw PySem.F.plainAttrs_list PySem.F.slot_list_append PySem.F.type_list_append i_ (pv 2) (aa (pv 5) ah))))))))
  (ak (aA (pv 2)))))),?_⟩
 refine aY (ju (aU (ag rfl) (.inl hA)) aD) (λh=>?_) (λh=>?_)
 . refine bW aD (q0 ?_ H (au.refl H));rw[YW,ML] at h;unfold jk;rw[YY (by have:=Ze h;omega)]
 rw[YW,ML] at h;have hl:¬64 < ls.length:=by have:=ZE h;omega
 have eP:jk ls rs=b_ rs [] ls:=by unfold jk;rw[YX hl]
 rw[eP] at q0 q1;refine⟨Zo _,λpl MR=>?_⟩;intro dn Q5;have Qv:dn≠pl:=by rintro rfl;rw[ae] at Q5;cases Q5
 have Qw:H dn=none:=by rwa [aq Qv] at Q5
 have S0:au H (upd (upd H pl (.lst [])) dn (.dK [])):=((au.refl H).laid MR).laid Qw;refine⟨_,rfl,a,rfl,⟨_,S0.seq hA⟩,dm (K:=K) (a:=a) (xs:=as.map V.ref) (λi σ H'=>∃(v4 v5:Option V) (acc:List aK) (pas:List Addr) (MI:List (Key×V)),σ=[some (.ref a),some (.ref b),some (.ref pl),some (.ref dn),v4,v5]/\au H H' /\
   H' pl=some (.lst (pas.map V.ref))/\H' dn=some (.dK MI)/\ES MI (acc.map (·.name))/\Paired (Ka K C H H' pl) pas acc/\acc.length<=i/\b_ rs acc (ls.drop i)=b_ rs [] ls)
  ⟨none,none,[],[],[],rfl,S0,by rw[aq Qv.symm];exact ae,ae,⟨Y5 _,λ_=>rfl⟩,.nil,Y5 _,rfl⟩ (λi σ H' _ ⟨_,_,_,_,_,_,S1,_⟩=>S1.seq hA) ?_ ?_⟩
 . rintro i x σ H' hi ⟨v4,v5,acc,pas,MI,rfl,S1,e1,e2,Rh,hI,hlen,hc⟩;rw[Y1] at hi;obtain⟨ai,M7,rfl⟩:=Zu.mp hi;obtain⟨ws,M9,Xw⟩:=Paired.sf hP M7;have MQ:i < ls.length:=(Y9.mp M9).1;have hd:ls.drop i=ws::ls.drop (i+1):=by
    rw[aaf MQ];congr 1;exact Zw ((Y6 MQ).symm.trans M9)
   rw[hd] at hc;have hc:(match fm ws rs with
    |none=>none|some p=>if (acc.map (·.name)).contains p.name=true then none else b_ rs (acc++[p]) (ls.drop (i+1)))=b_ rs [] ls:=hc
   refine⟨_,rfl,_,rfl,ai,b,ws,Xu,rs,rfl,S1.seq Xw,ok ws (Zm M9),S1.seq Xv,ji Qu S1,Qq,λhn H2 e=>?_,λp hp H2 x dx fa NK e nx UQ hx Xx OD=>?_⟩
   . refine⟨_,rfl,rfl,_,rfl,?_⟩;rw[hn] at hc;exact q0 hc.symm H2 (S1.trans e)
   refine⟨_,rfl,rfl,_,rfl,?_⟩;rw[hp] at hc;have hc:(if (acc.map (·.name)).contains p.name=true then none else b_ rs (acc++[p]) (ls.drop (i+1)))=b_ rs [] ls:=hc;have UR:=e _ _ e2;have QT:=e _ _ e1;have S2:=S1.trans e;have gt:gZ H2 dn (.str (st p.name)) (c_ MI (Sum.inr (st p.name))):=gZ.k (k:=Sum.inr (st p.name)) UR;refine (uS (bb (ag rfl) hx T.cl (T.no _ (by simp)) lN) (ag rfl) gt) _ ?_;rw[Rh.2];refine gS (λh=>?_) (λh=>?_)
   . rw[YY h] at hc;exact q0 hc.symm H2 S2
   rw[YX h] at hc;have Qr:x≠pl:=(ao e1 nx).symm;have Xy:x≠dn:=(ao e2 nx).symm;have P7:fa≠pl:=(ao e1 UQ).symm;have Xz:fa≠dn:=(ao e2 UQ).symm;have Qx:pas.length=acc.length:=Paired.length hI;refine⟨_,rfl,?_⟩;refine (bb (ag rfl) hx T.cl (T.no _ (by simp)) lN) _ ⟨dn,_,rfl,.inl ⟨MI,Sum.inr (st p.name),UR,rfl,?_,rfl⟩,?_⟩
   . have:=Rh.1;rw[YW] at this;rw[Zl];omega
   refine⟨_,rfl,.inl ⟨rfl,_,aP.of (by rw[aq Qv.symm];exact QT)⟩,_,rfl,pl,_,_,rfl,rfl,by rw[aq Qv.symm];exact QT,?_,?_⟩
   . rw[YW,Zl];omega
   refine⟨_,_,acc++[p],pas++[x],_,rfl,λc u z=>?_,?_,by rw[aq Qv];exact ae,?_,?_,by rw[Zg];simp;omega,hc⟩
   . rw[aq (ao z MR),aq (ao z Qw)];exact S2 c u z
   . rw[ae,Zd];rfl
   . rw[Zd];exact Rh.put
   have keep:∀c u,H2 c=some u->c≠pl->c≠dn->(upd (upd H2 dn (.dK (putK MI (Sum.inr (st p.name)) (V.bl true)))) pl (.lst (pas.map V.ref++[V.ref x]))) c=some u:=λc u z n1 n2=>by rw[aq n1,aq n2];exact z
   refine Paired.snoc (Paired.eV hI λc q z=>?_) ⟨dx,fa,NK,keep _ _ hx Qr Xy,P7,keep _ _ Xx P7 Xz,?_⟩
   . obtain⟨NI,Ri,O6,z1,z2,z3,z4⟩:=z;have n1:c≠pl:=dQ z1 e1 (by intro q;cases q);have n2:c≠dn:=dQ z1 e2 (by intro q;cases q);have n3:Ri≠dn:=dQ z3 e2 (by intro q;cases q);exact⟨NI,Ri,O6,keep _ _ (e _ _ z1) n1 n2,z2,keep _ _ (e _ _ z3) z2 n3,z4⟩
   exact OD _ Qu
 rintro σ H' ⟨v4,v5,acc,pas,MI,rfl,S1,e1,e2,Rh,hI,hlen,hc⟩;rw[YW,ML,aaN (Y5 _)] at hc;have hc:some acc=b_ rs [] ls:=hc;refine⟨_,rfl,q1 acc hc.symm H' pl S1 ⟨pas,aP.of e1,Paired.eV hI λc q z=>?_⟩⟩;obtain⟨NI,Ri,O6,z1,z2,z3,z4⟩:=z;exact⟨NI,Ri,z1,O6,aP.of z3,ji z4 S1⟩
end
theorem ud (c:Nat):∀(l acc:W),TL.oO [c] 0 acc l=a7 c acc l
 |[],acc=>by rw[TL.pE];rfl
 |x::r,acc=>by
  by_cases h:x=c
  . subst h;rw[TL.zh (by unfold TL.pre;simp)];show acc::TL.oO [x] 0 [] r=(if x=x then acc::a7 x [] r else _);rw[YY rfl,ud x r []]
  rw[TL.wD (TL.wB [] r h)];show TL.oO [c] 0 (acc++[x]) r=(if x=c then _ else a7 c (acc++[x]) r);rw[YX h,ud c r (acc++[x])]
def mx (hc:c < 256)(l:W):Txt.split (st l) (st [c])=(a7 c [] l).map st:=by refine TL.qx ?_;rw[TL.A9 (st l) (st [c]) (by rw[qR];simp) (TL.Ey (by show [c].toArray.all (· < 256)=true;simp[hc])),qR,qR,ud,Zk];symm;exact (ZN λw _=>qR w).trans (List.map_id _)
theorem lj (c:Nat):∀(l w:W),a7 c w l≠[]
 |[],_=>by simp[a7]
 |x::l,w=>by
  unfold a7;split
  . simp
  exact lj c l _
theorem eQ (c:Nat):∀(l acc:W),∀w∈a7 c acc l,w.length<=acc.length+l.length/\∀x∈w,x∈acc\/x∈l
 |[],acc,w,hw=>by
  have:w=acc:=by simpa [a7] using hw
  subst this;exact⟨by simp,λx hx=>.inl hx⟩
 |y::l,acc,w,hw=>by
  unfold a7 at hw;split at hw
  . rcases Y0.mp hw with rfl|hw
    . exact⟨by simp,λx hx=>.inl hx⟩
    obtain⟨h1,h2⟩:=eQ c l [] w hw;refine⟨by simp at h1 ⊢;omega,λx hx=>?_⟩;rcases h2 x hx with h|h
    . simp at h
    exact .inr (Zc _ h)
  obtain⟨h1,h2⟩:=eQ c l (acc++[y]) w hw;refine⟨by simp at h1 ⊢;omega,λx hx=>?_⟩;rcases h2 x hx with h|h
  . rcases ZJ.mp h with h|h
    . exact .inl h
    have:x=y:=by simpa using h
    exact .inr (by simp[this])
  exact .inr (Zc _ h)
theorem fG (c:Nat):∀(l acc:W),(a7 c acc l).length<=l.length+1
 |[],_=>by simp[a7]
 |y::l,acc=>by
  unfold a7;split
  . have:=fG c l [];simp;omega
  have:=fG c l (acc++[y]);simp;omega
def DJ:Str.ofString "\n"=st [10]:=by rw[lB];rfl
def Dr:Str.ofString " "=st [32]:=by rw[lB];rfl
def Ee (l:W):Txt.endswith (st l) (st [10])=decide (l.getLast?=some 10):=by
 unfold Txt.endswith;rw[PySem.StrLaws.subAt_eq,ck,ck];show (decide (0+1<=l.length)&&((l.drop (l.length - 1)).take 1==[10]))=_;rcases List.eq_nil_or_concat l with rfl|⟨r,x,rfl⟩
 . rfl
 rw[List.concat_eq_append,List.getLast?_concat];simp;rw[Zx,ZK,Y4]
def CU (l:W):Bh (st l) none (some (-1))=st l.dropLast:=by unfold Bh;rw[HT.iP];refine Z0 (λz:abA=>(⟨z.toArray⟩:Str)) ?_;show (l.drop 0).take (HT.cq (st l).length (st l).length (some (-1)) - 0)=l.dropLast;rw[ck,List.drop_zero,Nat.sub_zero,List.dropLast_eq_take];congr 1;unfold HT.cq;simp;omega
theorem nq {α:Type}(p:α->Bool):∀(l:List α) (n:Nat),n<=l.length->(∀j x,j < n->l[j]?=some x->p x=true)->(∀x,l[n]?=some x->p x=false)->(l.takeWhile p).length=n/\l.takeWhile p=l.take n/\l.dropWhile p=l.drop n
 |[],n,h,_,_=>by
  have:n=0:=by simpa using h
  subst this;exact⟨rfl,rfl,rfl⟩
 |x::l,0,_,_,h2=>by have:=h2 x rfl;simp[aaZ,abp,this]
 |x::l,n+1,h,h1,h2=>by
  have hx:=h1 0 x (by omega) rfl;obtain⟨a,b,c⟩:=nq p l n (by simpa using h) (λj y hj hy=>h1 (j+1) y (by omega) hy) (λy hy=>h2 y hy);refine⟨?_,?_,?_⟩
  . rw[aaZ,YY hx,Y7,a]
  . rw[aaZ,YY hx,b];rfl
  rw[abp,YY hx,c];rfl
def ke (H:Hp)(D:Addr)(v:V)(ws:List W):Prop:=match bF ws with
 |none=>v=.cv|some hs=>∃x,v=.ref x/\x≠D/\H x=some (.lst (nV hs))
theorem tN {H:Hp}{D:Addr}:∀{vs:List V} {ls:List (List W)},Paired (ke H D) vs ls->¬none∈ls.map bF->∃as:List Addr,vs=as.map V.ref/\Paired (λa hs=>H a=some (.lst (nV hs))) as ((ls.map bF).filterMap id)
 |_,_,.nil,_=>⟨[],rfl,.nil⟩
 |v::vs,ws::ls,.cons r t,h=>by
  obtain⟨as,e,p⟩:=tN t λz=>h (by simp at z ⊢;exact .inr z);unfold ke at r;cases hr:bF ws with
  |none=>exact absurd (by simp[hr]) h|some hs =>rw[hr] at r;obtain⟨x,rfl,_,hx⟩:=r;refine⟨x::as,by rw[e];rfl,?_⟩;rw[Zb,hr];exact .cons hx p
theorem nX {H:Hp}{D:Addr}:∀{vs:List V} {ls:List (List W)},Paired (ke H D) vs ls->(vs.any λv=>decide (v=.cv))=decide (none∈ls.map bF)
 |_,_,.nil=>rfl
 |v::vs,ws::ls,.cons r t=>by
  rw[aaq,nX t];unfold ke at r;cases hr:bF ws with
  |none =>rw[hr] at r;simp[hr,show v=.cv from r]|some hs =>rw[hr] at r;obtain⟨x,rfl,_⟩:=r;simp[hr]
theorem oX {K:abB}{H:Hp}{D:Addr}:∀{vs:List V} {ls:List (List W)},Paired (ke H D) vs ls->∀v∈vs,v=.cv\/∃a ys,v=.ref a/\aP K H a ys
 |_,_,.nil,v,hv=>by simp at hv
 |v::vs,ws::ls,.cons r t,u,hu=>by
  rcases Y0.mp hu with rfl|hu
  . unfold ke at r;cases hr:bF ws with
    |none=>rw[hr] at r;exact .inl r|some hs =>rw[hr] at r;obtain⟨x,rfl,_,hx⟩:=r;exact .inr ⟨x,_,rfl,aP.of hx⟩
  exact oX t u hu
end Bw
namespace L2
def n9 {c:TT}(Pv:St->Hp->Prop)(μ:St->Hp->Nat)(h0:Pv σ H)
  (hb:∀σ H,Pv σ H->∃b,Tv c σ H b/\(b=true->tb {D with nx:=λσ' H'=>Pv σ' H'/\μ σ' H' < μ σ H,ct:=λσ' H'=>Pv σ' H'/\μ σ' H' < μ σ H,bk:=D.nx} σ H)/\(b=false->D.nx σ H)):xJ c tb D σ H:=by
 refine⟨λm σ H=>m=μ σ H/\Pv σ H,⟨_,rfl,h0⟩,?_⟩;rintro m σ H ⟨rfl,p⟩;obtain⟨b,hv,q1,q2⟩:=hb σ H p;refine hv _ ?_;cases b with
 |true=>exact rN ⟨_,λσ' H' ⟨p',l⟩=>⟨_,l,rfl,p'⟩,q1 rfl⟩|false=>exact xg (q2 rfl)
def Ds {c:TT}(Pv En:St->Hp->Prop)(μ:St->Hp->Nat)(h0:Pv σ H)(hb:∀σ H,Pv σ H->∃b,Tv c σ H b/\(b=true->tb {D with nx:=λσ' H'=>Pv σ' H'/\μ σ' H' < μ σ H,ct:=λσ' H'=>Pv σ' H'/\μ σ' H' < μ σ H,bk:=D.nx} σ H)/\(b=false->En σ H))
  (aft:∀σ H,En σ H->D.nx σ H):xJ c tb D σ H:=n9 Pv μ h0 λσ H p=>let ⟨b,v,q1,q2⟩:=hb σ H p;⟨b,v,q1,λe=>aft _ _ (q2 e)⟩
end L2
namespace Bw
open L2 Tote
section
def yc (K:abB) (C:Addr):Sp:=λvs H Q _=>∃(a:Addr) (cs:abA),vs=[.ref a]/\aP K H a (nV cs)/\cs.length<=65536 /\
 (dU (cs.map sg)=none->∀H',au H H'->Q .cv H')/\(∀ps,dU (cs.map sg)=some ps->∀H' x,au H H'->da K C H' x ps->Q (.ref x) H')
def Hg (c:Nat):sg c < 128:=by
 unfold sg;split
 . rename_i h;unfold vw isLet b6 at h;simp at h;omega
 omega
def D8 {t:W}(h:∀c∈t,c < 128)(hl:t.length<=65536):∀ws∈(a7 10 [] t).map (a7 32 []),nY ws/\ws≠[]:=by
 intro ws M9;obtain⟨l,XA,rfl⟩:=Zr.mp M9;obtain⟨h1,h2⟩:=eQ 10 t [] l XA;have h3:=fG 32 l [];refine⟨⟨by simp at h1;omega,λw hw=>?_⟩,lj 32 l []⟩;obtain⟨h4,h5⟩:=eQ 32 l [] w hw;refine⟨by simp at h1 h4;omega,λc hc=>?_⟩;rcases h5 c hc with z|z
 . simp at z
 rcases h2 c z with z|z
 . simp at z
 exact h c z
def iF:aG ["codes","text","lines","behind_races","races","line","words"] ["codes"] (aw iD):=fs
def F6 (G:GW mg)(GC:GC P w K mg dS aF){k:Nat}(FX:Fn P w K mg MH bB k "text_of" ["codes"] (uc K))(FD:Fn P w K mg MH bB k "is_day" ["words"] (D1 K))(FR:Fn P w K mg MH bB k "read_race" ["words"] (yO K))
  (FP:Fn P w K mg MH bB k "read_pools" ["lines","races"] (u6 K C)){f:Addr}{fd:FuncData}(F:dj K "read_card" "read_card" iD f fd):a8 P w K mg MH bB (k+1) f fd ["codes"] (yc K C):=by
 refine F.oT iF λMK A outer s H vs Q E hr h=>?_;obtain⟨a,cs,rfl,hS,OY,q0,q1⟩:=h;have hu:=wg hr;refine⟨_,af (aT 1 iF.nd (aV FX hr aX (aa (pv 0) ah)))
  (af (aO (cH (iL (BR PySem.F.slot_str_endswith PySem.F.type_str_endswith wL (pv 1) bt))) (ak (aA cO)) aC)
  (af (qg (i:=2) rfl iF.nd rfl rfl (va rfl rfl rfl rfl) (bJ (nH (cT Im (pv 1) fQ (di (wX rL ax))) bt)) (bC (own:=[("line",5)]) rfl) (λ_ _ _ _ _=>bq 5 iF.nd) (λ_ _ _ _ _=>cC) (λ_ _ _ _ _=>nH (pv 5) bt))
  (af (aO (cH (iL (aV FD hr aX (aa (bh aM (pv 2) ax (λ_ _=>rfl)) ah)))) (ak (aA cO)) aC)
  (af (aT 3 iF.nd ax)
  (af (qZ ZZ (PW.pt (uO (aB mE (pv 3) (bf G.len (pv 2)) (aI _)) (pA (aB cy (bh aM (bh aM (pv 2) (pv 3) (λ_ _=>rfl)) ax (λ_ _=>rfl)) bt (aI _))))) (ak (uz (i:=3) iF.nd rfl (Or.inl rfl) ax yN)))
  (af (qg (i:=4) rfl iF.nd rfl rfl (va rfl rfl rfl rfl) (bJ (cT fO (pv 2) (di ax) (di (pv 3)))) (bC (own:=[("words",6)]) rfl) (λ_ _ _ _ _=>bq 6 iF.nd) (λ_ _ _ _ _=>cC) (λ_ _ _ _ _=>aV FR hr aX (aa (pv 6) ah)))
  (af (aO (PW.pt (fh (cH (cN cu cu ax (bf G.len (pv 4)) (bc GC.races))) (cY (aB (Bu hu) cO (pv 4) (by with_unfolding_all rfl))))) (ak (aA cO)) aC)
  (ak (aA (aV FP hr aX (aa (cT fO (pv 2) (di (pv 3)) fQ) (aa (pv 4) ah)))))))))))),?_⟩
 refine⟨_,rfl,a,cs,rfl,hS,by omega,λH1 S1=>?_⟩;generalize hT:cs.map sg=T at q0 q1;have lenT:T.length=cs.length:=by rw[<-hT,YW]
 have S9:∀c∈T,c < 128:=λc hc=>by rw[<-hT] at hc;obtain⟨x,_,rfl⟩:=Zr.mp hc;exact Hg x
 have hz:(st T).length<=sizeLine:=by rw[ck,Zl];omega
 refine⟨_,rfl,⟨_,rfl⟩,_,_,rfl,rfl,_,rfl,?_⟩;have eE:Txt.endswith (st T) (Str.ofString "\n")=decide (T.getLast?=some 10):=by rw[DJ];exact Ee T
 rw[eE];refine gS (λh=>?_) (λh=>?_)
 . refine q0 ?_ H1 S1;unfold dU;rw[YX (by simpa using h)]
 have hE:T.getLast?=some 10:=by simpa using h
 generalize PB:a7 10 [] T.dropLast=LL;have eS:Txt.split (Bh (st T) none (some (-1))) (Str.ofString "\n")=LL.map st:=by rw[CU,DJ,mx (by decide),PB]
 have NU:T.dropLast.length<=65536:=by rw[List.length_dropLast];omega
 have lenLL:LL.length<=65537:=by rw[<-PB];have:=fG 10 T.dropLast [];omega
 have XB:∀l∈LL,l.length<=65536:=λl hl=>by rw[<-PB] at hl;have:=(eQ 10 T.dropLast [] l hl).1;simp at this;omega
 have NV:∀ws∈LL.map (a7 32 []),nY ws/\ws≠[]:=by rw[<-PB];exact D8 (λc hc=>S9 c ((List.dropLast_sublist T).subset hc)) NU
 generalize Rj:LL.map (a7 32 [])=LS at NV;have XC:qB T=LS:=by unfold qB;rw[PB,Rj]
 have OI:LS.length=LL.length:=by rw[<-Rj,YW]
 refine⟨_,rfl,_,rfl,_,rfl,_,rfl,hz,⟨_,rfl⟩,_,_,rfl,rfl,by decide +kernel,?_,λp1 Qy=>?_⟩
 . have:=oH (st T) none (some (-1));rw[ck] at this;rw[Zl];omega
 rw[eS];refine⟨p1,rfl,⟨_,aP.of ae⟩,λD hD=>?_⟩;have eM:(LL.map st).map V.str=sV LL:=by unfold sV;rw[Zk];rfl
 have S2:au H1 (upd H1 p1 (.lst ((LL.map st).map V.str))):=(au.refl H1).laid Qy;generalize Rk:upd H1 p1 (.lst ((LL.map st).map V.str))=H2 at hD S2;have O7:aP K H2 p1 (sV LL):=aP.of (by rw[<-Rk,ae,eM]);refine jG (K:=K) (a:=p1) (xs:=sV LL) (λi H'=>∃as:List Addr,au H2 H'/\H' D=some (.lst (as.map V.ref))/\Paired (λb ws=>b≠D/\H' b=some (.lst (sV ws))) as (LS.take i)) ⟨[],(au.refl H2).laid hD,ae,.nil⟩ (λi H' _ ⟨_,S,_⟩=>S.seq O7) ?_ ?_
 . rintro i x H' hi ⟨as,S3,e1,hP⟩;unfold sV at hi;rw[Y1] at hi;obtain⟨l,hl,rfl⟩:=Zu.mp hi;have MQ:i < LL.length:=(Y9.mp hl).1;have ML:as.length=i:=by rw[Paired.length hP,Zh];omega
   have M9:LS[i]?=some (a7 32 [] l):=by rw[<-Rj,Y1,hl];rfl
   refine⟨rfl,_,rfl,⟨_,rfl⟩,_,_,rfl,rfl,by decide +kernel,?_,λp hp=>?_⟩
   . have:=XB l (Zm hl);rw[ck,Zl];omega
   have nD:p≠D:=(ao e1 hp).symm;refine⟨_,by rw[aq nD.symm];exact e1,?_,as++[p],?_,?_,?_⟩
   . rw[YW,ML,Zl];omega
   . intro c u z;rw[aq (ao z hD),aq (ao (S3 c u z) hp)];exact S3 c u z
   . rw[ae,Zd];rfl
   rw[take_snoc M9];refine Paired.snoc (Paired.eV hP λb ws z=>?_) ⟨nD,?_⟩
   . refine⟨z.1,?_⟩;rw[aq z.1,aq (ao z.2 hp)];exact z.2
   rw[aq nD,ae,Dr,mx (by decide)];unfold sV;rw[Zk];rfl
 rintro H3 ⟨as,S3,e1,Py⟩;rw[dW,<-OI,ZR] at Py;have hP:Paired (λb ws=>aP K H3 b (sV ws)) as LS:=Paired.eV Py λb ws z=>aP.of z.2;have hA:aP K H3 D (as.map V.ref):=aP.of e1;have XD:au H H3:=S1.trans (S2.trans S3);have ML:as.length=LS.length:=Paired.length hP;obtain⟨d,ls,NH⟩:∃d ls,LS=d::ls:=by
  cases hq:LS with
  |nil =>rw[<-Rj,abn,<-PB] at hq;exact absurd hq (lj 10 _ _)|cons d ls=>exact⟨d,ls,rfl⟩
 have at_:∀(j:Nat) ws,LS[j]?=some ws->∃b,oN (as.map V.ref) (j:Int)=some (.ref b)/\aP K H3 b (sV ws):=λj ws hj=>by obtain⟨b,hb,hs⟩:=Paired.at2 hP hj;exact⟨b,cz (by rw[Y1,hb];rfl),hs⟩
 have eC:dU T=if iX d=true then fj [] ls else none:=by unfold dU;rw[YY hE,XC,NH]
 obtain⟨b0,PL,S_⟩:=at_ 0 d (by rw[NH];rfl);refine (a6 (ag rfl) aD hA PL) _ ⟨b0,d,rfl,S_,(NV d (by rw[NH];simp)).1,λH4 S4=>⟨_,rfl,?_⟩⟩;have US:=XD.trans S4;refine gS (λh=>?_) (λh=>?_)
 . refine q0 ?_ H4 US;rw[eC,YX (by simpa using h)]
 rw[YY (by simpa using h)] at eC;refine cj aD ?_;have Qz:=S4.seq hA;refine Ds (λσ H'=>∃b:Nat,σ=[some (.ref a),some (.str (st T)),some (.ref D),some (.int (b:Nat)),none,none,none]/\H'=H4/\1<=b/\b<=LS.length/\∀j ws,1<=j->j < b->LS[j]?=some ws->aQ ws=true)
  (λσ H'=>∃b:Nat,σ=[some (.ref a),some (.str (st T)),some (.ref D),some (.int (b:Nat)),none,none,none]/\H'=H4/\1<=b/\b<=LS.length/\(∀j ws,1<=j->j < b->LS[j]?=some ws->aQ ws=true)/\∀ws,LS[b]?=some ws->aQ ws=false)
  (λ(σ:L2.St) (_:Hp)=>match σ[3]? with|some (some (V.int z))=>LS.length - z.toNat|_=>0) ⟨1,rfl,rfl,Y5 _,by rw[NH];simp,λj ws h1 h2=>by omega⟩ ?_ ?_
 . rintro σ H' ⟨b,rfl,rfl,OP,Oi,QA⟩;have QB:∀ws,LS[b]?=some ws->∀ba,aP K H' ba (sV ws)->oN (as.map V.ref) (b:Int)=some (.ref ba)->Ev (j_ K_ (j_ (AF K) (j_ (AF K) (cf 2) (cf 3)) (tC (.int 0))) (tC (.str (Str.ofString "race")))) [some (.ref a),some (.str (st T)),some (.ref D),some (.int (b:Nat)),none,none,none] H' (.bl (aQ ws)):=λws M9 ba NW QC=>by
    have MT:=(NV ws (Zm M9)).2;have:=cx (a6 (a6 (ag (n:=2) (σ:=[some (.ref a),some (.str (st T)),some (.ref D),some (.int (b:Nat)),none,none,none]) rfl) (ag (n:=3) rfl) Qz QC) (aD (v:=.int ((0:Nat):Int))) NW (dP (i:=0) (ZY.mpr MT))) (aD (v:=.str (Str.ofString "race")));rw[jF] at this;have e:decide (ws.getD 0 []=cd "race")=aQ ws:=by
     unfold aQ;cases ws with
     |nil=>exact absurd rfl MT|cons x r =>show decide (x=cd "race")=(x==cd "race");rw[Zx,Y4,ZK]
    rw[e] at this;exact this
   by_cases MN:b < LS.length
   . obtain⟨ws,M9⟩:∃ws,LS[b]?=some ws:=⟨_,Y6 MN⟩;obtain⟨ba,QC,NW⟩:=at_ b ws M9;refine⟨_,pN (ju (ag rfl) (aU (ag rfl) (.inl Qz))) λ_=>aJ (QB ws M9 ba (S4.seq NW) QC),λh=>?_,λh=>?_⟩
     . rw[Y3] at h;refine⟨_,rfl,_,_,rfl,rfl,⟨⟨b+1,rfl,rfl,by omega,by omega,λj QD h1 h2 h3=>?_⟩,?_⟩⟩
       . by_cases e:j=b
         . subst e;rw[M9] at h3;cases h3;exact h.2
         exact QA j QD h1 (by omega) h3
       show LS.length - ((b:Int)+1).toNat < LS.length - ((b:Nat):Int).toNat;omega
     have hf:aQ ws=false:=by
      rw[aag] at h;rcases h with h|h
      . rw[YW,ML] at h;have:=ZE h;omega
      exact h
     exact⟨b,rfl,rfl,OP,Oi,QA,λQD z=>by rw[M9] at z;cases z;exact hf⟩
   refine⟨_,pN (c:=false) (ju (ag rfl) (aU (ag rfl) (.inl Qz))) λh=>?_,λh=>?_,λ_=>?_⟩
   . rw[YW,ML] at h;have:=Ze h;omega
   . rw[Bool.and_false] at h;cases h
   exact⟨b,rfl,rfl,OP,Oi,QA,λQD z=>by rw[ZX (by omega)] at z;cases z⟩
 rintro σ H' ⟨b,rfl,e4,OP,Oi,QA,XE⟩;subst e4;obtain⟨XG,XH,XI⟩:=nq aQ ls (b - 1) (by rw[NH] at Oi;simp at Oi;omega) (λj x hj hx=>QA (j+1) x (by omega) (by omega) (by rw[NH];exact hx)) (λx hx=>XE x (by rw[NH,show b=b - 1+1 by omega];exact hx));have eR:=qK ls [] (by simp);rw[XG,XH,XI] at eR;refine⟨_,rfl,_,rfl,_,rfl,_,rfl,D,as.map V.ref,rfl,Qz,λp2 O7=>⟨p2,rfl,⟨_,aP.of ae⟩,λR hR=>?_⟩⟩;have Ta:fY (as.map V.ref) (some 1) (some (b:Int))=((as.drop 1).take (b - 1)).map V.ref:=by have:=zo (xs:=as.map V.ref) (i:=1) (j:=b) (by rw[YW,ML];exact Oi);rw[List.map_take,abi];exact this
 have S5:au H' (upd H' p2 (.lst (fY (as.map V.ref) (some 1) (some (b:Int))))):=(au.refl H').laid O7;have Rl:aP K (upd H' p2 (.lst (fY (as.map V.ref) (some 1) (some (b:Int))))) p2 (((as.drop 1).take (b - 1)).map V.ref):=aP.of (by rw[ae,Ta]);generalize upd H' p2 (.lst (fY (as.map V.ref) (some 1) (some (b:Int))))=H5 at hR S5 Rl;have Qu:Paired (λb ws=>aP K H3 b (sV ws)) ((as.drop 1).take (b - 1)) (ls.take (b - 1)):=by have:=Paired.tk (b - 1) (Paired.dp 1 hP);rw[NH] at this;exact this
 have Tb:∀ws∈ls.take (b - 1),nY ws/\ws≠[]:=λws z=>NV ws (by rw[NH];exact Zc _ (aaz z));have Tc:((as.drop 1).take (b - 1)).length=(ls.take (b - 1)).length:=Paired.length Qu;refine jG (K:=K) (a:=p2) (xs:=((as.drop 1).take (b - 1)).map V.ref) (λi H6=>∃vs:List V,au H5 H6/\H6 R=some (.lst vs)/\Paired (ke H6 R) vs ((ls.take (b - 1)).take i)) ⟨[],(au.refl H5).laid hR,ae,.nil⟩ (λi H6 _ ⟨_,S,_⟩=>S.seq Rl) ?_ ?_
 . rintro i x H6 hi ⟨vs,S6,e1,hV⟩;rw[Y1] at hi;obtain⟨ba,QC,rfl⟩:=Zu.mp hi;obtain⟨ws,M9,NW⟩:=Paired.sf Qu QC;have MQ:i < (ls.take (b - 1)).length:=(Y9.mp M9).1;have Oj:vs.length=i:=by rw[Paired.length hV,Zh];omega
   have NB:=Tb ws (Zm M9);have lenls:ls.length<=65537:=by have:=OI;rw[NH] at this;simp at this;omega
   have small:vs.length < sizeLine:=by rw[Oj,Zl];have:=List.length_take_le (b - 1) ls;have:=Zh (i:=b - 1) (l:=ls);omega
   have OJ:∀H7,au H6 H7->∀(y:V),Paired (ke (upd H7 R (.lst (vs++[y]))) R) vs ((ls.take (b - 1)).take i):=λH7 e y=>Paired.eV hV λv QD z=>by
    unfold ke at z ⊢;cases hr:bF QD with
    |none=>rw[hr] at z;exact z|some hs =>rw[hr] at z;obtain⟨x,ex,nx,hx⟩:=z;exact⟨x,ex,nx,by rw[aq nx];exact e _ _ hx⟩
   refine⟨rfl,_,rfl,ba,ws,rfl,S6.seq (S5.seq (S4.seq NW)),NB.1,NB.2,λhn H7 e=>?_,λhs hn H7 x e nx hx=>?_⟩
   . refine⟨vs,e _ _ e1,small,vs++[.cv],λc u z=>?_,ae,?_⟩
     . rw[aq (ao z hR)];exact e _ _ (S6 c u z)
     rw[take_snoc M9];refine Paired.snoc (OJ H7 e _) ?_;unfold ke;rw[hn]
   have nR:x≠R:=(ao e1 nx).symm;refine⟨vs,e _ _ e1,small,vs++[.ref x],λc u z=>?_,ae,?_⟩
   . rw[aq (ao z hR)];exact e _ _ (S6 c u z)
   rw[take_snoc M9];refine Paired.snoc (OJ H7 e _) ?_;unfold ke;rw[hn];exact⟨x,rfl,nR,by rw[aq nR];exact hx⟩
 rintro H6 ⟨vs,S6,e1,hV⟩;rw[YW,Tc,ZR] at hV;have Oj:vs.length=b - 1:=by rw[Paired.length hV,Zh];rw[NH] at Oi;simp at Oi;omega
 have Td:au H' H6:=S5.trans S6;have Te:au H H6:=US.trans Td;refine aY (iA (fF (cJ aD (aU (ag rfl) (.inl (aP.of e1))) aD)) λ_=>aJ (λR' r'=>⟨_,rfl,R,vs,rfl,rfl,aP.of e1,oX hV,r'⟩)) (λh=>?_) (λh=>?_)
 . refine bW aD (q0 ?_ H6 Te);rw[eC,eR,YX];rintro⟨z1,z2,z3⟩;rw[Oj,nX hV,ZI z3] at h;simp only[aa3,ZL,aag,ZC] at h;simp only[aas] at z1 z2;omega
 rw[Oj,nX hV] at h;simp only[Z4,ZO,Y3,Y4,ZC] at h;obtain⟨⟨z1,z2⟩,z3⟩:=h;rw[YY ⟨by simp only[aas];omega,by simp only[aas];omega,z3⟩,ZP] at eR;obtain⟨XJ,ev,XM⟩:=tN hV z3;subst ev;have XN:=Td.seq Qz;refine⟨_,rfl,_,rfl,_,rfl,D,as.map V.ref,rfl,XN,λp3 XO=>?_⟩;have S7:au H6 (upd H6 p3 (.lst (fY (as.map V.ref) (some (b:Int)) none))):=(au.refl H6).laid XO;have QE:fY (as.map V.ref) (some (b:Int)) none=(as.drop b).map V.ref:=by unfold fY;rw[HT.jq,HT.iP,YW,ML,aaR Oi,abi];refine ZQ ?_;rw[ZM,YW,ML];exact Y5 _
 refine⟨_,rfl,p3,R,ls.drop (b - 1),((ls.take (b - 1)).map bF).filterMap id,rfl,⟨as.drop b,aP.of (by rw[ae,QE]),?_⟩,?_,⟨XJ,S7.seq (aP.of e1),Paired.eV XM λc hs z=>S7.seq (aP.of z)⟩,?_,?_,?_⟩
 . have:=Paired.dp b hP;rw[show LS.drop b=ls.drop (b - 1) by rw[NH,show b=b - 1+1 by omega];rfl] at this;exact Paired.eV this λc ws z=>S7.seq (Td.seq (S4.seq z))
 . intro ws z;exact (NV ws (by rw[NH];exact Zc _ (aar z))).1
 . have:=List.length_filterMap_le id ((ls.take (b - 1)).map bF);rw[YW,Zh] at this;omega
 . intro hn H8 S8;exact q0 (by rw[eC,eR];exact hn) H8 (Te.trans (S7.trans S8))
 intro ps hs H8 x S8 hx;exact q1 ps (by rw[eC,eR];exact hs) H8 x (Te.trans (S7.trans S8)) hx
end
end Bw
namespace L2
def aN (a:Addr)(H H':Hp):Prop:=∀b o,H b=some o->b≠a->H' b=some o
section
variable {a:Addr}{H H1 H2:Hp}
def aN.refl (a:Addr) (H:Hp):aN a H H:=λ_ _ h _=>h
def aN.trans (x:aN a H H1)(y:aN a H1 H2):aN a H H2:=λb o h n=>y b o (x b o h n) n
def au.x (e:au H H1):aN a H H1:=λb o h _=>e b o h
theorem aN.upd {o:HO}(x:aN a H H1):aN a H (upd H1 a o):=λb u h n=>by rw[aq n];exact x b u h n
def aN.laid {p:Addr}(x:aN a H H1)(h:H p=none):aN a H (L2.upd H1 p o):=λb u q n=>by rw[aq (ao q h)];exact x b u q n
def aN.seq {fs:List (Str×V)}(e:aN a H H1)(ha:H a=some (.ins C dx fs))(h:aP K H b xs):aP K H1 b xs:=by
 rcases h with (h|⟨o,h⟩)|h
 . exact .inl (.inl (e _ _ h (dQ h ha (by intro z;cases z))))
 . exact .inl (.inr ⟨o,e _ _ h (dQ h ha (by intro z;cases z))⟩)
 exact .inr h
def aN.tup {fs:List (Str×V)}(e:aN a H H1)(ha:H a=some (.ins C dx fs))(h:bY K H b xs):bY K H1 b xs:=by
 rcases h with (h|⟨o,h⟩)|h
 . exact .inl (.inl (e _ _ h (dQ h ha (by intro z;cases z))))
 . exact .inl (.inr ⟨o,e _ _ h (dQ h ha (by intro z;cases z))⟩)
 exact .inr h
def aN.free (e:aN a H H1){l:Addr}(h:H1 l=none)(hl:l≠a):H l=none:=by
 cases q:H l with
 |none=>rfl|some o =>rw[e l o q hl] at h;cases h
end
end L2
namespace Bw
open L2 Tote
def qc {x:V}{r:List (Str×V)}:e_ f v ((f,x)::r)=(f,v)::r:=by show (if f=f then (f,v)::r else _)=_;rw[YY rfl]
def Flt (P:Program)(w:World)(K:abB)(mg:abD)(MH:Heap)(C:Addr):Prop :=
 ∃(N fI:Addr) (fd:FuncData),qP K C N fI/\Binds K fd ["self","kind","place"] []/\a8 P w K mg MH bB 1 fI fd ["self","kind","place"] (HJ C)/\mg "Fault"=some (.ref C)
def gd {MO:Pos}{e:Expr}{es:List Expr}{t:TA}(FL:Flt X.prog X.w X.K X.mg X.MH C)(O:nO X)(hr:cU 2 X.A)(ha:PA (X.iT (XF X C E)) (e::es) t)(hg:Gl X "Fault":=by rfl)
  (he:starEach (e::es) X.env=(false,eval e X.env)::starEach es X.env:=by rfl)(MR:(backTo MO (starEach es X.env)).any (·.1)=false:=by rfl):PS (X.iT (XF X C E)) (.Raise (some (.Call (.Name "Fault" np) (e::es) [] MO)) none pos) (L0 C E t):=by
 obtain⟨N,fI,fd,Z,hb,F,hm⟩:=FL;exact DO O Z F hr hb hg hm ha (by decide) he MR
section
def As:aG ["self","kind","place"] ["self","kind","place"] (aw gC):=fs
def AA (Z:qP K C N fI){f:Addr}{fd:FuncData}(F:dj K "__init__" "Fault.__init__" gC f fd):a8 P w K mg MH bB 1 f fd ["self","kind","place"] (HJ C):=by
 refine F.oT As λMK A outer s H vs Q E hr h=>?_;obtain⟨a,t,k,p,rfl,ha,q⟩:=h;refine⟨_,af (zI Z Z.fK Z.Ly Mw (pv 0) (pv 1) rfl) (ak (zI Z Z.fP Z.LK ME (pv 0) (pv 2) rfl)),?_⟩;refine⟨_,rfl,_,rfl,a,t,rfl,.inl ⟨ha,λdx Nq ne=>?_⟩⟩;refine⟨_,rfl,_,rfl,a,t,rfl,.inr ⟨dx,_,ae,by rw[aq ne];exact ae,ne,by show 1 < 1000;decide,?_⟩⟩;have e:e_ "place" (V.int p) [(("kind":Str),V.int k)]=ff k p:=by rw[bg (by decide +kernel),bV];rfl
 rw[e];have e2:upd (upd (upd H dx (sO dx [(("kind":Str),V.int k)])) a (vd a C t (some dx))) dx (sO dx (ff k p))=upd (upd H dx (sO dx (ff k p))) a (vd a C t (some dx)):=by
  funext b;by_cases h1:b=dx
  . subst h1;rw[ae,aq ne,ae]
  rw[aq h1];by_cases h2:b=a
  . subst h2;rw[ae,ae]
  rw[aq h2,aq h2,aq h1,aq h1]
 rw[e2];exact q dx Nq ne
end
def qo (pl n h s t r m:V):List (Str×V):=[("pool",pl),("pool_number",n),("how",h),("stake",s),("sets",t),("rows",r),("many",m)]
abbrev tS:List Str:=["pool","pool_number","how","stake","sets","rows","many"]
def bX (wl m p np e:V):List (Str×V):=[("words",wl),("met",m),("place",p),("next_place",np),("line_end",e)]
abbrev cD:List Str:=["words","met","place","next_place","line_end"]
section
variable {a b c d e v:V}
def je:(bX a b c d e).lookup ("words":Str)=some a:=bK
def jx:(bX a b c d e).lookup ("met":Str)=some b:=by unfold bX;rw[aS (by decide +kernel)];exact bK
def bM:(bX a b c d e).lookup ("place":Str)=some c:=by unfold bX;rw[aS (by decide +kernel),aS (by decide +kernel)];exact bK
def jW:(bX a b c d e).lookup ("next_place":Str)=some d:=by unfold bX;rw[aS (by decide +kernel),aS (by decide +kernel),aS (by decide +kernel)];exact bK
def yr:(bX a b c d e).lookup ("line_end":Str)=some e:=by unfold bX;rw[aS (by decide +kernel),aS (by decide +kernel),aS (by decide +kernel),aS (by decide +kernel)];exact bK
def EX:e_ "met" v (bX a b c d e)=bX a v c d e:=by unfold bX;rw[bg (by decide +kernel),qc]
def AK:e_ "place" v (bX a b c d e)=bX a b v d e:=by unfold bX;rw[bg (by decide +kernel),bg (by decide +kernel),qc]
def BP:e_ "next_place" v (bX a b c d e)=bX a b c v e:=by unfold bX;rw[bg (by decide +kernel),bg (by decide +kernel),bg (by decide +kernel),qc]
end
def aZ (K:abB)(C:Addr)(H:Hp)(a:Addr)(e:Nat)(l:List Word)(pl:Nat):Prop :=
 ∃(dx wl:Addr) (all:List W) (m np:Nat),H a=some (.ins C dx (bX (.ref wl) (.int (m:Nat)) (.int (pl:Nat)) (.int (np:Nat)) (.int (e:Nat))))/\aP K H wl (sV all)/\(nY all/\all≠[])/\m<=all.length/\all.drop m=oz l/\Placed np l
def aZ.same {l:List Word}(h:aZ K C H a e l pl)(s:au H H'):aZ K C H' a e l pl:=by obtain⟨dx,wl,all,m,np,h1,h2,r⟩:=h;exact⟨dx,wl,all,m,np,s _ _ h1,s.seq h2,r⟩
structure GB (K:abB)(mg:abD)(aW:Addr):Prop where
 ended:Gv mg "NOT_ENDED" (.int 1)
 byte:Gv mg "BAD_BYTE" (.int 2)
 word:Gv mg "BAD_WORD" (.int 3)
 num:Gv mg "BAD_NUMBER" (.int 4)
 pool:Gv mg "NO_POOL" (.int 5)
 comb:Gv mg "NO_COMBINATION" (.int 6)
 Lu:Gv mg "TOO_DEAR" (.int 7)
 more:Gv mg "MORE_BYTES" (.int 8)
 nl:Gv mg "LINE_END" (.int 10)
 blank:Gv mg "BLANK" (.int 32)
 stake:Gv mg "MOST_STAKE" (.int 1000000)
 cost:Gv mg "MOST_COST" (.int 2147483647)
 on:Gv mg "ON" (.int 0)
 box:Gv mg "BOX" (.int 1)
 Kf:Gv mg "WAYS" (.ref aW)
 zU:∀H,bY K H aW [.str (Str.ofString "on"),.str (Str.ofString "box"),.str (Str.ofString "key")]
 J_:∃o,K.lookup aW=some o/\o.cls=.type "tuple"/\o.dict=none
 enum:mg "enumerate"=none
 any:mg "any"=none
section
variable {X:Cx}{CX:mU}{k:Nat}{m:Str}{ps:List Str}{sp:Sp}{E:XK}{pos apos:Pos}{o e:Expr}{es:List Expr}{ta:TE}{t:TA}{C:Addr}
def kY {pl:Sem Bool}(F:nW X.prog X.w X.K X.mg X.MH CX k C m ps sp) (c:zd X.K C) (he:PE X o ta) (hr:cU k X.A) (hx:Passes CX X E)
  (ht:eval (.Call (.Attribute o m apos) [] [] pos) X.env=(do
   let ov <-eval o X.env
   standAt apos.atName
   let (f,first) <-holding [ov] (getMethod ov m pl)
   callWith pos f first (backTo pos (starEach [] X.env)) (backToKw pos (keywordEach [] X.env))):=by rfl):PE X (.Call (.Attribute o m apos) [] [] pos) (qp C m sp [] E ta dE):=by
 obtain⟨f,fd,hm,hb,F⟩:=F;exact C2 he c hm F hr hb .nil hx ht
def gc {pl:Sem Bool}(F:nW X.prog X.w X.K X.mg X.MH CX k C m ps sp)(c:zd X.K C)(he:PE X o ta)(hr:cU k X.A)(hx:Passes CX X E)(ha:PA X (e::es) t)
  (Nm:starEach (e::es) X.env=(false,eval e X.env)::starEach es X.env:=by rfl)(MR:(backTo pos (starEach es X.env)).any (·.1)=false:=by rfl)
  (ht:eval (.Call (.Attribute o m apos) (e::es) [] pos) X.env=(do
   let ov <-eval o X.env
   standAt apos.atName
   let (f,first) <-holding [ov] (getMethod ov m pl)
   callWith pos f first (backTo pos (starEach (e::es) X.env)) (backToKw pos (keywordEach [] X.env))):=by rfl):PE X (.Call (.Attribute o m apos) (e::es) [] pos) (qp C m sp [] E ta t):=by
 obtain⟨f,fd,hm,hb,F⟩:=F;exact F7 he c hm F hr hb .nil hx ha Nm MR ht
end
section
def qr (K:abB) (C:Addr):Sp:=λvs H Q _=>∃(x dx:Addr) (l:W),vs=[.ref x,.str (st l)]/\H x=some (.ins C dx [])/\l.length<=70000 /\
 ∀H' wl,aN x H H'->H wl=none->H' wl=some (.lst (sV (a7 32 [] l)))->H' x=some (.ins C dx (bX (.ref wl) (.int ((0:Nat):Int)) (.int ((0:Nat):Int)) (.int ((0:Nat):Int)) (.int (l.length:Nat))))->Q .cv H'
def Ap:aG ["self","line"] ["self","line"] (aw gI):=fs
def A8 (G:GW mg)(T:CK K mg "Words" cD C){f:Addr}{fd:FuncData}(F:dj K "__init__" "Words.__init__" gI f fd):a8 P w K mg MH bB 1 f fd ["self","line"] (qr K C):=by
 refine F.oT Ap λMK A outer s H vs Q E hr h=>?_;obtain⟨x,dx,l,rfl,hx,hl,q⟩:=h;refine⟨_,af (cG (pv 0) (nH (pv 1) bt) rfl) (af (cG (pv 0) ax rfl) (af (cG (pv 0) ax rfl) (af (cG (pv 0) ax rfl) (ak (cG (pv 0) (b7 gq (by rfl) G.len PySem.boot_len (aa (pv 1) ah)) rfl))))),?_⟩;refine⟨_,rfl,⟨_,rfl⟩,_,_,rfl,rfl,by decide +kernel,by rw[ck,Zl];omega,λwl N5=>?_⟩;have nx:wl≠x:=(ao hx N5).symm;rw[Dr,mx (by decide)];refine⟨_,rfl,x,C,dx,[],rfl,by rw[aq nx.symm];exact hx,T.cl,T.no _ (by simp),(by show 0 < 1000;decide),?_⟩;refine⟨_,rfl,x,C,dx,_,rfl,ae,T.cl,T.no _ (by simp),(by show 1 < 1000;decide),?_⟩;refine⟨_,rfl,x,C,dx,_,rfl,ae,T.cl,T.no _ (by simp),(by repeat (first|rw[bV]|rw[bg (by decide +kernel)]);show 2 < 1000;decide),?_⟩;refine⟨_,rfl,x,C,dx,_,rfl,ae,T.cl,T.no _ (by simp),(by repeat (first|rw[bV]|rw[bg (by decide +kernel)]);show 3 < 1000;decide),?_⟩;refine⟨_,rfl,_,rfl,by rw[ck,Zl];omega,_,rfl,x,C,dx,_,rfl,ae,T.cl,T.no _ (by simp),(by repeat (first|rw[bV]|rw[bg (by decide +kernel)]);show 4 < 1000;decide),?_⟩;rw[cQ,cQ,cQ,cQ]
 repeat (first|rw[bV]|rw[bg (by decide +kernel)])
 refine q _ wl (λb u z n=>?_) N5 ?_ ?_
 . rw[aq n,aq (ao z N5)];exact z
 . rw[aq nx,ae];unfold sV;rw[Zk];rfl
 rw[ae,ck];rfl
def oo (K:abB)(CW CF:Addr):Sp:=λvs H Q E=>∃(a:Addr) (e:Nat) (l:List Word) (pl:Nat),vs=[.ref a]/\aZ K CW H a e l pl/\(l=[]->Rz CF E 3 (e:Nat))/\(∀w r,l=w::r->∀H',aN a H H'->aZ K CW H' a e r w.at_->((tx w.w).length<=70000/\∀c∈tx w.w,c < 128)->Q (.str (st (tx w.w))) H')
def zc:aG ["self","word"] ["self"] (aw gG):=fs
def Fc (G:GW mg)(B:GB K mg aW)(T:CK K mg "Words" cD CW)(FL:Flt P w K mg MH CF){f:Addr}{fd:FuncData}(F:dj K "take" "Words.take" gG f fd):a8 P w K mg MH (fq P w CF) 3 f fd ["self"] (oo K CW CF):=by
 refine F.mR zc λMK A outer s H vs Q E hr h=>?_;obtain⟨a,e,l,pl,rfl,⟨dx,wl,all,m,np,ha,hw,ok,hm,hd,hp⟩,q0,q1⟩:=h;refine⟨_,af (aO (aB cy (aR (pv 0) rfl) (bf G.len (aR (pv 0) rfl)) (aI _)) (ak (gd FL aH hr (aa (bc B.word) (aa (aR (pv 0) rfl) ah)))) aC)
  (af (aT 1 zc.nd (bh aM (aR (pv 0) rfl) (aR (pv 0) rfl) (λ_ _=>rfl)))
  (af (t8 (pv 0) ax CD)
  (af (cG (pv 0) (aR (pv 0) rfl) rfl)
  (af (t8 (pv 0) (bD fb (b7 gq (by rfl) G.len PySem.boot_len (aa (pv 1) ah)) ax) CD)
  (ak (aA (pv 1))))))),?_⟩
 have no:=λf (h:f∈cD)=>T.no f h;refine aY (aJ (cx (bb (ag rfl) ha T.cl (no _ (by simp)) jx) (aU (bb (ag rfl) ha T.cl (no _ (by simp)) je) (.inl hw)))) (λh=>?_) (λh=>?_)
 . rw[a_,dW] at h;have OB:m=all.length:=by have:=aam h;omega
   refine (bb (ag rfl) ha T.cl (no _ (by simp)) yr) _ ⟨3,_,rfl,q0 ?_⟩;rw[OB,aaK] at hd;cases l with
   |nil=>rfl|cons w r=>cases hd
 rw[a_,dW] at h;have OB:m < all.length:=by
  have:m≠all.length:=λz=>by rw[z] at h;simp at h
  omega
 cases l with
 |nil =>have:=Z0 List.length hd;rw[ZM] at this;simp[oz] at this;omega
 |cons wd r =>
  have Nf:all[m]?=some (tx wd.w)/\all.drop (m+1)=oz r:=by rw[aaf OB] at hd;have hd:all[m]::all.drop (m+1)=tx wd.w::oz r:=hd;injection hd with h1 h2;exact⟨by rw[Y6 OB,h1],h2⟩
  obtain⟨Qy,O7⟩:=hp;have NB:=ok.1.2 _ (Zm Nf.1);refine cj (a6 (bb (ag rfl) ha T.cl (no _ (by simp)) je) (bb (ag rfl) ha T.cl (no _ (by simp)) jx) hw (cz (Cp Nf.1))) ?_;refine⟨_,rfl,a,CW,dx,_,_,rfl,ha,T.cl,no _ (by simp),jx,_,_,rfl,rfl,dx,_,ha,(by show 5 < 1000;decide),?_⟩;rw[EX];refine⟨_,rfl,a,CW,dx,_,_,rfl,ae,T.cl,no _ (by simp),jW,_,rfl,a,CW,dx,_,rfl,ae,T.cl,no _ (by simp),(by show 5 < 1000;decide),?_⟩;rw[AK,cQ];refine⟨_,rfl,a,CW,dx,_,_,rfl,ae,T.cl,no _ (by simp),jW,?_⟩;refine (j7 (uV (ag rfl) (by rw[ck,Zl];omega)) aD) _ ⟨_,_,rfl,rfl,dx,_,ae,(by show 5 < 1000;decide),?_⟩;rw[BP,cQ];refine⟨_,rfl,?_⟩;refine q1 wd r rfl _ (aN.refl a H).upd ⟨dx,wl,all,m+1,np+(tx wd.w).length+1,?_,(aN.refl a H).upd.seq ha hw,ok,by omega,Nf.2,by rw[iR];exact O7⟩ NB;rw[ae,Qy,ck];have e1:((m:Nat):Int)+1=((m+1:Nat):Int):=by omega
  have e2:((np:Nat):Int)+(((tx wd.w).length:Nat)+1)=((np+(tx wd.w).length+1:Nat):Int):=by omega
  rw[e1,e2]
end
theorem pC {f:Str}:∀{fs:List (Str×V)},¬f∈fs.map (·.1)->fs.lookup f=none
 |[],_=>rfl|(g,v)::r,h=>by rw[aS (λe=>h (by simp[e]))];exact pC λz=>h (by simp at z ⊢;exact .inr z)
def cF {a b c e:V}(h:¬f∈cD):(bX a b c d e).lookup f=none:=pC h
def aZ.obj {l:List Word}(h:aZ K C H a e l pl):∃dx wl m np,H a=some (.ins C dx (bX wl m (.int (pl:Nat)) np (.int (e:Nat)))):=by obtain⟨dx,wl,all,m,np,h1,_⟩:=h;exact⟨dx,_,_,_,h1⟩
section
def ow (kn:List String) (w:Word):Prop:=∃s∈kn,tx w.w=cd s
def pM (K:abB)(CW CF:Addr):Sp:=λvs H Q E=>∃(a t:Addr) (kn:List String) (e:Nat) (l:List Word) (pl:Nat),vs=[.ref a,.ref t]/\aZ K CW H a e l pl/\bY K H t (kn.map λs=>V.str (Str.ofString s))/\(l=[]->Rz CF E 3 (e:Nat)) /\
 (∀w r,l=w::r->¬ow kn w->Rz CF E 3 (w.at_:Nat))/\(∀w r,l=w::r->ow kn w->∀H',aN a H H'->aZ K CW H' a e r w.at_->Q (.str (st (tx w.w))) H')
def De {kn:List String}{w:W}:o4 (.str (st w)) (kn.map λs=>V.str (Str.ofString s))=decide (∃s∈kn,w=cd s):=by
 rw[Zx,Y4];unfold o4;rw[abb,aav];have key:∀s:String,sC (V.str (Str.ofString s)) (V.str (st w))=true↔w=cd s:=λs=>by show (Str.ofString s==st w)=true↔_;rw[ZK,lB,j6];exact⟨λz=>z.symm,λz=>z.symm⟩
 exact⟨λ⟨s,h1,h2⟩=>⟨s,h1,(key s).mp h2⟩,λ⟨s,h1,h2⟩=>⟨s,h1,(key s).mpr h2⟩⟩
def Fq (kn:List String):(kn.map λs=>V.str (Str.ofString s)).all d_=true:=by rw[aaY,Zn];intro _ _;rfl
def BO:aG ["self","known","word"] ["self","known"] (aw cE):=fs
def Il (B:GB K mg aW)(T:CK K mg "Words" cD CW)(FL:Flt P w K mg MH CF){k:Nat}(hk:2<=k)(FT:nW P w K mg MH (fq P w CF) k CW "take" ["self"] (oo K CW CF)){f:Addr}{fd:FuncData}(F:dj K "take_one_of" "Words.take_one_of" cE f fd) :
  a8 P w K mg MH (fq P w CF) (k+1) f fd ["self","known"] (pM K CW CF):=by
 refine F.mR BO λMK A outer s H vs Q E hr h=>?_;obtain⟨a,t,kn,e,l,pl,rfl,hW,hT,q0,q1,q2⟩:=h;refine⟨_,af (aT 2 BO.nd (kY FT T.cl (pv 0) hr (bT aH rfl rfl)))
  (af (aO (aB eZ (pv 2) (pv 1) (by with_unfolding_all rfl)) (ak (gd FL aH (hr.mono hk) (aa (bc B.word) (aa (aR (pv 0) rfl) ah)))) aC)
  (ak (aA (pv 2)))),?_⟩
 obtain⟨dx,wl,m,np,ha⟩:=hW.obj;refine⟨_,rfl,a,dx,_,rfl,ha,cF (by decide +kernel),a,e,l,pl,rfl,hW,q0,λwd r hl H1 S1 M_ NB=>?_⟩;obtain⟨Rm,Tf,m1,Tg,Nh⟩:=M_.obj;refine aY (aJ (ni (ag rfl) (ag rfl) (.inr (S1.tup ha hT)) rfl (Fq kn))) (λh=>?_) (λh=>?_)
 . have h:(!o4 (.str (st (tx wd.w))) (kn.map λs=>V.str (Str.ofString s)))=true:=h;rw[De,ZL,ZC] at h;exact (bb (ag rfl) Nh T.cl (T.no _ (by simp)) bM) _ ⟨3,_,rfl,q1 wd r hl h⟩
 have h:(!o4 (.str (st (tx wd.w))) (kn.map λs=>V.str (Str.ofString s)))=false:=h;rw[De,ZO,Y4] at h;exact⟨_,rfl,q2 wd r hl h H1 S1 M_⟩
def C_ (K:abB)(CW CF:Addr):Sp:=λvs H Q E=>∃(a:Addr) (e:Nat) (l:List Word) (pl:Nat),vs=[.ref a]/\aZ K CW H a e l pl/\(∀w r,l=w::r->Rz CF E 3 (w.at_:Nat))/\(l=[]->Q .cv H)
def IE:aG ["self"] ["self"] (aw eX):=fs
def Hr (G:GW mg)(B:GB K mg aW)(T:CK K mg "Words" cD CW)(FL:Flt P w K mg MH CF){f:Addr}{fd:FuncData}(F:dj K "finish" "Words.finish" eX f fd):a8 P w K mg MH (fq P w CF) 3 f fd ["self"] (C_ K CW CF):=by
 refine F.mR IE λMK A outer s H vs Q E hr h=>?_;obtain⟨a,e,l,pl,rfl,⟨dx,wl,all,m,np,ha,hw,ok,hm,hd,hp⟩,q1,q0⟩:=h;refine⟨_,ak (aO (aB mE (aR (pv 0) rfl) (bf G.len (aR (pv 0) rfl)) (aI _)) (ak (gd FL aH hr (aa (bc B.word) (aa (aR (pv 0) rfl) ah)))) aC),?_⟩;refine aY (ju (bb (ag rfl) ha T.cl (T.no _ (by simp)) jx) (aU (bb (ag rfl) ha T.cl (T.no _ (by simp)) je) (.inl hw))) (λh=>?_) (λh=>?_)
 . rw[dW] at h;have OB:m < all.length:=by have:=Ze h;omega
   cases l with
   |nil =>have:=Z0 List.length hd;rw[ZM] at this;simp[oz] at this;omega|cons wd r =>refine (bb (ag rfl) ha T.cl (T.no _ (by simp)) jW) _ ⟨3,_,rfl,?_⟩;rw[<-hp.1];exact q1 wd r rfl
 rw[dW] at h;have OB:m=all.length:=by have:=ZE h;omega
 refine q0 ?_;rw[OB,aaK] at hd;cases l with
 |nil=>rfl|cons w r=>cases hd
def vy (K:abB)(CW CF:Addr):Sp:=λvs H Q E=>∃(a:Addr) (u:Nat) (e:Nat) (l:List Word) (pl:Nat),vs=[.ref a,.int (u:Nat)]/\1<=u/\aZ K CW H a e l pl/\(l=[]->Rz CF E 3 (e:Nat)) /\
 (∀w r,l=w::r->¬(1<=ay (tx w.w)/\ay (tx w.w)<=1000000/\ay (tx w.w) % (u:Int)=0)->Rz CF E 4 (w.at_:Nat)) /\
 (∀w r,l=w::r->(1<=ay (tx w.w)/\ay (tx w.w)<=1000000/\ay (tx w.w) % (u:Int)=0)->∀H',aN a H H'->aZ K CW H' a e r w.at_->Q (.int (ay (tx w.w))) H')
def vX:aG ["words","unit","stake"] ["words","unit"] (aw gH):=fs
def DX (B:GB K mg aW)(T:CK K mg "Words" cD CW)(FL:Flt P w K mg MH CF){k:Nat}(hk:2<=k)(FT:nW P w K mg MH (fq P w CF) k CW "take" ["self"] (oo K CW CF))(FN:Fn P w K mg MH bB k "number_of" ["word"] lK)
  {f:Addr}{fd:FuncData}(F:dj K "take_stake" "take_stake" gH f fd):a8 P w K mg MH (fq P w CF) (k+1) f fd ["words","unit"] (vy K CW CF):=by
 refine F.mR vX λMK A outer s H vs Q E hr h=>?_;obtain⟨a,u,e,l,pl,rfl,hu1,hW,q0,q1,q2⟩:=h;refine⟨_,af (aT 2 vX.nd (aV FN hr aX (aa (kY FT T.cl (pv 0) hr (bT aH rfl rfl)) ah)))
  (af (aO (PW.pt (fh (cH (cN cu cu ax (pv 2) (bc B.stake))) (cY (aB qm (bD I_ (pv 2) (pv 1)) ax (aI _))))) (ak (gd FL aH (hr.mono hk) (aa (bc B.num) (aa (aR (pv 0) rfl) ah)))) aC)
  (ak (aA (pv 2)))),?_⟩
 obtain⟨dx,wl,m,np,ha⟩:=hW.obj;refine⟨_,rfl,a,dx,_,rfl,ha,cF (by decide +kernel),a,e,l,pl,rfl,hW,q0,λwd r hl H1 S1 M_ NB=>?_⟩;obtain⟨Rm,Tf,m1,Tg,Nh⟩:=M_.obj;refine⟨tx wd.w,rfl,NB.1,NB.2,?_⟩;refine aY (iA (fF (cJ aD (ag rfl) aD)) λ_=>aJ (rb (zt (ag rfl) (ag rfl) (by show (0:Int) < (u:Int);omega)) aD)) (λh=>?_) (λh=>?_)
 . refine (bb (ag rfl) Nh T.cl (T.no _ (by simp)) bM) _ ⟨4,_,rfl,q1 wd r hl λz=>?_⟩;rw[a_] at h;simp[z.1,z.2.1,z.2.2] at h
 rw[a_] at h;simp only[Z4,ZO,Y3,Y4,ZK] at h;exact⟨_,rfl,q2 wd r hl ⟨h.1.1,h.1.2,h.2⟩ H1 S1 M_⟩
end
def aZ.put {p:Addr}{l:List Word}(h:aZ K C H a e l pl)(hp:H p=some (.lst xs))(hn:∀v∈xs,∀s,v≠.str s):aZ K C (upd H p (.lst ys)) a e l pl:=by
 obtain⟨dx,wl,all,m,np,h1,h2,⟨ok,ne⟩,r⟩:=h;have Th:a≠p:=dQ h1 hp (by intro z;cases z);refine⟨dx,wl,all,m,np,by rw[aq Th];exact h1,?_,⟨ok,ne⟩,r⟩;rcases h2 with (h2|⟨o,h2⟩)|h2
 . refine .inl (.inl ?_);rw[aq]
   . exact h2
   rintro rfl;rw[hp] at h2;injection h2 with h2;injection h2 with h2;subst h2;cases all with
   |nil=>exact ne rfl|cons w r=>exact hn _ (ZG ..) _ rfl
 . refine .inl (.inr ⟨o,?_⟩);rw[aq (dQ h2 hp (by intro z;cases z))];exact h2
 exact .inr h2
def IH:∀v∈nV ns,∀s,v≠V.str s:=λv hv s=>by obtain⟨n,_,rfl⟩:=Zr.mp hv;intro z;cases z
def Es:∀v∈as.map V.ref,∀s,v≠V.str s:=λv hv s=>by obtain⟨n,_,rfl⟩:=Zr.mp hv;intro z;cases z
def gF (ns:abA):(nV ns).all d_=true:=by unfold nV;rw[aaY,Zn];intro _ _;rfl
def oF {i:Int}:o4 (.int i) (nV ns)=decide (∃n∈ns,i=(n:Int)):=by
 rw[Zx,Y4];unfold o4 nV;rw[abb,aav];have key:∀n:Nat,sC (V.int (n:Nat)) (V.int i)=true↔i=(n:Int):=λn=>by show (((n:Nat):Int)==i)=true↔_;rw[ZK];exact⟨λz=>z.symm,λz=>z.symm⟩
 exact⟨λ⟨s,h1,h2⟩=>⟨s,h1,(key s).mp h2⟩,λ⟨s,h1,h2⟩=>⟨s,h1,(key s).mpr h2⟩⟩
def GI {x:Nat}(h:ns.getLast?=some x):oN (nV ns) (-1)=some (.int (x:Nat)):=by
 have MT:ns≠[]:=by rintro rfl;cases h
 have hl:0 < ns.length:=ZY.mpr MT;have hx:(nV ns)[ns.length - 1]?=some (.int (x:Nat)):=by unfold nV;rw[Y1,<-List.getLast?_eq_getElem?,h];rfl
 unfold oN EL;rw[YX (by decide),aL,YY (by omega)];show (nV ns)[_]?=_;rw[<-hx];congr 1;omega
def zu {t:TT}{σ:L2.St}{b c:Bool}(h:Tv t σ H b)(e:b=c):Tv t σ H c:=e ▸ h
def AH {pt:W}:(!decide (∃n∈fld,ay pt=(n:Int)))=!decide (Fits fld [] pt):=by congr 1;rw[aaE];exact⟨λ⟨n,h1,h2⟩=>⟨n,h2,h1,λ_ z=>by cases z⟩,λ⟨n,h1,h2,_⟩=>⟨n,h2,h1⟩⟩
def A_ {acc:abA}{pt:W}{x:Nat}(h:acc.getLast?=some x):(!decide (∃n∈fld,ay pt=(n:Int))||(true&&decide (ay pt<=((x:Nat):Int))))=!decide (Fits fld acc pt):=by
 rw[Bool.true_and,Zx];simp only[ZU,ZL,Y4,ZC];constructor
 . rintro (z|z) ⟨n,h1,h2,h3⟩
   . exact z ⟨n,h2,h1⟩
   have:=h3 x h;omega
 intro z;by_cases q:∃n∈fld,ay pt=(n:Int)
 . obtain⟨n,h1,h2⟩:=q;refine .inr ?_;by_cases q2:ay pt<=((x:Nat):Int)
   . exact q2
   exact absurd ⟨n,h2,h1,λy hy=>by rw[h] at hy;injection hy with hy;omega⟩ z
 exact .inl q
def HH:Str.ofString ","=st [44]:=by rw[lB];rfl
section
def wH (K:abB) (CW CF:Addr):Sp:=λvs H Q E=>∃(a f:Addr) (fd:abA) (e:Nat) (l:List Word) (pl:Nat),vs=[.ref a,.ref f]/\aZ K CW H a e l pl/\aP K H f (nV fd)/\(∀x∈fd,x<=24) /\
 (∀t,setIn e fd l=.error t->Rz CF E (t.kind:Nat) (t.place:Nat)) /\
 (∀s p r,setIn e fd l=.ok ((s,p),r)->∀H' x,aN a H H'->H x=none->H' x=some (.lst (nV s))->aZ K CW H' a e r p->Q (.ref x) H')
def vz:aG ["words","field","numbers","part","number"] ["words","field"] (aw jv):=fs
def IQ (G:GW mg)(B:GB K mg aW)(T:CK K mg "Words" cD CW)(FL:Flt P w K mg MH CF){k:Nat}(hk:2<=k)(FT:nW P w K mg MH (fq P w CF) k CW "take" ["self"] (oo K CW CF))(FN:Fn P w K mg MH bB k "number_of" ["word"] lK)
  {f:Addr}{fd:FuncData}(F:dj K "take_set" "take_set" jv f fd):a8 P w K mg MH (fq P w CF) (k+1) f fd ["words","field"] (wH K CW CF):=by
 refine F.mR vz λMK A outer s H vs Q E hr h=>?_;obtain⟨a,fa,fld,e,l,pl,rfl,hW,hF,MY,q0,q1⟩:=h;refine⟨_,af (aT 2 vz.nd (bU ah))
  (af (dq (Ai aH) rfl (bJ (nH (kY FT T.cl (pv 0) hr (bT aH rfl rfl)) bt)) (bq 3 vz.nd)
   (af (aT 4 vz.nd (aV FN hr aX (aa (pv 3) ah)))
   (af (aO (PW.pt (fh (aB eZ (pv 4) (pv 1) (by with_unfolding_all rfl)) (cY (PW.pt (uO (aB lH (bf G.len (pv 2)) ax (aI _)) (pA (aB cu (pv 4) (bh aM (pv 2) (wX rL ax) (λ_ _=>rfl)) (aI _)))))))) (ak (gd FL aH (hr.mono hk) (aa (bc B.num) (aa (aR (pv 0) rfl) ah)))) aC)
   (ak (eJ (qw PySem.F.plainAttrs_list PySem.F.slot_list_append PySem.F.type_list_append i_ (pv 2) (aa (pv 4) ah)))))))
  (ak (aA (pv 2)))),?_⟩
 refine⟨Zo _,λp hp=>?_⟩;have S0:au H (upd H p (.lst [])):=(au.refl H).laid hp;have Rn:=hW.same S0;obtain⟨dx,wl,m,np,ha⟩:=Rn.obj;refine⟨_,rfl,a,dx,_,rfl,ha,cF (by decide +kernel),a,e,l,pl,rfl,Rn,λz=>?_,λwd r hl H1 S1 M_ NB=>?_⟩
 . subst z;exact q0 _ Bq
 subst hl;rw[pU MY] at q0 q1;refine⟨⟨_,rfl⟩,_,_,rfl,rfl,by decide +kernel,by rw[ck,Zl];have:=NB.1;omega,λsl O2=>?_⟩;rw[HH,mx (by decide)];have Th:a≠p:=ao (hW.obj.choose_spec.choose_spec.choose_spec.choose_spec) hp;have e1:H1 p=some (.lst []):=S1 p _ ae Th.symm;have UT:sl≠p:=by rintro rfl;rw[e1] at O2;cases O2
 have QF:aN a H H1:=S0.x.trans S1;have Ti:H sl=none:=QF.free O2 (by rintro rfl;rw[M_.obj.choose_spec.choose_spec.choose_spec.choose_spec] at O2;cases O2)
 have eP:List.map (λx=>V.str x) (List.map st (a7 44 [] (tx wd.w)))=sV (a7 44 [] (tx wd.w)):=by unfold sV;rw[Zk];rfl
 rw[eP];unfold setM at q0 q1;have MR:(a7 44 [] (tx wd.w)).length<=70001:=by have:=fG 44 (tx wd.w) [];have:=NB.1;omega
 have Ro:∀v∈a7 44 [] (tx wd.w),v.length<=70000/\∀c∈v,c < 128:=λv hv=>by
  obtain⟨z1,z2⟩:=eQ 44 (tx wd.w) [] v hv;refine⟨by simp at z1;have:=NB.1;omega,λc hc=>?_⟩;rcases z2 c hc with z|z
  . cases z
  exact NB.2 c z
 generalize a7 44 [] (tx wd.w)=ps at q0 q1 MR Ro;obtain⟨dh,wh,mh,nh,XQ⟩:=hW.obj;refine⟨sl,rfl,⟨_,aP.of ae⟩,dm (K:=K) (a:=sl) (xs:=sV ps) (λi σ H'=>∃(v3 v4:Option V) (acc:abA),σ=[some (.ref a),some (.ref fa),some (.ref p),v3,v4]/\aN a H H'/\aZ K CW H' a e r wd.at_ /\
   H' p=some (.lst (nV acc))/\H' sl=some (.lst (sV ps))/\acc.length<=i/\i<=ps.length/\jP fld (ps.drop i) acc=jP fld ps [])
  ⟨none,none,[],rfl,QF.laid Ti,M_.same ((au.refl H1).laid O2),by rw[aq UT.symm];exact e1,ae,Y5 _,Zo _,rfl⟩ (λi σ H' _ ⟨_,_,_,_,_,_,_,z,_⟩=>aP.of z) ?_ ?_⟩
 . rintro i x σ H' hi ⟨v3,v4,acc,rfl,SX,NC,e2,e3,Rp,MQ,hc⟩;have MQ:i < ps.length:=by
    have:=(Y9.mp hi).1
    rwa [dW] at this
   have hx:x=.str (st ps[i]):=by rw[Cp (Y6 MQ)] at hi;exact (Zw hi).symm
   subst hx;have UU:=Ro ps[i] (aaJ MQ);rw[aaf MQ] at hc;generalize ps[i]=pt at hc UU;have hc:(if Fits fld acc pt then jP fld (ps.drop (i+1)) (acc++[(ay pt).toNat]) else none)=jP fld ps []:=hc;obtain⟨NI,wl',m',np',Sx⟩:=NC.obj;refine cj (gU (wd:=pt) (ag rfl) UU) ?_;have Pq:=SX.seq XQ hF;have fail:¬Fits fld acc pt->Rz CF E 4 (wd.at_:Nat):=λz=>by rw[YX z] at hc;rw[<-hc] at q0;exact q0 _ rfl
   dsimp only;refine aY (b:=!decide (Fits fld acc pt)) ?_ (λh=>?_) (λh=>?_)
   . cases hl:acc.getLast? with
     |none =>
      have:acc=[]:=by simpa using hl
      subst this;refine zu (iA (aJ (ni (ag rfl) (ag rfl) (.inl Pq) rfl (gF fld))) λ_=>pN (c:=false) (ju (aU (ag rfl) (.inl (aP.of e2))) aD) λz=>absurd z (by decide)) ?_;rw[Bool.and_false,aa3,<-AH,<-oF];rfl
     |some y =>
      have MT:0 < acc.length:=by
       cases acc with
       |nil=>cases hl|cons _ _=>exact Nat.succ_pos _
      refine zu (iA (aJ (ni (ag rfl) (ag rfl) (.inl Pq) rfl (gF fld))) λ_=>pN (ju (aU (ag rfl) (.inl (aP.of e2))) aD) λz=>ju (ag rfl) (a6 (ag rfl) (uK aD) (aP.of e2) (GI hl))) ?_;rw[<-A_ hl,<-oF,aL];rw[show decide ((acc.length:Int) > 0)=true from Zy (by omega)];rfl
   . exact (bb (ag rfl) Sx T.cl (T.no _ (by simp)) bM) _ ⟨4,_,rfl,fail (by simpa using h)⟩
   have QG:Fits fld acc pt:=by simpa using h
   rw[YY QG] at hc;obtain⟨n,hn,_⟩:=QG;have en:(ay pt).toNat=n:=by omega
   rw[en] at hc;have eA:nV acc++[V.int (n:Nat)]=nV (acc++[n]):=by unfold nV;rw[Zd];rfl
   rw[hn];refine⟨_,rfl,.inl ⟨rfl,_,aP.of e2⟩,_,rfl,p,_,_,rfl,rfl,e2,by rw[aL,Zl];omega,?_⟩;rw[eA];exact⟨_,_,acc++[n],rfl,SX.laid hp,NC.put e2 IH,ae,by rw[aq UT];exact e3,by rw[Zg];simp;omega,MQ,hc⟩
 rintro σ H' ⟨v3,v4,acc,rfl,SX,NC,e2,e3,Rp,MQ,hc⟩;rw[dW,aaK] at hc;have hc:some acc=jP fld ps []:=hc;rw[<-hc] at q1;exact⟨_,rfl,q1 _ _ _ rfl _ _ SX hp e2 NC⟩
end
def j4 {tp:TE}{σ:L2.St}{k p:Int}(h:Ev tp σ H (.int p))(q:Rz C E k p):L0 C E (cg (tC (.int k)) (cg tp dE)) D σ H:=h _ ⟨k,p,rfl,q⟩
section
def mM {Q:VK}{t:Addr}{l:List Word}{s:String}(hp:plainT s=true) (hW:aZ K CW H a e l pl) (hT:bY K H t [V.str (Str.ofString s)]) (q0:∀x,must e s l=.error x->Rz CF E (x.kind:Nat) (x.place:Nat))
  (q1:∀r,must e s l=.ok r->∀H' v O8,aN a H H'->aZ K CW H' a e r O8->Q v H'):pM K CW CF [.ref a,.ref t] H Q E:=by
 have one:∀wd:Word,ow [s] wd↔wd.w=ascii s:=λwd=>by rw[<-bo _ hp];unfold ow;exact⟨λ⟨x,h1,h2⟩=>by rw[Y_] at h1;subst h1;exact h2,λh=>⟨s,List.mem_singleton_self s,h⟩⟩
 refine⟨a,t,[s],e,l,pl,rfl,hW,hT,λz=>?_,λwd r hl hn=>?_,λwd r hl ho H' S h'=>?_⟩
 . subst z;exact q0 _ CS
 . subst hl;refine q0 ⟨3,wd.at_⟩ ?_;rw[tR,YX (λz=>hn ((one wd).mpr z))]
 subst hl;refine q1 r ?_ H' _ _ S h';rw[tR,YY ((one wd).mp ho)]
def Fw (K:abB)(CW CF:Addr)(a:Addr)(e:Nat)(H:Hp)(Q:VK)(E:XK)(x:Got):Prop:=(∀t,x=.error t->Rz CF E (t.kind:Nat) (t.place:Nat)) /\
 ∀s r,x=.ok (s,r)->∀H' y pl,aN a H H'->lT H' y s->aZ K CW H' a e r pl->Q (.ref y) H'
def BY (K:abB)(CW CF:Addr):Sp:=λvs H Q E=>∃(a f:Addr) (fd:abA) (k e:Nat) (l:List Word) (pl:Nat),vs=[.ref a,.ref f,.int (k:Nat)]/\aZ K CW H a e l pl/\aP K H f (nV fd)/\(∀x∈fd,x<=24)/\Fw K CW CF a e H Q E (xG e k fd l)
def DF:aG ["words","field","size","numbers"] ["words","field","size"] (aw jj):=fs
def Jp (G:GW mg)(B:GB K mg aW)(T:CK K mg "Words" cD CW)(FL:Flt P w K mg MH CF){k:Nat}(hk:2<=k)(FS:Fn P w K mg MH (fq P w CF) k "take_set" ["words","field"] (wH K CW CF))
  {f:Addr}{fd:FuncData}(F:dj K "take_box" "take_box" jj f fd):a8 P w K mg MH (fq P w CF) (k+1) f fd ["words","field","size"] (BY K CW CF):=by
 refine F.mR DF λMK A outer s H vs Q E hr h=>?_;obtain⟨a,fa,fld,sz,e,l,pl,rfl,hW,hF,MY,q0,q1⟩:=h;refine⟨_,af (aT 3 DF.nd (aV FS hr (bT aH rfl rfl) (aa (pv 0) (aa (pv 1) ah))))
  (af (aO (aB mE (bf G.len (pv 3)) (pv 2) (aI _)) (ak (gd FL aH (hr.mono hk) (aa (bc B.num) (aa (aR (pv 0) rfl) ah)))) aC)
  (ak (aA (bU (aa (pv 3) ah))))),?_⟩
 unfold xG at q0 q1;refine⟨_,rfl,_,rfl,a,fa,fld,e,l,pl,rfl,hW,hF,MY,λt ht=>?_,λst p r Nm H1 x S1 hx Nk M_=>?_⟩
 . rw[ht] at q0;exact q0 _ rfl
 rw[Nm] at q0 q1;obtain⟨Rm,Tf,m1,Tg,Nh⟩:=M_.obj;obtain⟨_,_,wd,_,MR,_⟩:=dD MY Nm;refine aY (ju (aU (ag rfl) (.inl (aP.of Nk))) (ag rfl)) (λh=>?_) (λh=>?_)
 . rw[aL] at h;have h:=Ze h;have q0:=q0 ⟨4,p⟩ (by show (if sz<=st.length then _ else _)=_;rw[YX (by omega)]);exact (bb (ag rfl) Nh T.cl (T.no _ (by simp)) bM) _ ⟨4,_,rfl,q0⟩
 rw[aL] at h;have h:=ZE h;have q1:=q1 [st] r (by show (if sz<=st.length then _ else _)=_;rw[YY (by omega)]);refine⟨_,rfl,(by show 1<=sizeLine;decide),λy hy=>q1 _ y p (λb u z n=>?_) ⟨[x],ae,.cons ?_ .nil⟩ (M_.same ((au.refl H1).laid hy))⟩
 . have:=S1 b u z n;rw[aq (ao this hy)];exact this
 rw[aq (ao Nk hy)];exact Nk
def bz.JD {fd:abA}(g:bz fd s)(h:∀x∈fd,x<=24):s.length<=25:=by have:=fM (m:=List.range 25) g.rise.nodup λx hx=>aaG.mpr (by have:=h x (g.sub x hx);omega);simpa using this
def BH (K:abB)(CW CF:Addr):Sp:=λvs H Q E=>∃(a f:Addr) (fd:abA) (k e:Nat) (l:List Word) (pl:Nat),vs=[.ref a,.ref f,.int (k:Nat)]/\aZ K CW H a e l pl/\aP K H f (nV fd)/\(∀x∈fd,x<=24)/\Fw K CW CF a e H Q E (xZ e k fd l)
def q_:aG ["words","field","size","bankers","others","number"] ["words","field","size"] (aw jw):=fs
def Ja (G:GW mg)(B:GB K mg aW)(T:CK K mg "Words" cD CW)(FL:Flt P w K mg MH CF){k:Nat}(hk:2<=k)(FS:Fn P w K mg MH (fq P w CF) k "take_set" ["words","field"] (wH K CW CF))(FO:nW P w K mg MH (fq P w CF) k CW "take_one_of" ["self","known"] (pM K CW CF))
  {f:Addr}{fd:FuncData}(F:dj K "take_key" "take_key" jw f fd):a8 P w K mg MH (fq P w CF) (k+1) f fd ["words","field","size"] (BH K CW CF):=by
 refine F.mR q_ λMK A outer s H vs Q E hr h=>?_;obtain⟨a,fa,fld,sz,e,l,pl,rfl,hW,hF,MY,q0,q1⟩:=h;refine⟨_,af (qF (i:=3) q_.nd rfl (Or.inr rfl) (aV FS hr (bT aH rfl rfl) (aa (pv 0) (aa (pv 1) ah))))
  (af (aO (aB lH (bf G.len (pv 3)) (bD f_ (pv 2) ax) (aI _)) (ak (gd FL aH (hr.mono hk) (aa (bc B.num) (aa (aR (pv 0) rfl) ah)))) aC)
  (af (eJ (gc FO T.cl (pv 0) hr (bT aH rfl rfl) (aa (cn (aa bt ah)) ah)))
  (af (aT 4 q_.nd (aV FS hr (bT aH rfl rfl) (aa (pv 0) (aa (pv 1) ah))))
  (af (aO (PW.pt (fh (iL (b7 (Cf rfl) (by rfl) B.any (by decide +kernel) (aa (fX (te:=j_ (Ie K false) (cf 5) (cf 3)) rfl q_.nd (bJ (pv 4)) (bC (own:=[("number",5)]) rfl) (λ_ _ _ _ _=>bq 5 q_.nd) (λ_ _ _ _ _=>cC)
    (λ_ _ _ _ _=>fL gP (pv 5) (pv 3) (by with_unfolding_all rfl))) ah)))
    (cY (aB mE (bD fb (bf G.len (pv 3)) (bf G.len (pv 4))) (pv 2) (aI _))))) (ak (gd FL aH (hr.mono hk) (aa (bc B.num) (aa (aR (pv 0) rfl) ah)))) aC)
  (ak (aA (bU (aa (pv 3) (aa (pv 4) ah))))))))),?_⟩
 unfold xZ at q0 q1;obtain⟨d0,w0,m0,n0,Nb⟩:=hW.obj;refine⟨_,rfl,_,rfl,a,fa,fld,e,l,pl,rfl,hW,hF,MY,λt ht=>?_,λsa p r UW H1 x S1 hx Nk M_=>?_⟩
 . rw[ht] at q0;exact q0 _ rfl
 rw[UW] at q0 q1;obtain⟨Rm,Tf,m1,Tg,Nh⟩:=M_.obj;obtain⟨ga,_⟩:=dD MY UW;have q0:∀t,tY e sz fld sa p r=.error t->Rz CF E (t.kind:Nat) (t.place:Nat):=q0;have q1:∀s u,tY e sz fld sa p r=.ok (s,u)->_:=q1;unfold tY at q0 q1;have UX:x≠a:=(ao Nb hx).symm;refine aY (ju (aU (ag rfl) (.inl (aP.of Nk))) (rR (ag rfl) aD)) (λh=>?_) (λh=>?_)
 . rw[aL] at h;have h:=Ze h;rw[YX (by omega)] at q0;exact (bb (ag rfl) Nh T.cl (T.no _ (by simp)) bM) _ ⟨4,_,rfl,q0 _ rfl⟩
 rw[aL] at h;have h:=ZE h;rw[YY (by omega)] at q0 q1;refine⟨_,rfl,a,Rm,_,rfl,Nh,cF (by decide +kernel),(by show 1<=sizeLine;decide),λt ht=>?_⟩;have St:au H1 (upd H1 t (.tup [V.str (Str.ofString "with")])):=(au.refl H1).laid ht;show dE _ _ _;unfold dE;dsimp only [ZW];refine mM (s:="with") (by decide +kernel) (M_.same St) (bY.of ae) (λy hy=>?_) (λm hm H2 v Pz S2 OK=>?_)
 . rw[hy] at q0;exact q0 _ rfl
 rw[hm] at q0 q1;have q0:∀t,sX e sz fld sa m=.error t->Rz CF E (t.kind:Nat) (t.place:Nat):=q0;have q1:∀s u,sX e sz fld sa m=.ok (s,u)->_:=q1;unfold sX at q0 q1;have Rq:aN a H H2:=(S1.trans St.x).trans S2;have XR:H2 x=some (.lst (nV sa)):=S2 _ _ (St _ _ Nk) UX;refine⟨_,rfl,_,rfl,a,fa,fld,e,m,Pz,rfl,OK,Rq.seq Nb hF,MY,λt ht=>?_,λsb p2 r2 NW H3 y S3 hy Tj PD=>?_⟩
 . rw[ht] at q0;exact q0 _ rfl
 rw[NW] at q0 q1;have q0:∀t,(if (∀x∈sb,¬x∈sa)/\sz<=sa.length+sb.length then (Except.ok ([sa,sb],r2):Got) else .error ⟨4,p2⟩)=.error t->Rz CF E (t.kind:Nat) (t.place:Nat):=q0;have q1:∀s u,(if (∀x∈sb,¬x∈sa)/\sz<=sa.length+sb.length then (Except.ok ([sa,sb],r2):Got) else .error ⟨4,p2⟩)=.ok (s,u)->_:=q1;obtain⟨gb,_⟩:=dD MY NW;have Rt:H3 x=some (.lst (nV sa)):=S3 _ _ XR UX;have Ru:aN a H H3:=Rq.trans S3;obtain⟨dx3,wl3,m3,np3,XS⟩:=PD.obj;have lb:sb.length<=25:=gb.JD MY;refine⟨_,rfl,y,rfl,⟨_,aP.of Tj⟩,λD hD=>jG (K:=K) (a:=y) (xs:=nV sb) (λi H'=>au H3 H'/\H' D=some (.lst ((sb.take i).map λn=>V.bl (decide (n∈sa))))) ⟨(au.refl H3).laid hD,ae⟩ (λi H' _ h=>aP.of (h.1 _ _ Tj)) ?_ ?_⟩
 . rintro i v H' hi ⟨k1,k2⟩;obtain⟨n,hn,rfl⟩:∃n,sb[i]?=some n/\V.int (n:Nat)=v:=by
    unfold nV at hi;rw[Y1] at hi;exact Zu.mp hi
   refine⟨rfl,?_⟩;refine (ni (neg:=false) (ag rfl) (ag rfl) (.inl (aP.of (k1 _ _ Rt))) rfl (gF sa)) _ ⟨_,k2,?_,?_⟩
   . rw[YW,Zh,Zl];omega
   refine⟨λb u z=>?_,?_⟩
   . rw[aq (ao z hD)];exact k1 b u z
   have e1:o4 (V.int (n:Nat)) (nV sa)=decide (n∈sa):=by
    rw[oF,aaE]
    exact⟨λ⟨m,h1,h2⟩=>by have:n=m:=by omega
                         subst this;exact h1,λh=>⟨n,h,rfl⟩⟩
   rw[ae,take_snoc hn,Zd];show some (HO.lst (_++[V.bl (o4 (V.int (n:Nat)) (nV sa))]))=_;rw[e1];rfl
 rintro H' ⟨k1,k2⟩;have k2:H' D=some (.lst ((sb.take (nV sb).length).map λn=>V.bl (decide (n∈sa)))):=k2;rw[aL,ZR] at k2;refine⟨D,sb.map λn=>decide (n∈sa),rfl,aP.of (by rw[k2,Zk];rfl),_,rfl,?_⟩;have eA:((sb.map λn=>decide (n∈sa)).any id)=!decide (∀x∈sb,¬x∈sa):=by rw[Zx,abb];simp
 rw[eA];have O9:=k1 _ _ Rt;have Tn:=k1 _ _ Tj;have Rv:=k1 _ _ XS;have Rw:=PD.same k1;refine gS (λh=>?_) (λh=>?_)
 . have h:¬∀x∈sb,¬x∈sa:=by simpa using h
   rw[YX (λz=>h z.1)] at q0;refine rN ?_;exact j4 (bb (ag rfl) Rv T.cl (T.no _ (by simp)) bM) (q0 _ rfl)
 have MU:∀x∈sb,¬x∈sa:=by simpa using h
 refine aY (ju (j7 (aU (ag rfl) (.inl (aP.of O9))) (aU (ag rfl) (.inl (aP.of Tn)))) (ag rfl)) (λh=>?_) (λh=>?_)
 . rw[aL,aL] at h;have h:=Ze h;rw[YX (λz=>by have:=z.2;omega)] at q0;exact j4 (bb (ag rfl) Rv T.cl (T.no _ (by simp)) bM) (q0 _ rfl)
 rw[aL,aL] at h;have h:=ZE h;rw[YY ⟨MU,by omega⟩] at q1;refine⟨_,rfl,_,rfl,(by show 2<=sizeLine;decide),λu hu=>q1 _ _ rfl _ u p2 (λb o z n=>?_) ⟨[x,y],ae,.cons ?_ (.cons ?_ .nil)⟩ (Rw.same ((au.refl H').laid hu))⟩
 . have:=k1 b o (Ru b o z n);rw[aq (ao this hu)];exact this
 . rw[aq (ao O9 hu)];exact O9
 rw[aq (ao Tn hu)];exact Tn
end
def Bn {h:abA}{t acc:abz}{l:List Word}:jR e (h::t) acc l=match (if 0 < acc.length then must e "/" l else .ok l) with
  |.error x=>.error x
  |.ok m=>match setIn e h m with
   |.error x=>.error x|.ok s=>jR e t (acc++[s.1.1]) s.2:=rfl
section
def HF (K:abB) (CW CF:Addr):Sp:=λvs H Q E=>∃(a f:Addr) (fs:abz) (e:Nat) (l:List Word) (pl:Nat),vs=[.ref a,.ref f]/\aZ K CW H a e l pl/\bG K H f fs/\fs.length<=24/\(∀fd∈fs,∀x∈fd,x<=24)/\Fw K CW CF a e H Q E (jR e fs [] l)
def DD:aG ["words","fields","sets","field"] ["words","fields"] (aw kM):=fs
def Kl (G:GW mg)(B:GB K mg aW)(T:CK K mg "Words" cD CW)(FL:Flt P w K mg MH CF){k:Nat}(hk:2<=k)(FS:Fn P w K mg MH (fq P w CF) k "take_set" ["words","field"] (wH K CW CF))(FO:nW P w K mg MH (fq P w CF) k CW "take_one_of" ["self","known"] (pM K CW CF))
  {f:Addr}{fd:FuncData}(F:dj K "take_on" "take_on" kM f fd):a8 P w K mg MH (fq P w CF) (k+1) f fd ["words","fields"] (HF K CW CF):=by
 refine F.mR DD λMK A outer s H vs Q E hr h=>?_;obtain⟨a,fa,fs,e,l,pl,rfl,hW,⟨NK,Rx,Ry⟩,OG,MY,q0,q1⟩:=h;refine⟨_,af (aT 2 DD.nd (bU ah))
  (af (dq (Ai aH) rfl (bJ (pv 1)) (bq 3 DD.nd)
   (af (aO (aB lH (bf G.len (pv 2)) ax (aI _)) (ak (eJ (gc FO T.cl (pv 0) hr (bT aH rfl rfl) (aa (cn (aa bt ah)) ah)))) aC)
   (ak (eJ (qw PySem.F.plainAttrs_list PySem.F.slot_list_append PySem.F.type_list_append i_ (pv 2) (aa (aV FS hr (bT aH rfl rfl) (aa (pv 0) (aa (pv 3) ah))) ah))))))
  (ak (aA (pv 2)))),?_⟩
 obtain⟨d0,w0,m0,n0,Nb⟩:=hW.obj;have NT:NK.length=fs.length:=Paired.length Ry;refine⟨Zo _,λp hp=>?_⟩;have S0:au H (upd H p (.lst [])):=(au.refl H).laid hp;have UY:a≠p:=ao Nb hp;refine⟨_,rfl,fa,rfl,⟨_,S0.seq Rx⟩,dm (K:=K) (a:=fa) (xs:=NK.map V.ref) (λi σ H'=>∃(v3:Option V) (acc:abz) (N7:List Addr) (l':List Word) (O8:Nat),σ=[some (.ref a),some (.ref fa),some (.ref p),v3]/\aN a H H'/\aZ K CW H' a e l' O8 /\
   H' p=some (.lst (N7.map V.ref))/\Paired (λb ns=>b≠p/\H' b=some (.lst (nV ns))) N7 acc/\acc.length=i/\i<=fs.length/\jR e (fs.drop i) acc l'=jR e fs [] l)
  ⟨none,[],[],l,pl,rfl,S0.x,hW.same S0,ae,.nil,rfl,Zo _,rfl⟩ (λi σ H' _ ⟨_,_,_,_,_,_,SX,_⟩=>SX.seq Nb Rx) ?_ ?_⟩
 . rintro i x σ H' hi ⟨v3,acc,N7,l',O8,rfl,SX,NC,e2,hP,Rp,MQ,hc⟩;rw[Y1] at hi;obtain⟨fi,XT,rfl⟩:=Zu.mp hi;obtain⟨fl,O_,XU⟩:=Paired.sf Ry XT;have MQ:i < fs.length:=(Y9.mp O_).1;have hd:fs.drop i=fl::fs.drop (i+1):=by
    rw[aaf MQ];congr 1;exact Zw ((Y6 MQ).symm.trans O_)
   rw[hd,Bn] at hc;have XW:=MY fl (Zm O_);obtain⟨d1,w1,m1,n1,Nh⟩:=NC.obj;have Qx:N7.length=acc.length:=Paired.length hP;dsimp only;refine aY (b:=decide (0 < acc.length)) (zu (ju (aU (ag rfl) (.inl (aP.of e2))) aD) ?_) (λh=>?goA) (λh=>?goB)
   . rw[YW,Qx,aaE];omega
   case' goA =>
    have h:=Ze h;rw[YY h] at hc;refine⟨_,rfl,a,d1,_,rfl,Nh,cF (by decide +kernel),(by show 1<=sizeLine;decide),λt ht=>?_⟩;have St:au H' (upd H' t (.tup [V.str (Str.ofString "/")])):=(au.refl H').laid ht;show dE _ _ _;unfold dE;dsimp only [ZW];refine mM (s:="/") (by decide +kernel) (NC.same St) (bY.of ae) (λy hy=>?_) (λm hm H2 v Pz S2 OK=>?_)
    . rw[hy] at hc;exact q0 _ hc.symm
    rw[hm] at hc;have PF:aN a H H2:=(SX.trans St.x).trans S2;have RA:H2 p=some (.lst (N7.map V.ref)):=S2 _ _ (St _ _ e2) UY.symm;have UZ:Paired (λb ns=>b≠p/\H2 b=some (.lst (nV ns))) N7 acc:=Paired.eV hP λb ns z=>⟨z.1,S2 _ _ (St _ _ z.2) (dQ z.2 Nh (by intro q;cases q))⟩;clear e2 hP NC Nh St S2 SX
   case' goB =>have h:=ZE h;rw[YX h] at hc;obtain⟨H2,Rk⟩:∃H2,H2=H':=⟨_,rfl⟩;obtain⟨m,hm⟩:∃m,m=l':=⟨_,rfl⟩;obtain⟨Pz,To⟩:∃m,m=O8:=⟨_,rfl⟩;rw[<-hm] at hc NC;rw[<-To] at NC;rw[<-Rk] at NC e2 hP SX;rw[<-Rk];have OK:=NC;have PF:=SX;have RA:=e2;have UZ:=hP
   all_goals
    dsimp only at hc;obtain⟨d2,w2,m2,n2,QH⟩:=OK.obj;refine⟨_,rfl,.inl ⟨rfl,_,aP.of RA⟩,?_⟩;refine⟨_,rfl,_,rfl,a,fi,fl,e,m,Pz,rfl,OK,PF.seq Nb XU,XW,λt ht=>?_,λst q r Nm H3 x S3 hx Rt PD=>?_⟩
    . rw[ht] at hc;exact q0 _ hc.symm
    rw[Nm] at hc;dsimp only at hc;have Qr:x≠p:=(ao RA hx).symm;have e3:H3 p=some (.lst (N7.map V.ref)):=S3 _ _ RA UY.symm;refine⟨p,_,_,rfl,rfl,e3,by rw[YW,Zl];omega,?_⟩;refine⟨_,acc++[st],N7++[x],r,q,rfl,(PF.trans S3).laid hp,PD.put e3 Es,?_,?_,by simp[Rp],MQ,hc⟩
    . rw[ae,Zd];rfl
    refine Paired.snoc (Paired.eV UZ λb ns z=>⟨z.1,?_⟩) ⟨Qr,by rw[aq Qr];exact Rt⟩;rw[aq z.1];exact S3 _ _ z.2 (dQ z.2 QH (by intro q;cases q))
 rintro σ H' ⟨v3,acc,N7,l',O8,rfl,SX,NC,e2,hP,Rp,MQ,hc⟩;rw[YW,NT,aaK] at hc;exact⟨_,rfl,q1 _ _ hc.symm _ _ O8 SX ⟨N7,e2,Paired.eV hP λb ns z=>z.2⟩ NC⟩
end
section
def EM {fa:Addr}{p:aK}(o:CQ p) (h:bG K H fa p.fields):∃(as:List Addr) (b:Addr),aP K H fa (as.map V.ref)/\as.length=p.fields.length/\oN (as.map V.ref) 0=some (V.ref b)/\aP K H b (nV (p.fields.getD 0 []))/\∀x∈p.fields.getD 0 [],x<=24:=by
 obtain⟨as,h1,h2⟩:=h;have hl:0 < p.fields.length:=ZY.mpr o.ne;obtain⟨b,hb,hI⟩:=Paired.at2 h2 (Y6 hl);have eg:p.fields.getD 0 []=p.fields[0]:=by rw[ZD,Y6 hl];rfl
 refine⟨as,b,h1,Paired.length h2,?_,by rw[eg];exact hI,by rw[eg];exact o.hi _ (aaJ hl)⟩;exact cz (j:=0) (by rw[Y1,hb];rfl)
def yt (K:abB)(CW CF CP:Addr):Sp:=λvs H Q E=>∃(a b:Addr) (p:aK) (how e:Nat) (l:List Word) (pl:Nat),vs=[.ref a,.ref b,.int (how:Nat)]/\aZ K CW H a e l pl/\dA K CP H b p/\CQ p/\Fw K CW CF a e H Q E (fW e p how l)
def zV:aG ["words","pool","how","size"] ["words","pool","how"] (aw iu):=fs
def EY (G:GW mg)(B:GB K mg aW)(TP:CK K mg "Pool" gY CP){k:Nat}(FO:Fn P w K mg MH (fq P w CF) k "take_on" ["words","fields"] (HF K CW CF))(FB:Fn P w K mg MH (fq P w CF) k "take_box" ["words","field","size"] (BY K CW CF))(FK:Fn P w K mg MH (fq P w CF) k "take_key" ["words","field","size"] (BH K CW CF))
  {f:Addr}{fd:FuncData}(F:dj K "take_sets" "take_sets" iu f fd):a8 P w K mg MH (fq P w CF) (k+1) f fd ["words","pool","how"] (yt K CW CF CP):=by
 refine F.mR zV λMK A outer s H vs Q E hr h=>?_;obtain⟨a,b,p,how,e,l,pl,rfl,hW,⟨dx,fa,hb,hF⟩,o,g⟩:=h;refine⟨_,af (aO (aB cy (pv 2) (bc B.on) (aI _)) (ak (aA (aV FO hr (bT aH rfl rfl) (aa (pv 0) (aa (aR (pv 1) rfl) ah))))) aC)
  (af (aT 3 zV.nd (bf G.len (aR (pv 1) rfl)))
  (af (aO (aB cy (pv 2) (bc B.box) (aI _)) (ak (aA (aV FB hr (bT aH rfl rfl) (aa (pv 0) (aa (bh aM (aR (pv 1) rfl) ax (λ_ _=>rfl)) (aa (pv 3) ah)))))) aC)
  (ak (aA (aV FK hr (bT aH rfl rfl) (aa (pv 0) (aa (bh aM (aR (pv 1) rfl) ax (λ_ _=>rfl)) (aa (pv 3) ah)))))))),?_⟩
 unfold fW at g;obtain⟨as,b0,h1,h2,h3,h4,h5⟩:=EM o hF;have RB:∀{σ:L2.St},σ[1]?=some (some (V.ref b))->Ev (sA K (cf 1) "fields") σ H (.ref fa):=λz=>bb (ag z) hb TP.cl (TP.no _ (by simp)) jK;refine aY (aJ (cx (ag rfl) aD)) (λh=>?_) (λh=>?_)
 . rw[a_] at h;have h:how=0:=by have:=aam h;omega
   rw[YY h] at g;refine⟨_,rfl,RB rfl _ ⟨a,fa,p.fields,e,l,pl,rfl,hW,hF,o.len,o.hi,g⟩⟩
 rw[a_] at h;have h:¬how=0:=λz=>by rw[z] at h;cases h
 rw[YX h] at g;refine cj (aU (RB rfl) (.inl h1)) ?_;rw[YW,h2];refine aY (aJ (cx (ag rfl) aD)) (λh=>?_) (λh=>?_)
 . rw[a_] at h;have h:how=1:=by have:=aam h;omega
   rw[YY h] at g;refine⟨_,rfl,(a6 (RB rfl) aD h1 h3) _ ⟨_,rfl,⟨a,b0,_,_,e,l,pl,rfl,hW,h4,h5,g⟩⟩⟩
 rw[a_] at h;have h:¬how=1:=λz=>by rw[z] at h;cases h
 rw[YX h] at g;refine⟨_,rfl,(a6 (RB rfl) aD h1 h3) _ ⟨_,rfl,⟨a,b0,_,_,e,l,pl,rfl,hW,h4,h5,g⟩⟩⟩
end
end Bw
namespace L2
def uM {prog:Program}{u0 u1 u2 uy:Value}{E:abC}{s:Shared}{o:Obj}(ho:s.heap.get? a=some o)(hc:o.cls=.type "tuple")(hd:o.data=.seq #[u0,u1,u2] n)
  {b0 b1 b2:Bool}(e0:SeqAt.EqAt A s u0 uy b0)(e1:SeqAt.EqAt A s u1 uy b1)(e2:SeqAt.EqAt A s u2 uy b2){j:Nat}(hj:(b0=true/\j=0)\/(b0=false/\((b1=true/\j=1)\/(b1=false/\b2=true/\j=2))))
  (q:Q (.int (j:Nat) s.toks) {s with toks:=s.toks+1}):wpAny (model prog w) A (Builtin.«tuple.index» {pos:=[.ref a,uy]}) (λfin s'=>∃v,fin=Fin.done (Flow.ret v)/\Q v s') E s:=by
 show wpAny _ _ (selfAndSome "tuple.index" "index" 1 3 {pos:=[.ref a,uy]} >>= _) _ E s;refine YV (m:=selfAndSome "tuple.index" "index" 1 3 {pos:=[.ref a,uy]}) ?_;have h1:selfAndSome "tuple.index" "index" 1 3 {pos:=[.ref a,uy]}=pure (.ref a,[uy]):=by rfl
 rw[h1];refine Y2 ?_;refine YV (m:=Builtin.Tuple.tupleItemsOf (.ref a)) (tupleItemsOf_ (items:=#[u0,u1,u2]) ⟨_,ho,hc,n,hd⟩ ?_);refine YV (m:=pure 0) (Y2 ?_);refine YV (m:=pure 3) (Y2 ?_);refine YV ?_;rw[Std.Legacy.Range.forIn_eq_forIn_range'];have hr:List.range' [:min 3 #[u0,u1,u2].size].start [:min 3 #[u0,u1,u2].size].size [:min 3 #[u0,u1,u2].size].step=[0,1,2]:=by show List.range' 0 ((min 3 3 - 0+1 - 1) / 1) 1=[0,1,2];decide
 rw[hr];have fin:∀(i:Nat),i=j->∀{R:ForInStep (Option PySem.Fin×Unit)->Shared->Prop},(∀v s',v=Value.int (j:Nat) s.toks->s'={s with toks:=s.toks+1}->R (.done (some (.done (.ret v)),())) s')->wpAny (model prog w) A (do let x <-retInt (i:Nat);pure (ForInStep.done (some x,()))) R E s:=λi hi R hR=>by subst hi;exact YV (YV (wpAny_mkInt (Y2 (Y2 (hR _ _ rfl rfl)))))
 rw[List.forIn_cons];refine YV (YV (e0 _ _ _ _ ?_));rcases hj with ⟨rfl,rfl⟩|⟨rfl,hj⟩
 . exact fin 0 rfl λv s' hv hs=>Y2 (Y2 ⟨v,rfl,by rw[hv,hs];exact q⟩)
 refine Y2 ?_;show wpAny _ _ (forIn [1,2] _ _) _ _ _;rw[List.forIn_cons];refine YV (YV (e1 _ _ _ _ ?_));rcases hj with ⟨rfl,rfl⟩|⟨rfl,rfl,rfl⟩
 . exact fin 1 rfl λv s' hv hs=>Y2 (Y2 ⟨v,rfl,by rw[hv,hs];exact q⟩)
 refine Y2 ?_;show wpAny _ _ (forIn [2] _ _) _ _ _;rw[List.forIn_cons];refine YV (YV (e2 _ _ _ _ ?_));exact fin 2 rfl λv s' hv hs=>Y2 (Y2 ⟨v,rfl,by rw[hv,hs];exact q⟩)
section
variable {X:Cx}
def KA (K:abB):V->List V->Hp->VK->Prop:=λx xs H Q=>∃(a:Addr) (y0 y1 y2 y:V) (j:Nat),x=V.ref a/\xs=[y]/\bY K H a [y0,y1,y2]/\d_ y=true/\[y0,y1,y2].all d_=true /\
 ((sC y0 y=true/\j=0)\/(sC y0 y=false/\((sC y1 y=true/\j=1)\/(sC y1 y=false/\sC y2 y=true/\j=2))))/\Q (.int (j:Nat)) H
def Gj:CY X "tuple.index" (KA X.K):=by
 intro MG s σ H x xs v us Q I rx Sj h;obtain⟨a,y0,y1,y2,y,j,rfl,rfl,hs,fy,OA,hj,q⟩:=h;cases rx;obtain⟨uy,rfl,ry⟩:=Sj.one;obtain⟨MJ,rv,⟨o,ho,hc,n,hd⟩,hz⟩:=I.tuple hs;have XX:=rv;cases rv with
 |cons r0 rv=>cases rv with
  |cons r1 rv=>cases rv with
   |cons r2 rv =>
    cases rv;have key:=λ(A:Around) (u:Value) (hu:u∈_)=>ib (A:=A) (s:=s) ry fy XX OA u hu;have f0:d_ y0=true:=Zn.mp OA _ (by simp);have f1:d_ y1=true:=Zn.mp OA _ (by simp);have f2:d_ y2=true:=Zn.mp OA _ (by simp);rw[<-mj r0 f0,<-mj r1 f1,<-mj r2 f2] at hj;exact aae PySem.F.slot_tuple_index ⟨_,ho,hc⟩ PySem.F.entry_tuple_index
     (uM ho hc hd (key _ _ (by simp)) (key _ _ (by simp)) (key _ _ (by simp)) hj ⟨.int (j:Nat),H,I.tok _,⟨_,rfl⟩,q⟩) (PySem.F.args_tuple_index_2 _ _)
end
end L2
namespace Bw
open L2 Tote
section
def Dk (K:abB) (CW CF CP:Addr):Sp:=λvs H Q E=>∃(a b:Addr) (p:aK) (e:Nat) (l:List Word) (pl:Nat),vs=[.ref a,.ref b]/\aZ K CW H a e l pl/\dA K CP H b p/\(l=[]->Rz CF E 3 (e:Nat)) /\
 (∀w r,l=w::r->jO p w.w=none->Rz CF E 3 (w.at_:Nat))/\(∀w r how,l=w::r->jO p w.w=some how->∀H',aN a H H'->aZ K CW H' a e r w.at_->Q (.int (how:Nat)) H')
def IB:aG ["words","pool"] ["words","pool"] (aw jH):=fs
def B8 {k:Tote.Kind}:o4 (.str (st (cd (kindS k)))) [V.str (Str.ofString "order"),V.str (Str.ofString "any")]=(k==.order||k==.any):=by have:=De (kn:=["order","any"]) (w:=cd (kindS k));rw[show [V.str (Str.ofString "order"),V.str (Str.ofString "any")]=(["order","any"].map λs=>V.str (Str.ofString s)) from rfl,this];cases k <;> decide
def H_ (B:GB K mg aW)(T:CK K mg "Words" cD CW)(TP:CK K mg "Pool" gY CP){k:Nat}(FO:nW P w K mg MH (fq P w CF) k CW "take_one_of" ["self","known"] (pM K CW CF))
  {f:Addr}{fd:FuncData}(F:dj K "take_how" "take_how" jH f fd):a8 P w K mg MH (fq P w CF) (k+1) f fd ["words","pool"] (Dk K CW CF CP):=by
 refine F.mR IB λMK A outer s H vs Q E hr h=>?_;obtain⟨a,b,p,e,l,pl,rfl,hW,⟨dx,fa,hb,hF⟩,q0,q1,q2⟩:=h;refine⟨_,af (aO (aB gP (aR (pv 1) rfl) (cn (aa bt (aa bt ah))) (by with_unfolding_all rfl))
   (ak (aA (qw PySem.F.plainAttrs_tuple PySem.F.slot_tuple_index PySem.F.type_tuple_index Gj (bc B.Kf) (aa (gc FO T.cl (pv 0) hr (bT aH rfl rfl) (aa (bc B.Kf) ah)) ah)))) aC)
  (af (eJ (gc FO T.cl (pv 0) hr (bT aH rfl rfl) (aa (cn (aa bt ah)) ah)))
  (ak (aA (bc B.on)))),?_⟩
 obtain⟨d0,w0,m0,n0,Nb⟩:=hW.obj;refine (bb (ag rfl) hb TP.cl (TP.no _ (by simp)) hX) _ ⟨(by show 2<=sizeLine;decide),λt ht=>⟨t,_,rfl,.inr (bY.of ae),rfl,rfl,?_⟩⟩;have S0:au H (upd H t (.tup [V.str (Str.ofString "order"),V.str (Str.ofString "any")])):=(au.refl H).laid ht;have Rn:=hW.same S0;have Nh:=S0 _ _ Nb;refine⟨_,rfl,?_⟩;show if o4 (.str (st (cd (kindS p.kind)))) [V.str (Str.ofString "order"),V.str (Str.ofString "any")]=true then _ else _;rw[B8];refine gS (λh=>?_) (λh=>?_)
 . have QI:cX p=true:=h;have PH:∀(x:String) (v:W),sC (V.str (Str.ofString x)) (V.str (st v))=decide (v=cd x):=λx v=>by
    show (Str.ofString x==st v)=_;rw[Zx,ZK,Y4,lB,j6];exact⟨λz=>z.symm,λz=>z.symm⟩
   refine⟨.inr (.inl ⟨rfl,B.J_⟩),_,rfl,a,d0,_,rfl,Nh,cF (by decide +kernel),a,aW,["on","box","key"],e,l,pl,rfl,Rn,B.zU _,q0,λwd r hl hn=>?_,λwd r hl ho H' S h'=>?_⟩
   . refine q1 wd r hl ?_;unfold jO;have no:∀x∈["on","box","key"],plainT x=true->¬wd.w=ascii x:=λx hx hp z=>hn ⟨x,hx,(bo _ hp).mpr z⟩;rw[YX (no _ (by simp) (by decide +kernel)),YX (λz=>no _ (by simp) (by decide +kernel) z.1),YX (λz=>no _ (by simp) (by decide +kernel) z.1)]
   have U0:=bo (s:="on") wd.w (by decide +kernel);have QJ:=bo (s:="box") wd.w (by decide +kernel);have Tp:=bo (s:="key") wd.w (by decide +kernel);have S2:aN a H H':=S0.x.trans S;have q2:=λhow hh=>q2 wd r how hl hh H' S2 h';unfold jO at q2;by_cases c0:wd.w=ascii "on"
   . rw[YY c0] at q2;exact⟨aW,_,_,_,_,0,rfl,rfl,B.zU _,rfl,rfl,.inl ⟨by rw[PH];exact Zy (U0.mpr c0),rfl⟩,q2 0 rfl⟩
   rw[YX c0] at q2;have Tq:¬tx wd.w=cd "on":=λz=>c0 (U0.mp z);by_cases c1:wd.w=ascii "box"
   . rw[YY ⟨c1,QI⟩] at q2;exact⟨aW,_,_,_,_,1,rfl,rfl,B.zU _,rfl,rfl,.inr ⟨by rw[PH];exact ZI Tq,.inl ⟨by rw[PH];exact Zy (QJ.mpr c1),rfl⟩⟩,q2 1 rfl⟩
   rw[YX (λz=>c1 z.1)] at q2;have U1:¬tx wd.w=cd "box":=λz=>c1 (QJ.mp z);have Pf:tx wd.w=cd "key":=by
    obtain⟨x,hx,hw⟩:=ho;simp only[Y0,aaF,or_false] at hx;rcases hx with rfl|rfl|rfl
    . exact absurd hw Tq
    . exact absurd hw U1
    exact hw
   rw[YY ⟨Tp.mp Pf,QI⟩] at q2;exact⟨aW,_,_,_,_,2,rfl,rfl,B.zU _,rfl,rfl,.inr ⟨by rw[PH];exact ZI Tq,.inr ⟨by rw[PH];exact ZI U1,by rw[PH];exact Zy Pf,rfl⟩⟩,q2 2 rfl⟩
 have QI:cX p=false:=by unfold cX;simpa using h
 refine⟨_,rfl,a,d0,_,rfl,Nh,cF (by decide +kernel),(by show 1<=sizeLine;decide),λt2 XY=>?_⟩;have St:au H (upd (upd H t (.tup [V.str (Str.ofString "order"),V.str (Str.ofString "any")])) t2 (.tup [V.str (Str.ofString "on")])):=S0.trans ((au.refl _).laid XY);show dE _ _ _;unfold dE;dsimp only [ZW];have one:∀wd:Word,ow ["on"] wd↔wd.w=ascii "on":=λwd=>by rw[<-bo _ (by decide +kernel)];unfold ow;exact⟨λ⟨x,h1,h2⟩=>by rw[Y_] at h1;subst h1;exact h2,λh=>⟨_,List.mem_singleton_self _,h⟩⟩
 refine⟨a,t2,["on"],e,l,pl,rfl,hW.same St,bY.of ae,q0,λwd r hl hn=>?_,λwd r hl ho H' S h'=>?_⟩
 . refine q1 wd r hl ?_;unfold jO;rw[YX (λz=>hn ((one wd).mpr z)),YX (λz=>by rw[QI] at z;cases z.2),YX (λz=>by rw[QI] at z;cases z.2)]
 refine q2 wd r 0 hl ?_ H' (St.x.trans S) h';unfold jO;rw[YY ((one wd).mp ho)]
end
end Bw
namespace L2
def wc {σ:L2.St}(Pv:Nat->L2.St->Hp->Prop)(h0:Pv 0 σ H)(hl:∀i σ H,i<=xs.length->Pv i σ H->aP K H a xs)
  (hs:∀i x σ H T,xs[i]?=some x->Pv i σ H->H T=none->g (.ref T) σ (upd H T (.tup [.int (i:Nat),x])) λσ2 H2=>tb {D with nx:=Pv (i+1),ct:=Pv (i+1),bk:=D.nx} σ2 H2)(hd:∀σ H,Pv xs.length σ H->D.nx σ H) :
  ∃W:Nat->Nat->L2.St->Hp->Prop,(∃m,W 0 m σ H)/\∀i m σ H,W i m σ H ->
   ((G8 K a).stop i H/\D.nx σ H)\/((G8 K a).go i H/\∃N:L2.St->Hp->Prop,(∀σ' H',N σ' H'->∃m',m' < m/\W (i+1) m' σ' H')/\∀x H',(G8 K a).xn i H x H'->g x σ H' λσ2 H2=>tb {D with nx:=N,ct:=N,bk:=D.nx} σ2 H2):=by
 refine⟨λi m σ H=>m=xs.length - i/\i<=xs.length/\Pv i σ H,⟨xs.length,by simp,Zo _,h0⟩,?_⟩;rintro i m σ H ⟨rfl,hi,p⟩;have q:=hl i σ H hi p;by_cases MN:i < xs.length
 . refine .inr ⟨⟨xs,xs[i],q,by simp[MN]⟩,Pv (i+1),λσ' H' p'=>⟨xs.length - (i+1),by omega,rfl,MN,p'⟩,λx H' y=>?_⟩;obtain⟨T,v,rfl,hT,rfl,hx⟩:=y;exact hs i v σ _ T (hx xs q) p hT
 have e:i=xs.length:=by omega
 subst e;exact .inl ⟨⟨xs,q,Y5 _⟩,hd σ H p⟩
end L2
namespace Bw
open L2 Tote
section
variable {K:abB}{CW CP:Addr}{H H':Hp}{a b:Addr}
def aN.lists {fs:List (Str×V)}(S:aN a H H') (ha:H a=some (.ins CW dx fs)) (h:bG K H b rs):bG K H' b rs:=by obtain⟨as,h1,h2⟩:=h;exact⟨as,S.seq ha h1,Paired.eV h2 λ_ _ z=>S.seq ha z⟩
def DZ {C' NI:Addr}{fs Nc:List (Str×V)}(h:fs.length≠Nc.length):HO.ins C dx fs≠HO.ins C' NI Nc:=by intro z;injection z with _ _ z;exact h (by rw[z])
def dA.jY {v0 v1 v2 v3 v4:V}{p:aK}(h:dA K CP H b p)(S:aN a H H')(ha:H a=some (.ins CW dx (bX v0 v1 v2 v3 v4))):dA K CP H' b p:=by obtain⟨d,fa,h1,h2⟩:=h;exact⟨d,fa,S _ _ h1 (dQ h1 ha (DZ (by show 4≠5;decide))),aN.lists S ha h2⟩
theorem da.jY {dx:Addr}{v0 v1 v2 v3 v4:V}{ps:List aK}(h:da K CP H b ps)(S:aN a H H')(ha:H a=some (.ins CW dx (bX v0 v1 v2 v3 v4))):da K CP H' b ps:=by obtain⟨as,h1,h2⟩:=h;exact⟨as,S.seq ha h1,Paired.eV h2 λ_ _ z=>dA.jY z S ha⟩
end
section
def vB (K:abB) (CW CF CP:Addr):Sp:=λvs H Q E=>∃(a b:Addr) (ps:List aK) (e:Nat) (l:List Word) (pl:Nat),vs=[.ref b,.ref a]/\aZ K CW H a e l pl/\da K CP H b ps/\(l=[]->Rz CF E 3 (e:Nat)) /\
 (∀w r,l=w::r->ej ps (tx w.w)=none->Rz CF E 5 (w.at_:Nat))/\(∀w r i,l=w::r->ej ps (tx w.w)=some i->∀H',aN a H H'->aZ K CW H' a e r w.at_->Q (.int (i:Nat)) H')
def mS:aG ["pools","words","name","number","pool"] ["pools","words"] (aw iz):=fs
def DB (B:GB K mg aW)(T:CK K mg "Words" cD CW)(TP:CK K mg "Pool" gY CP)(FL:Flt P w K mg MH CF){k:Nat}(hk:2<=k)(FT:nW P w K mg MH (fq P w CF) k CW "take" ["self"] (oo K CW CF))
  {f:Addr}{fd:FuncData}(F:dj K "take_pool" "take_pool" iz f fd):a8 P w K mg MH (fq P w CF) (k+1) f fd ["pools","words"] (vB K CW CF CP):=by
 refine F.mR mS λMK A outer s H vs Q E hr h=>?_;obtain⟨a,b,ps,e,l,pl,rfl,hW,NL,q0,q1,q2⟩:=h;refine⟨_,af (aT 2 mS.nd (kY FT T.cl (pv 1) hr (bT aH rfl rfl)))
  (af (dq (Ai aH) rfl (uB rfl B.enum (aa (pv 0) ah)) (lR rfl (cp (bq 3 mS.nd) (cp (bq 4 mS.nd) jl)))
   (ak (aO (aB cy (aR (pv 4) rfl) (pv 2) (aI _)) (ak (aA (pv 3))) aC)))
  (ak (gd FL aH (hr.mono hk) (aa (bc B.pool) (aa (aR (pv 1) rfl) ah))))),?_⟩
 obtain⟨d0,w0,m0,n0,Nb⟩:=hW.obj;refine⟨_,rfl,a,d0,_,rfl,Nb,cF (by decide +kernel),a,e,l,pl,rfl,hW,q0,λwd r hl H1 S1 M_ NB=>?_⟩;have Tr:=da.jY NL S1 Nb;obtain⟨as,hA,hP⟩:=Tr;have q1:=q1 wd r hl;have q2:=λi=>q2 wd r i hl;generalize tx wd.w=nm at q1 q2;refine⟨_,rfl,b,_,rfl,hA,wc (K:=K) (a:=b) (xs:=as.map V.ref) (λi σ H'=>∃(v3 v4:Option V),σ=[some (.ref b),some (.ref a),some (.str (st nm)),v3,v4]/\au H1 H'/\∀j p,j < i->ps[j]?=some p->¬p.name=nm)
  ⟨none,none,rfl,au.refl H1,λj p hj=>absurd hj (Nat.not_lt_zero j)⟩ (λi σ H' _ ⟨_,_,_,S,_⟩=>S.seq hA) ?_ ?_⟩
 . rintro i x σ H' tt hi ⟨v3,v4,rfl,S2,N4⟩ hT;rw[Y1] at hi;obtain⟨ai,M7,rfl⟩:=Zu.mp hi;obtain⟨p,hp,d,fa,N8,_⟩:=Paired.sf hP M7;have S3:au H1 (upd H' tt (.tup [.int (i:Nat),.ref ai])):=S2.trans ((au.refl H').laid hT);refine⟨tt,_,rfl,bY.of ae,rfl,_,_,rfl,_,_,rfl,rfl,?_⟩;refine aY (aJ (cx (bb (ag rfl) (S3 _ _ N8) TP.cl (TP.no _ (by simp)) lN) (ag rfl))) (λh=>?_) (λh=>?_)
   . have h:p.name=nm:=by
      have:=Ze h;injection this with this;exact j6.mp this
     refine⟨_,rfl,q2 i ?_ _ (S1.trans S3.x) (M_.same S3)⟩;unfold ej;rw[aa5];obtain⟨MQ,XZ⟩:=Y9.mp hp;refine⟨MQ,by rw[XZ,h];exact beq_self_eq_true _,λj hj=>?_⟩;have:=N4 j _ hj (Y6 (by omega));simpa using this
   have h:¬p.name=nm:=λz=>by have:=ZE h;exact this (by rw[z])
   refine⟨_,_,rfl,S3,λj p' hj QK=>?_⟩;by_cases X0:j=i
   . subst X0;rw[hp] at QK;injection QK with QK;subst QK;exact h
   exact N4 j p' (by omega) QK
 rintro σ H' ⟨v3,v4,rfl,S2,N4⟩;obtain⟨d1,w1,m1,n1,Nh⟩:=M_.obj;dsimp only;refine j4 (bb (ag rfl) (S2 _ _ Nh) T.cl (T.no _ (by simp)) bM) (q1 ?_);unfold ej;rw[List.findIdx?_eq_none_iff];intro p hp;obtain⟨j,hj⟩:=List.mem_iff_getElem?.mp hp;have Po:=(Y9.mp hj).1;have:=N4 j p (by rw[YW,Paired.length hP];exact Po) hj;simpa using this
end
def pV:Bool->Nat->abA->Option Nat
 |_,_,[]=>none|gap,p,c::r=>if ¬(32<=c/\c<=126) then some p else if c=32/\(gap=true\/r=[]) then some p else pV (c==32) (p+1) r
def v8 (cs:abA):Option Nat:=if cs=[] then some 0 else pV true 0 cs
theorem vf:∀(l:Bytes) (gap:Bool) (p:Nat),gap=false\/l≠[]->badByte gap p l=pV gap p (l.map UInt8.toNat)
 |[],gap,p,h=>by
  have:gap=false:=by simpa using h
  subst this;rfl
 |c::r,gap,p,_=>by
  have U2:c=32↔c.toNat=32:=⟨λz=>by rw[z];rfl,λz=>jV z⟩;have elt:(c < 32\/126 < c)↔¬(32<=c.toNat/\c.toNat<=126):=by rw[UInt8.lt_iff_toNat_lt,UInt8.lt_iff_toNat_lt];show c.toNat < 32\/126 < c.toNat↔_;omega
  show (if c < 32\/126 < c then some p else if c=32 then (if gap=true then some p else if r.isEmpty=true then some p else badByte true (p+1) r) else badByte false (p+1) r) =
   if ¬(32<=c.toNat/\c.toNat<=126) then some p else if c.toNat=32/\(gap=true\/r.map UInt8.toNat=[]) then some p else pV (c.toNat==32) (p+1) (r.map UInt8.toNat)
  by_cases h1:c < 32\/126 < c
  . rw[YY h1,YY (elt.mp h1)]
  rw[YX h1,YX (λz=>h1 (elt.mpr z))];by_cases h2:c=32
  . have RC:=U2.mp h2;rw[YY h2,RC];by_cases h3:gap=true
    . rw[YY h3,YY ⟨rfl,.inl h3⟩]
    rw[YX h3];cases r with
    |nil=>rw[YY (show ([]:Bytes).isEmpty=true from rfl),YY ⟨rfl,.inr rfl⟩]|cons d r =>rw[YX (by simp),YX (by rintro⟨_,z|z⟩;exact h3 z;cases z)];exact vf (d::r) true (p+1) (.inr (by simp))
  have RC:¬c.toNat=32:=λz=>h2 (U2.mpr z);rw[YX h2,YX (λz=>RC z.1)];have:(c.toNat==32)=false:=by simpa using RC
  rw[this];exact vf r false (p+1) (.inl rfl)
def Eh (l:Bytes):badByte true 0 l=v8 (l.map UInt8.toNat):=by
 unfold v8;cases l with
 |nil=>rfl|cons c r =>rw[YX (by simp)];exact vf (c::r) true 0 (.inr (by simp))
def Kr (h:i < ns.length):oN (nV ns) ((i:Nat):Int)=some (.int (ns[i]:Nat)):=cz (by unfold nV;rw[Y1,Y6 h];rfl)
section
def y9 (K:abB) (CF:Addr):Sp:=λvs H Q E=>∃(a:Addr) (cs:abA),vs=[.ref a]/\aP K H a (nV cs)/\(∀i,v8 cs=some i->Rz CF E 2 (i:Nat))/\(v8 cs=none->∀H',au H H'->Q .cv H')
def ui:aG ["line","place","code"] ["line"] (aw gy):=fs
def Gm (G:GW mg)(B:GB K mg aW)(FL:Flt P w K mg MH CF)
  {f:Addr}{fd:FuncData}(F:dj K "check_line" "check_line" gy f fd):a8 P w K mg MH (fq P w CF) 3 f fd ["line"] (y9 K CF):=by
 refine F.mR ui λMK A outer s H vs Q E hr h=>?_;obtain⟨a,cs,rfl,hS,q0,q1⟩:=h;refine⟨_,af (aO (aB cy (bf G.len (pv 0)) ax (aI _)) (ak (gd FL aH hr (aa (bc B.byte) (aa ax ah)))) aC)
  (ak (dq (Ai aH) rfl (uB rfl B.enum (aa (pv 0) ah)) (lR rfl (cp (bq 1 ui.nd) (cp (bq 2 ui.nd) jl)))
   (af (aO (cH (cN cu cu ax (pv 2) ax)) (ak (gd FL aH hr (aa (bc B.byte) (aa (pv 1) ah)))) aC)
   (ak (aO (PW.pt (uO (aB cy (pv 2) (bc B.blank) (aI _)) (pA (PW.pt (fh (aB gP (pv 1) (cn (aa ax (aa (bD f_ (bf G.len (pv 0)) ax) ah))) (by with_unfolding_all rfl))
    (cY (aB cy (bh aM (pv 0) (bD f_ (pv 1) ax) (λ_ _=>rfl)) (bc B.blank) (aI _)))))))) (ak (gd FL aH hr (aa (bc B.byte) (aa (pv 1) ah)))) aC))))),?_⟩
 refine aY (aJ (cx (aU (ag rfl) (.inl hS)) aD)) (λh=>?_) (λh=>?_)
 . rw[a_,aL] at h;have h:cs=[]:=by
    have:=aam h;exact aaI.mp (by omega)
   exact j4 aD (q0 0 (by unfold v8;rw[YY h]))
 rw[a_,aL] at h;have MT:cs≠[]:=λz=>by rw[z] at h;cases h
 have eL:v8 cs=pV true 0 cs:=by unfold v8;rw[YX MT]
 rw[eL] at q0 q1;refine⟨_,rfl,a,_,rfl,hS,wc (K:=K) (a:=a) (xs:=nV cs) (λi σ H'=>∃(v1 v2:Option V) (gap:Bool),σ=[some (.ref a),v1,v2]/\au H H'/\(gap=true↔i=0\/cs[i - 1]?=some 32)/\pV gap i (cs.drop i)=pV true 0 cs)
  ⟨none,none,true,rfl,au.refl H,by simp,rfl⟩ (λi σ H' _ ⟨_,_,_,_,S,_⟩=>S.seq hS) ?_ ?_⟩
 . rintro i x σ H' tt hi ⟨v1,v2,gap,rfl,S2,hg,hc⟩ hT;have MQ:i < cs.length:=by
    have:=(Y9.mp hi).1
    rwa [aL] at this
   have hx:x=.int (cs[i]:Nat):=by unfold nV at hi;rw[Y1,Y6 MQ] at hi;exact (Zw hi).symm
   subst hx;have U3:cs[i]?=some cs[i]:=Y6 MQ;rw[aaf MQ] at hc;have OL:cs.drop (i+1)=[]↔i=cs.length - 1:=by rw[List.drop_eq_nil_iff];omega
   generalize R9:cs[i]=c at hc U3;have hc:(if ¬(32<=c/\c<=126) then some i else if c=32/\(gap=true\/cs.drop (i+1)=[]) then some i else pV (c==32) (i+1) (cs.drop (i+1)))=pV true 0 cs:=hc;have S3:au H (upd H' tt (.tup [.int (i:Nat),.int (c:Nat)])):=S2.trans ((au.refl H').laid hT);refine⟨tt,_,rfl,bY.of ae,rfl,_,_,rfl,_,_,rfl,rfl,?_⟩;refine aY (fF (cJ aD (ag rfl) aD)) (λh=>?_) (λh=>?_)
   . simp only[ZL,aag,ZC] at h;rw[YY (by omega)] at hc;exact j4 (ag rfl) (q0 i hc.symm)
   simp only[ZO,Y3,Y4] at h;rw[YX (by omega)] at hc;have go:c=32->(gap=true\/cs.drop (i+1)=[])->Rz CF E 2 (i:Nat):=λz1 z2=>by rw[YY ⟨z1,z2⟩] at hc;exact q0 i hc.symm
   have on:∀H4,au H H4->¬(c=32/\(gap=true\/cs.drop (i+1)=[]))->∃(v1 v2:Option V) (gap:Bool),[some (V.ref a),some (V.int (i:Nat)),some (V.int (c:Nat))]=[some (V.ref a),v1,v2]/\au H H4/\(gap=true↔i+1=0\/cs[i+1 - 1]?=some 32)/\pV gap (i+1) (cs.drop (i+1))=pV true 0 cs:=λH4 S4 hn=>by
    rw[YX hn] at hc;refine⟨_,_,(c==32),rfl,S4,?_,hc⟩;rw[show i+1 - 1=i by omega,U3,ZK];constructor
    . intro z;exact .inr (by rw[z])
    rintro (z|z)
    . omega
    exact Zw z
   refine (aJ (cx (ag rfl) aD)) _ ?_;refine gS (λh1=>?_) (λh1=>?_)
   . have h1:c=32:=by
      rw[a_] at h1;have:=aam h1;omega
     refine⟨_,rfl,(rR (aU (ag rfl) (.inl (S3.seq hS))) aD) _ ⟨(by show 2<=sizeLine;decide),λt ht=>⟨t,_,rfl,.inr (bY.of ae),rfl,rfl,_,rfl,?_⟩⟩⟩;rw[aL];have S4:=S3.trans ((au.refl _).laid ht (o:=.tup [V.int 0,V.int ((cs.length:Int) - 1)]));have eI:o4 (V.int (i:Nat)) [V.int 0,V.int ((cs.length:Int) - 1)]=decide (i=0\/i=cs.length - 1):=by show ((0:Int)==(i:Nat)||((cs.length:Int) - 1==(i:Nat)||false))=_;rw[Zx];simp only[ZU,ZK,Y4,aa3];omega
     show if o4 (V.int (i:Nat)) [V.int 0,V.int ((cs.length:Int) - 1)]=true then _ else _;rw[eI];refine gS (λh2=>?_) (λh2=>?_)
     . refine rN ?_;refine j4 (ag rfl) (go h1 ?_);rcases Ze h2 with z|z
       . exact .inl (hg.mpr (.inl z))
       exact .inr (OL.mpr z)
     have h2:¬(i=0\/i=cs.length - 1):=λz=>h2 (Zy z);have RD:0 < i:=by omega
     refine aY (aJ (cx (a6 (ag rfl) (rR (ag rfl) aD) (S4.seq hS) (by rw[show (((i:Nat):Int) - 1)=((i - 1:Nat):Int) by omega];exact Kr (by omega))) aD)) (λh3=>?_) (λh3=>?_)
     . refine j4 (ag rfl) (go h1 (.inl (hg.mpr (.inr ?_))));rw[a_] at h3;have:=aam h3;rw[Y6 (by omega)];congr 1;omega
     refine on _ S4 ?_;rintro⟨_,z|z⟩
     . rcases hg.mp z with z|z
       . omega
       rw[Y6 (by omega)] at z;have z:=Zw z;rw[a_,z] at h3;cases h3
     have:=OL.mp z;omega
   have h1:¬c=32:=λz=>by rw[a_,z] at h1;exact h1 rfl
   refine xg ?_;exact on _ S3 λz=>h1 z.1
 rintro σ H' ⟨v1,v2,gap,rfl,S2,hg,hc⟩;rw[aL,aaK] at hc;exact q1 hc.symm H' S2
end
end Bw
namespace L2
def pj {D:Addr}(F:Nat->V->Hp->Prop)(mono:∀i y H H',(∀b u,b≠D->H b=some u->H' b=some u)->F i y H->F i y H')(hA:aP K H1 a xs)(hD:H1 D=none)(hz:xs.length<=100000)
  (hs:∀i x H',xs[i]?=some x->au H1 H'->(∃acc,H' D=some (.lst acc))->∀R:VK,(∀y H4,au H' H4->F i y H4->R y H4)->g x (wipe σ vs) H' λσ2 H2=>wipe σ2 vs=wipe σ vs/\te σ2 H2 R)
  (hd:∀ys H',au H1 H'->H' D=some (.lst ys)->ys.length=xs.length->(∀i y,ys[i]?=some y->F i y H')->Qd H') :
  ∃W:Nat->Nat->Hp->Prop,(∃m,W 0 m (upd H1 D (.lst [])))/\∀i m H,W i m H ->
   ((Dq K a).stop i H/\Qd H)\/((Dq K a).go i H/\∃Nx:Hp->Prop,(∀H',Nx H'->∃m',m' < m/\W (i+1) m' H')/\∀x H',(Dq K a).xn i H x H'->g x (wipe σ vs) H' λσ2 H2=>wipe σ2 vs=wipe σ vs/\BQ σ2 H2 λb H3 =>if b=true then te σ2 H3 λy H4=>∃acc,H4 D=some (.lst acc)/\acc.length < sizeLine/\Nx (upd H4 D (.lst (acc++[y]))) else Nx H3):=by
 refine jG (tt:=BQ) (xs:=xs) (λi H'=>au H1 H'/\∃ys,H' D=some (.lst ys)/\ys.length=i/\∀j y,ys[j]?=some y->F j y H') ⟨(au.refl H1).laid hD,[],ae,rfl,λj y h=>by simp at h⟩ (λi H' _ h=>h.1.seq hA) ?_ ?_
 . rintro i x H' hx ⟨S,ys,e,l,f⟩;refine hs i x H' hx S ⟨ys,e⟩ _ λy H4 S4 fy=>⟨ys,S4 _ _ e,?_,?_,ys++[y],ae,by rw[Zg,l];rfl,?_⟩
   . have:=(Y9.mp hx).1;rw[Zl];omega
   . intro b u z;rw[aq (ao z hD)];exact S4 b u (S b u z)
   have up:∀b u,b≠D->H4 b=some u->(upd H4 D (.lst (ys++[y]))) b=some u:=λb u n z=>by rw[aq n];exact z
   intro j v h;by_cases z:j < ys.length
   . rw[List.getElem?_append_left z] at h;exact mono j v _ _ (λb u n z=>up b u n (S4 b u z)) (f j v h)
   rw[abx (by omega)] at h;have:j - ys.length=0:=by have:=(Y9.mp h).1;rw[Z7] at this;omega
   rw[this] at h;cases h;have:j=i:=by omega
   subst this;exact mono j _ _ _ up fy
 rintro H' ⟨S,ys,e,l,f⟩;exact hd ys H' S e l f
def qY:fY xs (some ((n:Nat):Int)) none=xs.drop n:=by
 unfold fY;rw[HT.jq,HT.iP];by_cases h:n<=xs.length
 . rw[aaR h];exact ZQ (by rw[ZM];omega)
 rw[Nat.min_eq_right (by omega),aaN (by omega:xs.length<=n),aaK];simp
def rW:fY xs none (some ((n:Nat):Int))=xs.take n:=by
 unfold fY;rw[HT.jq,HT.iP,List.drop_zero,Nat.sub_zero];by_cases h:n<=xs.length
 . rw[aaR h]
 rw[Nat.min_eq_right (by omega),ZQ (Y5 _),ZQ (by omega)]
end L2
namespace Bw
open L2 Tote
structure GN (mg:abD):Prop where
 range:mg "range"=none
 list:mg "list"=none
 tuple:mg "tuple"=none
 sorted:mg "sorted"=none
 sum:mg "sum"=none
 runners:Gv mg "MOST_RUNNERS" (.int 24)
 zip:mg "zip"=none
 set:mg "set"=none
def AZ (l:abA)(x:Nat):product (l++[x])=product l*x:=by unfold product;rw[List.foldl_append];rfl
def C9:o4 (V.int (n:Nat)) (nV l)=l.contains n:=by
 rw[oF,Zx,Y4,Z1,Y4]
 exact⟨λ⟨m,h1,h2⟩=>by have:n=m:=by omega
                      subst this;exact h1,λh=>⟨n,h,rfl⟩⟩
def zj {x:Nat}:nV (l++[x])=nV l++[V.int (x:Nat)]:=by unfold nV;rw[Zd];rfl
def Ak (h:(nV l)[i]?=some v):∃n,l[i]?=some n/\v=V.int (n:Nat):=by unfold nV at h;rw[Y1] at h;obtain⟨n,h1,h2⟩:=Zu.mp h;exact⟨n,h1,h2.symm⟩
def jZ {l:List Addr}(h:(l.map V.ref)[i]?=some v):∃n,l[i]?=some n/\v=V.ref n:=by rw[Y1] at h;obtain⟨n,h1,h2⟩:=Zu.mp h;exact⟨n,h1,h2.symm⟩
section
def Dj (K:abB):Sp:=λvs H Q _=>∃(a:Addr) (ns:abA),vs=[.ref a]/\aP K H a (nV ns)/\(∀n∈ns,n < 1000000)/\∀H',au H H'->Q (.int (product ns:Nat)) H'
def px:aG ["numbers","product","number"] ["numbers"] (aw gm):=fs
def F8 {f:Addr}(F:dj K "product_of" "product_of" gm f fd):a8 P w K mg MH bB 1 f fd ["numbers"] (Dj K):=by
 refine F.oT px λMK A outer s H vs Q E hr h=>?_;obtain⟨a,ns,rfl,hS,hn,q⟩:=h;refine⟨_,af (aT 1 px.nd ax)
  (af (dq ZZ rfl (bJ (pv 0)) (bq 2 px.nd) (ak (uz (i:=1) px.nd rfl (Or.inl rfl) (pv 2) D_)))
  (ak (aA (pv 1)))),?_⟩
 refine cj aD ?_;refine⟨_,rfl,a,rfl,⟨_,hS⟩,dm (K:=K) (a:=a) (xs:=nV ns) (λi σ H'=>∃v2:Option V,σ=[some (.ref a),some (.int (product (ns.take i):Nat)),v2]/\au H H') ⟨none,rfl,au.refl H⟩ (λi σ H' _ ⟨_,_,S⟩=>S.seq hS) ?_ ?_⟩
 . rintro i x σ H' hi ⟨v2,rfl,S⟩;obtain⟨n,U4,rfl⟩:=Ak hi;have:=hn n (Zm U4);refine⟨_,rfl,_,rfl,_,_,rfl,rfl,.inr ⟨by omega,by omega⟩,some (.int (n:Nat)),?_,S⟩;rw[take_snoc U4,AZ,Int.natCast_mul];rfl
 rintro σ H' ⟨v2,rfl,S⟩;rw[aL,ZR];exact⟨_,rfl,q H' S⟩
def u9 (K:abB):Sp:=λvs H Q _=>∃(a t:Addr) (ns s:abA),vs=[.ref a,.ref t]/\aP K H a (nV ns)/\bY K H t (nV s)/\ns.length<=1000/\∀H' x,au H H'->H x=none->H' x=some (.lst (nV (gQ s ns)))->Q (.ref x) H'
def uo:aG ["numbers","taken","number"] ["numbers","taken"] (aw kW):=fs
def Fl {f:Addr}(F:dj K "without" "without" kW f fd):a8 P w K mg MH bB 1 f fd ["numbers","taken"] (u9 K):=by
 refine F.oT uo λMK A outer s H vs Q E hr h=>?_;obtain⟨a,t,ns,s,rfl,hA,hT,hl,q⟩:=h;refine⟨_,ak (aA (fX (te:=cf 2) (tt:=qX (j_ (Ie K true) (cf 2) (cf 1))) rfl uo.nd (bJ (pv 0)) (bC (own:=[("number",2)]) rfl) (λ_ _ _ _ _=>bq 2 uo.nd) (λ_ _ _ _ _=>pb (aB eZ (pv 2) (pv 1) (by with_unfolding_all rfl))) (λ_ _ _ _ _=>pv 2))),?_⟩;refine⟨_,rfl,a,rfl,⟨_,hA⟩,λD hD=>jG (K:=K) (a:=a) (xs:=nV ns) (λi H'=>au H H'/\H' D=some (.lst (nV (gQ s (ns.take i))))) ⟨(au.refl H).laid hD,ae⟩ (λi H' _ h=>h.1.seq hA) ?_ ?_⟩
 . rintro i v H' hi ⟨k1,k2⟩;obtain⟨n,hn,rfl⟩:=Ak hi;refine⟨rfl,?_⟩;refine (aJ (ni (neg:=true) (ag rfl) (ag rfl) (.inr (k1.tup hT)) rfl (gF s))) _ ?_;show if (!o4 (V.int (n:Nat)) (nV s))=true then _ else _;rw[C9];have e:gQ s (ns.take (i+1))=gQ s (ns.take i)++if (!s.contains n)=true then [n] else []:=by
    unfold gQ;rw[take_snoc hn,aaM];congr 1;simp[Z6]
   refine gS (λh=>?_) (λh=>?_)
   . rw[YY h] at e;refine⟨_,rfl,_,k2,?_,?_,?_⟩
     . have:(gQ s (ns.take i)).length<=(ns.take i).length:=abe ..;rw[Zh] at this;rw[aL,Zl];omega
     . intro b u z;rw[aq (ao z hD)];exact k1 b u z
     rw[ae,e,zj]
   rw[YX h,ZW] at e;exact⟨k1,by rw[e];exact k2⟩
 rintro H' ⟨k1,k2⟩;have k2:H' D=some (.lst (nV (gQ s (ns.take (nV ns).length)))):=k2;rw[aL,ZR] at k2;exact q H' D k1 hD k2
def vv (K:abB):Sp:=λvs H Q _=>∃(a t:Addr) (ss:abz) (s:abA),vs=[.ref a,.ref t]/\bG K H a ss/\bY K H t (nV s)/\ss.length<=6/\s.length<=ss.length/\∀H',au H H'->Q (.bl (i6 ss s)) H'
def pd:aG ["sets","start","number","numbers"] ["sets","start"] (aw pI):=fs
def Fo (G:GW mg)(N:GN mg){f:Addr}{fd:FuncData}(F:dj K "is_of" "is_of" pI f fd):a8 P w K mg MH bB 1 f fd ["sets","start"] (vv K):=by
 refine F.oT pd λMK A outer s H vs Q E hr h=>?_;obtain⟨a,t,ss,s,rfl,⟨as,hA,hP⟩,hT,h6,hl,q⟩:=h;refine⟨_,ak (aA (b7 (y_ rfl) (by rfl) G.all PyProof.Rows.boot_all (aa (fX (g:=Ej K 2 (qv (f7 2) (qv (f7 3) Et))) (te:=j_ (Ie K false) (cf 2) (cf 3)) rfl pd.nd (E7 rfl N.zip (aa (pv 1) (aa (pv 0) ah))) (bC (own:=[("number",2),("numbers",3)]) rfl)
  (λ_ _ _ _ _=>lR rfl (cp (bq 2 pd.nd) (cp (bq 3 pd.nd) jl))) (λ_ _ _ _ _=>cC) (λ_ _ _ _ _=>fL gP (pv 2) (pv 3) (by with_unfolding_all rfl))) ah))),?_⟩
 have ML:as.length=ss.length:=Paired.length hP;refine⟨_,rfl,_,rfl,t,a,nV s,as.map V.ref,rfl,hT,hA,λD hD=>Ke (K:=K) (a:=t) (b:=a) (xs:=nV s) (ys:=as.map V.ref) (by rw[aL,YW];omega) (λi H'=>au H H'/\H' D=some (.lst (((s.zip ss).take i).map λz=>V.bl (z.2.contains z.1)))) ⟨(au.refl H).laid hD,ae⟩ (λi H' _ h=>⟨h.1.tup hT,h.1.seq hA⟩) ?_ ?_⟩
 . rintro i x y H' T hx hy ⟨k1,k2⟩ U5;obtain⟨n,hn,rfl⟩:=Ak hx;obtain⟨ai,M7,rfl⟩:=jZ hy;obtain⟨si,OM,hI⟩:=Paired.sf hP M7;have NJ:au H' (upd H' T (.tup [.int (n:Nat),.ref ai])):=(au.refl H').laid U5;have RE:D≠T:=ao k2 U5;refine⟨T,_,rfl,bY.of ae,rfl,_,_,rfl,_,_,rfl,rfl,rfl,?_⟩;refine (ni (neg:=false) (ag rfl) (ag rfl) (.inl ((k1.trans NJ).seq hI)) rfl (gF si)) _ ⟨_,by rw[aq RE];exact k2,?_,?_,?_⟩
   . have:=(Y9.mp hn).1;rw[YW,Zh,Zl];omega
   . intro b u z;rw[aq (ao z hD)];exact NJ b u (k1 b u z)
   have ez:(s.zip ss)[i]?=some (n,si):=by rw[List.getElem?_zip_eq_some];exact⟨hn,OM⟩
   rw[ae,take_snoc ez,Zd];show some (HO.lst (_++[V.bl (o4 (V.int (n:Nat)) (nV si))]))=_;rw[C9];rfl
 rintro H' ⟨k1,k2⟩;have k2:H' D=some (.lst (((s.zip ss).take (nV s).length).map λz=>V.bl (z.2.contains z.1))):=k2;rw[aL,ZQ (by rw[List.length_zip];omega)] at k2;refine⟨D,(s.zip ss).map λz=>z.2.contains z.1,rfl,aP.of (by rw[k2,Zk];rfl),?_⟩;have e:((s.zip ss).map λz=>z.2.contains z.1).all id=i6 ss s:=by unfold i6;rw[aaY];rfl
 rw[e];exact q H' k1
end
end Bw
namespace L2
def J7 (K:abB):V->V->Hp->VK->Prop:=λo i H Q=>∃(p:Addr) (xs:List V) (k:Nat) (v:V),o=.ref p/\i=.int (k:Nat)/\aP K H p xs/\xs[k]?=some v/\Q v H
def CM:JF X (J7 X.K):=by intro MG s σ H o i ov iv Q I ro ri h;obtain⟨p,xs,k,v,rfl,rfl,hq,he,q⟩:=h;cases ro;obtain⟨t,rfl⟩:=ri;obtain⟨MJ,r,pl,hz⟩:=I.list hq;obtain⟨w,ew,O0⟩:=r.get he;have hl:=r.length;have hk:=(Y9.mp he).1;have hn:=lZ;exact wpAny_getItem_list pl.isList (by omega) (by omega) (by simpa using ew) ⟨v,H,I,O0,q⟩
def D9 {σ:L2.St}{D:Addr}(Pv:Nat->Hp->Prop)(h0:Pv 0 (upd H1 D (.lst [])))(hl:∀i H,i<=xs.length->Pv i H->aP K H a xs)
  (hs:∀i x H T,xs[i]?=some x->Pv i H->H T=none->g (.ref T) (wipe σ vs) (upd H T (.tup [.int (i:Nat),x])) λσ2 H2=>wipe σ2 vs=wipe σ vs/\tt σ2 H2 λb H3 =>if b=true then te σ2 H3 λy H4=>∃acc,H4 D=some (.lst acc)/\acc.length < sizeLine/\Pv (i+1) (upd H4 D (.lst (acc++[y]))) else Pv (i+1) H3) (hd:∀H,Pv xs.length H->Qd H) :
  ∃W:Nat->Nat->Hp->Prop,(∃m,W 0 m (upd H1 D (.lst [])))/\∀i m H,W i m H ->
   ((G8 K a).stop i H/\Qd H)\/((G8 K a).go i H/\∃Nx:Hp->Prop,(∀H',Nx H'->∃m',m' < m/\W (i+1) m' H')/\∀x H',(G8 K a).xn i H x H'->g x (wipe σ vs) H' λσ2 H2=>wipe σ2 vs=wipe σ vs/\tt σ2 H2 λb H3 =>if b=true then te σ2 H3 λy H4=>∃acc,H4 D=some (.lst acc)/\acc.length < sizeLine/\Nx (upd H4 D (.lst (acc++[y]))) else Nx H3):=by
 refine⟨λi m H=>m=xs.length - i/\i<=xs.length/\Pv i H,⟨xs.length,by simp,Zo _,h0⟩,?_⟩;rintro i m H ⟨rfl,hi,p⟩;have q:=hl i H hi p;by_cases MN:i < xs.length
 . refine .inr ⟨⟨xs,xs[i],q,by simp[MN]⟩,Pv (i+1),λH' p'=>⟨xs.length - (i+1),by omega,rfl,MN,p'⟩,λx H' y=>?_⟩;obtain⟨T,v,rfl,hT,rfl,hx⟩:=y;exact hs i v _ T (hx xs q) p hT
 have e:i=xs.length:=by omega
 subst e;exact .inl ⟨⟨xs,q,Y5 _⟩,hd H p⟩
end L2
namespace Bw
open L2 Tote
def Dn {σ:L2.St}{tb:TE}{i j:Int}(ha:Ev ta σ H (.int i))(hb:Ev tb σ H (.int j))(h:EK i j):Ev (j_ (rI EK λi j=>.int (i*2 ^ j.toNat)) ta tb) σ H (.int (i*2 ^ j.toNat)):=λ_ r=>ha _ (hb _ ⟨i,j,rfl,rfl,h,r⟩)
theorem rZ:∀l:abA,(l.map λn=>((n:Nat):Int)).sum=((l.sum:Nat):Int)
 |[]=>rfl|n::l=>by rw[Zb,aap,aap,rZ l,Int.natCast_add]
section
def GY (K:abB):Sp:=λvs H Q _=>∃(a:Addr) (ss:abz),vs=[.ref a]/\bG K H a ss/\D5 ss/\∀H',au H H'->Q (.int (dz ss mq:Nat)) H'
def f9:aG ["sets","full","ways","number","bits","mask","place","numbers","bit"] ["sets"] (aw dg):=fs
def HR (G:GW mg)(B:GB K mg aW)(N:GN mg){f:Addr}{fd:FuncData}(F:dj K "count_different" "count_different" dg f fd):a8 P w K mg MH bB 1 f fd ["sets"] (GY K):=by
 refine F.oT f9 λMK A outer s H vs Q E hr h=>?_;obtain⟨a,ss,rfl,hL,hS,q⟩:=h;refine⟨_,af (aT 1 f9.nd (bD f_ (bD DL ax (bf G.len (pv 0))) ax))
  (af (qF (i:=2) f9.nd rfl (Or.inr rfl) (bD xU (bU (aa ax ah)) (fX rfl f9.nd (gN rfl N.range (aa (pv 1) ah)) (bC (own:=[("mask",5)]) rfl) (λ_ _ _ _ _=>bq 5 f9.nd) (λ_ _ _ _ _=>cC) (λ_ _ _ _ _=>ax))))
  (af (dq ZZ rfl (tQ rfl N.range (aa ax (aa (bD fb (bc N.runners) ax) ah))) (uv (i:=3) f9.nd rfl (Or.inr rfl))
   (af (qg (i:=4) (te:=j_ (rI EK λi j=>.int (i*2 ^ j.toNat)) (tC (.int 1)) (cf 6)) (tt:=qX (j_ (Ie K false) (cf 3) (cf 7))) (g:=Ej K 2 (qv (f7 6) (qv (f7 7) Et))) rfl f9.nd rfl rfl (va rfl rfl rfl rfl) (uB rfl B.enum (aa (pv 0) ah)) (bC (own:=[("place",6),("numbers",7)]) rfl) (λ_ _ _ _ _=>lR rfl (cp (bq 6 f9.nd) (cp (bq 7 f9.nd) jl)))
     (λ_ _ _ _ _=>pb (aB gP (pv 3) (pv 7) (by with_unfolding_all rfl))) (λ_ _ _ _ _=>bD DL ax (pv 6)))
   (ak (dq ZZ rfl (sQ rfl N.range (aa (pv 1) (aa ax (aa (wX rL ax) ah)))) (uv (i:=5) f9.nd rfl (Or.inr rfl))
    (ak (Gh (pv 2) (pv 5) CM (b7 (xB rfl) (by rfl) N.sum (by decide +kernel) (aa (fX (te:=j_ (AF K) (cf 2) (j_ (rY λi j=>.int (i - j)) (cf 5) (cf 8))) rfl f9.nd (bJ (pv 4)) (bC (own:=[("bit",8)]) rfl) (λ_ _ _ _ _=>bq 8 f9.nd)
     (λ_ _ _ _ _=>pb (aB qm (bD Hx (pv 5) (pv 8)) ax (aI _))) (λ_ _ _ _ _=>bh aM (pv 2) (bD f_ (pv 5) (pv 8)) (λ_ _=>rfl))) ah)) yN set_list))))))
  (ak (aA (bh aM (pv 2) (pv 1) (λ_ _=>rfl)))))),?_⟩
 obtain⟨as,hA,hP⟩:=hL;have ML:as.length=ss.length:=Paired.length hP;have h6:=hS.len;have hpow:0 < 2 ^ ss.length:=Nat.pow_pos (by decide);have hp64:2 ^ ss.length<=64:=ZH (aaT (by decide) h6) (by decide);obtain⟨f,hf⟩:∃f,f=2 ^ ss.length - 1:=⟨_,rfl⟩;have ef:(1:Int)*2 ^ ((as.map V.ref).length:Int).toNat - 1=((f:Nat):Int):=by
  rw[YW,ML,ZF,hf,Int.one_mul];have:((2 ^ ss.length:Nat):Int)=2 ^ ss.length:=by rw[Int.natCast_pow];rfl
  omega
 have nd:∀s∈ss,s.Nodup:=λs hs=>(hS.good s hs).1.nodup;refine cj (rR (Dn aD (aU (ag rfl) (.inl hA)) ⟨by omega,by rw[YW];omega,by decide⟩) aD) ?_;rw[ef];refine⟨by show 1<=sizeLine;decide,λp1 Qy=>?_⟩;refine zO (uR (ag rfl) (by omega) (by omega) λD0 Oh=>?_);have Ts:p1≠D0:=by rintro rfl;rw[ae] at Oh;cases Oh
 have QL:H D0=none:=by rwa [aq Ts.symm] at Oh
 rw[ZF];refine nv (lo:=0) (n:=f) (λi H'=>au H H'/\H' p1=some (.lst [V.int 1])/\H' D0=some (.lst (nV (List.replicate i 0)))) ⟨((au.refl H).laid Qy).laid QL,by rw[aq Ts];exact ae,ae⟩ ?_ ?_
 . rintro i H' hi ⟨k0,k1,k2⟩;refine⟨rfl,?_⟩;refine⟨_,k2,by rw[aL,Zs,Zl];omega,λb u z=>?_,by rw[aq Ts];exact k1,?_⟩
   . rw[aq (ao z QL)];exact k0 b u z
   rw[ae,List.replicate_succ'];unfold nV;rw[Zd];rfl
 rintro H1 ⟨S1,e1,e0⟩;refine⟨p1,D0,_,_,rfl,rfl,e1,e0,?_,λwy U6=>?_⟩
 . show 1+_<=_;rw[aL,Zs,Zl];omega
 have X1:[V.int 1]++nV (List.replicate f 0)=nV (tab ss 1 f):=by rw[hf,<-AV];unfold nV;rw[Zd];rfl
 rw[X1];have QM:H wy=none:=by
  cases hz:H wy with
  |none=>rfl|some o=>rw[S1 wy o hz] at U6;cases U6
 have S2:au H (upd H1 wy (.lst (nV (tab ss 1 f)))):=λb u z=>by rw[aq (ao z QM)];exact S1 b u z
 refine pW (zg aD (j7 aD aD) (by omega) ?_);refine oa (lo:=1) (n:=((24:Int)+1 - 1).toNat) (λi σ H'=>∃v3 v4 v5:Option V,σ=[some (.ref a),some (.int (f:Nat)),some (.ref wy),v3,v4,v5,none,none,none]/\au H H'/\H' wy=some (.lst (nV (tab ss (i+1) f))))
  ⟨none,none,none,rfl,S2,ae⟩ ?_ ?_
 . rintro i σ H2 hi ⟨v3,v4,v5,rfl,S3,e3⟩;have hi:i < 24:=hi;have ex:(1:Int)+(i:Nat)=((i+1:Nat):Int):=by omega
   rw[ex];obtain⟨x,hx⟩:∃x,x=i+1:=⟨_,rfl⟩;rw[<-hx] at e3 ⊢;refine⟨_,rfl,a,_,rfl,S3.seq hA,λD hD=>D9 (K:=K) (a:=a) (xs:=as.map V.ref) (λj H'=>au H2 H'/\H' D=some (.lst (nV (bitsOf x 1 (ss.take j))))) ⟨(au.refl H2).laid hD,ae⟩ (λj H' _ h=>(S3.trans h.1).seq hA) ?_ ?_⟩
   . rintro j v H' T hj ⟨k1,k2⟩ hT;rw[Y1] at hj;obtain⟨aj,X2,rfl⟩:=Zu.mp hj;obtain⟨sj,Pa,hI⟩:=Paired.sf hP X2;have Po:j < ss.length:=(Y9.mp Pa).1;have RE:D≠T:=ao k2 hT;have Tt:au H2 (upd H' T (.tup [.int (j:Nat),.ref aj])):=k1.trans ((au.refl H').laid hT);have eb:=tO x (ss.take j) 1 sj;rw[<-take_snoc Pa] at eb;refine⟨T,_,rfl,bY.of ae,rfl,_,_,rfl,_,_,rfl,rfl,rfl,?_⟩;refine (aJ (ni (neg:=false) (ag rfl) (ag rfl) (.inl ((S3.trans Tt).seq hI)) rfl (gF sj))) _ ?_;have eI:o4 (V.int (x:Nat)) (nV sj)=sj.contains x:=by
      rw[oF,Zx,Y4,Z1,Y4]
      exact⟨λ⟨m,h1,h2⟩=>by have:x=m:=by omega
                           subst this;exact h1,λh=>⟨x,h,rfl⟩⟩
     show if o4 (V.int (x:Nat)) (nV sj)=true then _ else _;rw[eI];refine gS (λh=>?_) (λh=>?_)
     . rw[YY h] at eb;refine (Dn aD (ag rfl) ⟨by omega,by omega,by decide⟩) _ ⟨_,by rw[aq RE];exact k2,?_,?_,?_⟩
       . rw[aL];have:=pY x (ss.take j) 1;rw[Zh] at this;rw[Zl];omega
       . intro b u z;rw[aq (ao z hD)];exact Tt b u z
       rw[ae,eb];have e2:(1:Int)*2 ^ ((j:Nat):Int).toNat=((1*2 ^ (ss.take j).length:Nat):Int):=by rw[ZF,Zh,aaR (by omega),Int.one_mul,Nat.one_mul,Int.natCast_pow];rfl
       rw[e2];unfold nV;rw[Zd];rfl
     rw[YX h,ZW] at eb;exact⟨Tt,by rw[aq RE,eb];exact k2⟩
   rintro H3 ⟨k1,k2⟩;have k2:H3 D=some (.lst (nV (bitsOf x 1 (ss.take (as.map V.ref).length)))):=k2;rw[YW,ML,ZR] at k2;obtain⟨bits,ND⟩:∃bits,bits=bitsOf x 1 ss:=⟨_,rfl⟩;rw[<-ND] at k2;have X3:D≠wy:=by rintro rfl;rw[e3] at hD;cases hD
   have e4:=k1 _ _ e3;have S4:=S3.trans k1;have hDH:H D=none:=by
    cases hz:H D with
    |none=>rfl|some o=>rw[S3 D o hz] at hD;cases hD
   refine pW (zz (n:=f) (ag rfl) aD (uK aD) ?_ ?_)
   . have:=JG.neg (i:=(f:Int)) (j:=0) (by omega) (by omega) (by omega) (by omega);rw[show ((f:Int) - 0).toNat=f by omega] at this;exact this
   refine rJ (lo:=(f:Nat)) (c:=-1) (n:=f) (λj σ H'=>∃v5:Option V,σ=[some (.ref a),some (.int (f:Nat)),some (.ref wy),some (.int (x:Nat)),some (.ref D),v5,none,none,none]/\au H H'/\H' wy=some (.lst (nV (kj ss x f j)))/\H' D=some (.lst (nV bits)))
    ⟨v5,rfl,S4,by rw[BX];exact e4,k2⟩ ?_ ?_
   . rintro j σ H4 hj ⟨v5,rfl,S5,e5,e6⟩;obtain⟨m,hm⟩:∃m,m=f - j:=⟨_,rfl⟩;have em:((f:Nat):Int)+((j:Nat):Int)*(-1)=((m:Nat):Int):=by omega
     rw[em];have X4:m<=f:=by omega
     have old:(nV (kj ss x f j))[m]?=some (.int (cI ss x m:Nat)):=by unfold nV;rw[Y1,vD X4,YX (by omega)];rfl
     refine⟨_,rfl,_,rfl,wy,_,m,_,rfl,rfl,aP.of e5,old,?_⟩;refine⟨_,rfl,D,rfl,⟨_,aP.of e6⟩,λD2 U7=>jG (K:=K) (a:=D) (xs:=nV bits) (λt H'=>au H4 H'/\H' D2=some (.lst (nV (((bits.take t).filter (bH m)).map λb=>cI ss x (m - b))))) ⟨(au.refl H4).laid U7,ae⟩ (λt H' _ h=>aP.of (h.1 _ _ e6)) ?_ ?_⟩
     . rintro t v H' ht ⟨k3,k4⟩;unfold nV at ht;rw[Y1] at ht;obtain⟨b,hb,rfl⟩:=Zu.mp ht;obtain⟨pw,hpw,Tu⟩:=wQ x ss 1 b (by rw[<-ND];exact Zm hb);rw[Nat.one_mul] at Tu;have PL:0 < b:=by rw[Tu];exact Nat.pow_pos (by decide)
       refine⟨rfl,?_⟩;refine (aJ (rb (mB (f:=λi j=>.int (Builtin.bitAnd i j)) (ag rfl) (ag rfl)) aD)) _ ?_;have eA:(!decide (V.int (Builtin.bitAnd ((m:Nat):Int) ((b:Nat):Int))=V.int 0))=bH m b:=by
        rw[a_];have e1:Builtin.bitAnd ((m:Nat):Int) ((b:Nat):Int)=((m &&& b:Nat):Int):=by unfold Builtin.bitAnd;rw[Zy (by omega:(0:Int)<=((m:Nat):Int)),Zy (by omega:(0:Int)<=((b:Nat):Int))];rfl
        rw[e1,Zx,Tu,<-FG,ZL,Zq];omega
       rw[eA];refine gS (λh=>?_) (λh=>?_)
       . have hbm:=Hs h PL;have at2:oN (nV (kj ss x f j)) (((m:Nat):Int) - ((b:Nat):Int))=some (.int (cI ss x (m - b):Nat)):=by
          rw[show ((m:Nat):Int) - ((b:Nat):Int)=((m - b:Nat):Int) by omega];refine cz ?_;unfold nV;rw[Y1,vD (by omega),YX (by omega)];rfl
         refine (a6 (ag rfl) (rR (ag rfl) (ag rfl)) (aP.of (k3 _ _ e5)) at2) _ ⟨_,k4,?_,?_,?_⟩
         . rw[aL,YW,Zl];have l1:=abe (bH m) (bits.take t);have l2:=pY x ss 1;rw[<-ND] at l2;rw[Zh] at l1;omega
         . intro c u z;rw[aq (ao z U7)];exact k3 c u z
         rw[ae,take_snoc hb,aaM,Zd];have:[b].filter (bH m)=[b]:=by rw[Z6,YY h];rfl
         rw[this];unfold nV;rw[Zd];rfl
       refine⟨k3,?_⟩;have:[b].filter (bH m)=[]:=by rw[Z6,YX h];rfl
       rw[take_snoc hb,aaM,this,ZW];exact k4
     rintro H5 ⟨k3,k4⟩;have k4:H5 D2=some (.lst (nV (((bits.take (nV bits).length).filter (bH m)).map λb=>cI ss x (m - b)))):=k4;rw[aL,ZR] at k4;refine⟨D2,((bits.filter (bH m)).map λb=>cI ss x (m - b)).map λn=>((n:Nat):Int),rfl,aP.of (by rw[k4];unfold nV;rw[Zk,Zk,Zk];rfl),?_⟩;rw[rZ];refine⟨_,_,rfl,rfl,wy,_,_,m,rfl,rfl,k3 _ _ e5,?_,?_⟩
     . unfold EL;rw[YY (by omega),aL,YY (by unfold kj;rw[YW,aa7];omega)];rfl
     have ew:((cI ss x m:Nat):Int)+((((bits.filter (bH m)).map λb=>cI ss x (m - b)).sum:Nat):Int)=((cI ss (x+1) m:Nat):Int):=by rw[DP nd (by omega),<-ND,Int.natCast_add]
     refine⟨_,rfl,λc u z=>?_,?_,?_⟩
     . rw[aq (ao z QM)];exact k3 c u (S5 c u z)
     . rw[ae];show some (HO.lst ((nV (kj ss x f j)).set m (V.int (((cI ss x m:Nat):Int)+((((bits.filter (bH m)).map λb=>cI ss x (m - b)).sum:Nat):Int)))))=_;rw[ew,<-Dt (by omega),hm];unfold nV;rw[List.map_set]
     rw[aq X3];exact k3 _ _ e6
   rintro σ H4 ⟨v5,rfl,S5,e5,e6⟩;rw[CV] at e5;exact⟨_,_,_,rfl,S5,e5⟩
 rintro σ H2 ⟨v3,v4,v5,rfl,S3,e3⟩;have e3:H2 wy=some (.lst (nV (tab ss 25 f))):=e3;refine bW (a6 (ag rfl) (ag rfl) (aP.of e3) (cz (v:=.int (dz ss mq:Nat)) ?_)) (q H2 S3);unfold nV;rw[Y1,Bz (Y5 _),<-BN,hf];rfl
end
end Bw
namespace L2
section
variable {P:Program}{w:World}{d:Addr}{o:Obj}{es:Array DictEntry}{ep:Nat}
def AS (hh:A.handled=none) (it:Addr) (ne:d≠it) (dt:o.data=.dict es ep) :
  Walks P w A it [it,d] [it] es.size (λi v=>∃en,es[i]?=some en/\v=en.key) (λi h=>h.IsKeyIter it d i es.size ep/\h.get? d=some o) where
 sub:=λb hb=>Y0.mpr (.inl (Y_.mp hb))
 frame:=λi h h' st k=>⟨st.1.at λob e=>k it (ZG ..) ob e,k d (by simp) o st.2⟩
 item:=λi s Q E hi st hQ=>by obtain⟨en,Pp⟩:∃en,es[i]?=some en:=⟨es[i],Array.getElem?_eq_getElem hi⟩;refine sv st.1 st.2 dt rfl Pp λh' X5 sb=>?_;exact hQ _ h' s.toks ⟨en,Pp,rfl⟩ ⟨X5,(sb.2 d ne).trans st.2⟩ λb ob hb e=>(sb.2 b λz=>hb (by simp[z])).trans e
 done:=λs Q E st hQ=>u5 hh st.1 st.2 dt rfl (Y5 _) λh' eb=>hQ h' s.toks λb ob hb e=>eb b ob (λz=>hb (by simp[z])) e
 self:=λi s Q E st hQ=>wpAny_pyIter_keyiter st.1 hQ
def Cs (lo:(d==sysModules)=false)(hx:o.ExactDict)(dt:o.data=.dict es ep):W.KdlSrc P w "dict" d d es.size (λi v=>∃en,es[i]?=some en/\v=en.key) (λh=>h.get? d=some o) where
 type:=λs e=>⟨o,e,hx.1⟩
 there:=λh e=>⟨Y8 e,Y8 e⟩
 keep:=λh h' e k=>k d (.inl rfl) o e
 notList:=by decide
 notTuple:=by decide
 hint:=λA E s Q e q=>W.kdl_hint_dict ⟨o,e,hx.1⟩ q
 iter:=λA s hh e=>⟨_,_,(λE Q q=>Aw lo e hx dt q),AS hh _ (Zv (Y8 e)) dt,⟨⟨_,Za _ rfl,rfl,rfl⟩,YZ _ e⟩⟩
end
section
variable {X:Cx}
def ye (hc:X.calm=true):i5 X (.type "list") (λxs H Q=>∃(d:Addr) (MI:List (List Key×V)),xs=[.ref d]/\H d=some (.dT MI) /\
  ∀(qs:List Addr) (l:Addr),Paired (λq (kv:List Key×V)=>H q=some (.tup (kv.1.map kV))) qs MI->H l=none->Q (.ref l) (upd H l (.lst (qs.map V.ref)))):=by
 intro MG s σ H xs us Q I r h;obtain⟨d,MI,rfl,hd,q⟩:=h;rw[Vals.yG r];obtain⟨z,lo,ys,pr,ob,es,ep,ho,hx,dt,he,_⟩:=I.bw d _ hd;have l1:es.size=ys.length:=size_of_entries he;have l2:MI.length=ys.length:=Paired.length pr;refine W.kdl_call (Cs lo hx dt) (I.ok.hd hc) ho (by omega) λh' tk acc c' kp hl it=>?_;have pq:Paired (λq (kv:List Key×V)=>H q=some (.tup (kv.1.map kV))) (ys.map λy=>y.2.1) MI:=by refine k6 (by rw[YW,l2]) λi a b ha hb=>?_;rw[Y1] at ha;obtain⟨y,hy,rfl⟩:=Zu.mp ha;obtain⟨y',OC,e1,e2,_⟩:=yh pr hb;rw[hy] at OC;injection OC with OC;subst OC;exact e2
 have rv:Vals ((ys.map λy=>y.2.1).map V.ref) acc.toList:=by
  have l3:acc.toList.length=es.size:=by rw[aaD];exact it.1
  refine k6 (by rw[YW,YW];omega) λi a b ha hb=>?_;obtain⟨en,Pp,rfl⟩:=it.2 i b (by simpa using hb);rw[Y1,Y1] at ha;have qe:=entry_at he i;cases hy:ys[i]? with
  |none=>rw[hy] at ha;cases ha|some y =>rw[hy] at ha qe;have ha:some (V.ref y.2.1)=some a:=ha;injection ha with ha;subst ha;rw[Pp] at qe;injection qe with qe;rw[qe];rfl
 have hlen:((ys.map λy=>y.2.1).map V.ref).length<=sizeLine:=by rw[YW,YW];omega
 exact⟨.ref s.heap.objs.size,_,I.laid (t':=tk) kp (Y5 _) (show bL X.prog X.w _ h' _ (.lst _) from ⟨hlen,acc.toList,c',rv,by simpa using hl⟩),rfl,q _ _ pq (I.bw.fresh (Y5 _))⟩
end
section
variable {P:Program}{w:World}{A:Around}{E:abC}{s:Shared}
def B9 {t:Addr}{ws:abF}{R:abC}(ht:IsTup s.heap t #[]) (hb:IsTup s.heap b ws.toArray) (hR:R (.ref b) s):wpAny (model P w) A (binaryOp .Add (.ref t) (.ref b)) R E s:=by obtain⟨⟨c1,d1,f1,l1⟩,g1,k1,n1,e1⟩:=id ht;obtain⟨⟨c2,d2,f2,l2⟩,g2,k2,n2,e2⟩:=id hb;simp only at k1 e1 k2 e2;subst k1 e1 k2 e2;have m:=tuple_addW0 t b #[] ws.toArray n1 n2 d1 d2 l1 l2 rfl;exact concat_meets ⟨_,g1,rfl⟩ ⟨_,g2,rfl⟩ noFill_tuple_add seq_tuple_add F.slot_tuple_add F.entry_tuple_add (F.args_tuple_add_2 _ _) m ⟨g1,g2,hR⟩
end
section
variable {X:Cx}
def DH (K:abB):R2:=λx y H Q=>∃a b xs ys,x=.ref a/\y=.ref b/\bY K H a xs/\H b=some (.tup ys)/\ys≠[]/\xs.length+ys.length<=sizeLine/\∀p H',au H H'->H' p=some (.tup (xs++ys))->Q (.ref p) H'
def ph:jT X (binaryOp .Add) (DH X.K):=by
 intro MG s σ H x y v u Q I rx ry h;obtain⟨a,b,xs,ys,rfl,rfl,ha,hb,hy,hz,q⟩:=h;by_cases e:xs=[]
 . subst e;cases rx;cases ry;obtain⟨MJ,r1,p1,_⟩:=I.tuple ha;obtain⟨M8,r2,p2,_⟩:=I.tuple (bY.of hb);have:MJ=[]:=r1.pH.mpr rfl;subst this;exact B9 p1 p2 ⟨.ref b,H,I,rfl,q b H (au.refl H) hb⟩
 exact E8 MG s σ H _ _ v u Q I rx ry ⟨a,b,xs,ys,rfl,rfl,ha,bY.of hb,e,hz,λz=>absurd z hy,λ_ p hp=>q p _ ((au.refl H).laid hp) ae⟩
end
end L2
namespace Bw
open L2 Tote
def kL (l:abA):List Key:=l.map λn=>Sum.inl ((n:Nat):Int)
def ED (l:abA):(kL l).map kV=nV l:=by unfold kL nV;rw[Zk];rfl
def Dl {m:abA}(h:kL l=kL m):l=m:=by unfold kL at h;refine List.map_inj_right (λa b e=>?_) |>.mp h;have:=Sum.inl.inj e;omega
def wx {MI:List (List Key×V)}{K:abz}{k:abA}(h:MI.map (·.1)=K.map kL):(putK MI (kL k) v).map (·.1)=(kb K k).map kL:=by
 have Tw:(MI.any λkv=>decide (kv.1=kL k))=K.contains k:=by
  have e1:(MI.any λkv=>decide (kv.1=kL k))=(MI.map (·.1)).any λz=>decide (z=kL k):=by rw[abb];rfl
  rw[e1,h,abb,Zx,aav,Z1,Y4];constructor
  . rintro⟨x,h1,h2⟩;have:=Dl (Ze h2);rw[<-this];exact h1
  intro hk;exact⟨k,hk,Zy rfl⟩
 unfold putK kb;rw[Tw];by_cases c:K.contains k=true
 . rw[YY c,YY c,<-h,Zk];refine ZN λkv _=>?_;show (if kv.1=kL k then (kv.1,v) else kv).1=kv.1;split <;> rfl
 rw[YX c,YX c,Zd,Zd,h];rfl
def yX {pick:abA}{ms:List Int}(hp:bS pick)(hn:¬n∈pick)(h1:ms.Perm ((pick++[n]).map λx=>((x:Nat):Int)))(h2:ms.Pairwise (·<=·)):ms=(gj n pick).map λx=>((x:Nat):Int):=by
 have hr:=lW hp hn;have nd:(pick++[n]).Nodup:=by rw[aay];refine⟨hp.nodup,by simp,λa ha b hb=>?_⟩;rw[Y_] at hb;subst hb;exact λz=>hn (z ▸ ha)
 have pm:(gj n pick).Perm (pick++[n]):=(abv hr.nodup nd).mpr λx=>by rw[mL];simp[or_comm]
 refine List.Perm.eq_of_pairwise (le:=(·<=·)) (λa b _ _ x y=>by omega) h2 ?_ (h1.trans (pm.map _).symm);rw[List.pairwise_map];exact hr.imp λh=>by omega
theorem lO {pick:abA}:∀(s:abA) (K:abz),(cZ s K pick).length<=K.length+s.length
 |[],K=>Y5 _
 |n::s,K=>by
  show (cZ s (cB pick K n) pick).length<=_;have:=lO (pick:=pick) s (cB pick K n);have h2:(cB pick K n).length<=K.length+1:=by
   unfold cB kb;split
   . omega
   split
   . omega
   simp
  rw[Y7];omega
theorem qN {s:abA}{c:Nat}(hs:s.length<=c):∀(ps K:abz),(ps.foldl (cZ s) K).length<=K.length+ps.length*c
 |[],K=>by simp|p::ps,K=>by rw[aan,Y7];have h1:=qN hs ps (cZ s K p);have h2:=lO (pick:=p) s K;rw[Nat.add_mul];omega
def rj {β:Type}(f:β->α->β)(b:β)(l:List α)(x:α):(l++[x]).foldl f b=f (l.foldl f b) x:=by rw[List.foldl_append];rfl
theorem og:∀(i:Nat) (ss:abz),(∀s∈ss,s.length<=25)->(bp (ss.take i)).length<=25 ^ i
 |0,ss,_=>by show 1<=1;decide
 |i+1,ss,h=>by
  have ih:=og i ss h;by_cases hi:i < ss.length
  . rw[List.take_add_one,Y6 hi];show (bp (ss.take i++[ss[i]])).length<=_;rw[jd];have:=qN (h _ (aaJ hi)) (bp (ss.take i)) [];unfold fB;rw[aaV];have h2:(bp (ss.take i)).length*25<=25 ^ i*25:=Nat.mul_le_mul_right _ ih;simp only[aas] at this;omega
  have:ss.take (i+1)=ss.take i:=by rw[ZQ (by omega),ZQ (by omega)]
  rw[this,aaV];omega
section
def BC (H:Hp) (x:Addr) (R:abz):Prop:=∃qs:List Addr,H x=some (.lst (qs.map V.ref))/\Paired (λq l=>H q=some (.tup (nV l))) qs R
def tK (K:abB):Sp:=λvs H Q _=>∃(a:Addr) (ss:abz),vs=[.ref a]/\bG K H a ss/\D5 ss/\ss.length<=3/\∀H' x,au H H'->BC H' x (bp ss)->Q (.ref x) H'
def lX:aG ["sets","picks","numbers","longer","pick","number"] ["sets"] (aw js):=fs
def Hq (N:GN mg){f:Addr}{fd:FuncData}(F:dj K "picks_of" "picks_of" js f fd):a8 P w K mg MH bB 1 f fd ["sets"] (tK K):=by
 refine F.oT lX λMK A outer s H vs Q E hr h=>?_;obtain⟨a,ss,rfl,⟨as,hA,hP⟩,hS,h3,q⟩:=h;have hu:=wg hr;refine⟨_,af (aT 1 lX.nd (bU (aa (cn ah) ah)))
  (af (dq ZZ rfl (bJ (pv 0)) (bq 2 lX.nd)
   (af (aT 3 lX.nd qC)
   (af (dq ZZ rfl (bJ (pv 1)) (bq 4 lX.nd)
    (ak (dq ZZ rfl (bJ (pv 2)) (bq 5 lX.nd)
     (ak (aO (aB eZ (pv 5) (pv 4) (by with_unfolding_all rfl)) (ak (mX hu (pv 3) (k_ su (by rfl) N.tuple (by decide +kernel) (aa (b7 xY (by rfl) N.sorted PyProof.Rows.boot_sorted (aa (bD ph (pv 4) (cn (aa (pv 5) ah))) ah)) ah)) mN rfl)) aC)))))
   (ak (aT 1 lX.nd (k_ (ye rfl) (by rfl) N.list (by decide +kernel) (aa (pv 3) ah)))))))
  (ak (aA (pv 1)))),?_⟩
 have ML:as.length=ss.length:=Paired.length hP;have U8:∀s∈ss,s.length<=25:=λs hs=>nI (hS.good s hs).1 (hS.good s hs).2;refine⟨Zo _,λt0 Tx=>⟨by show 1<=sizeLine;decide,λp0 PR=>?_⟩⟩;have n0:p0≠t0:=by rintro rfl;rw[ae] at PR;cases PR
 have S0:au H (upd (upd H t0 (.tup [])) p0 (.lst [V.ref t0])):=((au.refl H).laid Tx).trans ((au.refl _).laid PR);refine⟨_,rfl,a,rfl,⟨_,S0.seq hA⟩,dm (K:=K) (a:=a) (xs:=as.map V.ref) (λi σ H'=>∃(pk:Addr) (qs:List Addr) (v2 v3 v4 v5:Option V),σ=[some (.ref a),some (.ref pk),v2,v3,v4,v5]/\au H H'/\H' pk=some (.lst (qs.map V.ref))/\Paired (λq l=>H' q=some (.tup (nV l))) qs (bp (ss.take i)))
  ⟨p0,[t0],none,none,none,none,rfl,S0,ae,.cons (by rw[aq n0.symm];exact ae) .nil⟩ (λi σ H' _ ⟨_,_,_,_,_,_,_,S,_⟩=>S.seq hA) ?_ ?_⟩
 . rintro i x σ H1 hi ⟨pk,qs,v2,v3,v4,v5,rfl,S1,e1,hQ⟩;rw[Y1] at hi;obtain⟨ai,M7,rfl⟩:=Zu.mp hi;obtain⟨sj,Pa,hI⟩:=Paired.sf hP M7;have MQ:i < ss.length:=(Y9.mp Pa).1;have gs:=hS.good sj (Zm Pa);have X6:=U8 sj (Zm Pa);have lp:=og i ss U8;have X7:(bp (ss.take i)).length<=625:=ZH lp (ZH (aaT (by decide) (show i<=2 by omega)) (by decide));have QN:∀l∈bp (ss.take i),bS l/\l.length<=6:=λl hl=>by
    obtain⟨z1,z2⟩:=(gK (ss.take i) l).mp hl;refine⟨z1,?_⟩;have:=(gO z2).1;rw[Zh] at this;omega
   have ON:bp (ss.take (i+1))=fB (bp (ss.take i)) sj:=by rw[take_snoc Pa,jd]
   generalize bp (ss.take i)=Ol at hQ X7 QN ON;have Pb:qs.length=Ol.length:=Paired.length hQ;intro lg U9;have S2:au H1 (upd H1 lg (.dT [])):=(au.refl H1).laid U9;refine⟨_,rfl,pk,rfl,⟨_,S2.seq (aP.of e1)⟩,dm (K:=K) (a:=pk) (xs:=qs.map V.ref) (λj σ H'=>∃(v4 v5:Option V) (MI:List (List Key×V)),σ=[some (.ref a),some (.ref pk),some (.ref ai),some (.ref lg),v4,v5]/\au H1 H'/\H' lg=some (.dT MI)/\MI.map (·.1)=((Ol.take j).foldl (cZ sj) []).map kL)
    ⟨v4,v5,[],rfl,S2,ae,rfl⟩ (λj σ H' _ ⟨_,_,_,_,S,_⟩=>aP.of (S _ _ e1)) ?_ ?_⟩
   . rintro j x σ H2 hj ⟨v4,v5,MI,rfl,S3,e3,hk⟩;rw[Y1] at hj;obtain⟨qa,Tz,rfl⟩:=Zu.mp hj;obtain⟨pick,NX,hT⟩:=Paired.sf hQ Tz;have Po:j < Ol.length:=(Y9.mp NX).1;obtain⟨N6,hr6⟩:=QN pick (Zm NX);have lk:=qN X6 (Ol.take j) [];rw[Zh,aas] at lk;have U_:(Ol.take (j+1)).foldl (cZ sj) []=cZ sj ((Ol.take j).foldl (cZ sj) []) pick:=by rw[take_snoc NX,rj]
     generalize (Ol.take j).foldl (cZ sj) []=K2 at hk lk U_;refine⟨_,rfl,ai,rfl,⟨_,(S1.trans S3).seq hI⟩,dm (K:=K) (a:=ai) (xs:=nV sj) (λm σ H'=>∃(v5:Option V) (MI:List (List Key×V)),σ=[some (.ref a),some (.ref pk),some (.ref ai),some (.ref lg),some (.ref qa),v5]/\au H1 H'/\H' lg=some (.dT MI)/\MI.map (·.1)=((sj.take m).foldl (cB pick) K2).map kL)
      ⟨v5,MI,rfl,S3,e3,hk⟩ (λm σ H' _ ⟨_,_,_,S,_⟩=>(S1.trans S).seq hI) ?_ ?_⟩
     . rintro m x σ H3 hm ⟨v5,MI,rfl,S4,e4,hk⟩;unfold nV at hm;rw[Y1] at hm;obtain⟨n,hn,rfl⟩:=Zu.mp hm;have lk3:MI.length<=K2.length+25:=by
        have z1:MI.length=(cZ (sj.take m) K2 pick).length:=by have:=Z0 List.length hk;rw[YW,YW] at this;exact this
        have z2:=lO (pick:=pick) (sj.take m) K2;rw[Zh] at z2;omega
       have TC:(sj.take (m+1)).foldl (cB pick) K2=cB pick ((sj.take m).foldl (cB pick) K2) n:=by rw[take_snoc hn,rj]
       generalize (sj.take m).foldl (cB pick) K2=K3 at hk TC;have RF:=S4 _ _ hT;have eI:(!o4 (V.int (n:Nat)) (nV pick))=!decide (n∈pick):=by
        congr 1;rw[oF,aaE]
        exact⟨λ⟨y,h1,h2⟩=>by have:n=y:=by omega
                             subst this;exact h1,λh=>⟨n,h,rfl⟩⟩
       refine aY (b:=!decide (n∈pick)) (zu (aJ (ni (neg:=true) (ag rfl) (ag rfl) (.inr (bY.of RF)) rfl (gF pick))) eI) (λh=>?_) (λh=>?_)
       . have Px:¬n∈pick:=by simpa using h
         refine⟨_,rfl,_,rfl,_,rfl,by show 1<=sizeLine;decide,λt1 QO=>?_⟩;have S5:au H3 (upd H3 t1 (.tup [V.int (n:Nat)])):=(au.refl H3).laid QO;refine⟨qa,t1,nV pick,[V.int (n:Nat)],rfl,rfl,bY.of (S5 _ _ RF),ae,by simp,by rw[aL,Zl];simp;omega,λp4 H4 S6 RG=>?_⟩;have TF:nV pick++[V.int (n:Nat)]=((pick++[n]).map λx=>((x:Nat):Int)).map V.int:=by unfold nV;rw[Zd,Zd,Zk];rfl
         refine⟨p4,(pick++[n]).map λx=>((x:Nat):Int),rfl,bY.of (by rw[RG,TF]),by rw[YW,Zg];simp;omega,λms p5 X8 X9 Rl=>?_⟩;have X_:=yX N6 Px X8 X9;subst X_;have e7:((gj n pick).map λx=>((x:Nat):Int)).map V.int=(kL (gj n pick)).map kV:=by rw[ED];unfold nV;rw[Zk];rfl
         rw[e7];refine⟨p5,_,rfl,.inl ⟨aP.of ae,λp6 Yb=>?_⟩⟩;have S7:au H3 (upd (upd H4 p5 (.lst ((kL (gj n pick)).map kV))) p6 (.tup ((kL (gj n pick)).map kV))):=(S5.trans S6).trans (((au.refl H4).laid Rl).trans ((au.refl _).laid Yb));have TH:=S7 _ _ e4;refine⟨lg,_,rfl,.inr ⟨MI,kL (gj n pick),p6,TH,rfl,ae,by rw[Zl];omega,rfl⟩,some (.int (n:Nat)),putK MI (kL (gj n pick)) (V.bl true),rfl,?_,ae,?_⟩
         . intro c u z;rw[aq (ao z U9)];exact S7 c u (S4 c u z)
         rw[TC,wx hk];unfold cB;rw[YX (by rw[Z1,Y4];exact Px)]
       have Px:n∈pick:=by simpa using h
       refine⟨_,MI,rfl,S4,e4,?_⟩;rw[TC,hk];unfold cB;rw[YY (by rw[Z1,Y4];exact Px)]
     rintro σ H3 ⟨v5,MI,rfl,S4,e4,hk⟩;rw[aL,ZR] at hk;exact⟨_,_,MI,rfl,S4,e4,by rw[U_];exact hk⟩
   rintro σ H2 ⟨v4,v5,MI,rfl,S3,e3,hk⟩;rw[YW,Pb,ZR] at hk;refine⟨_,rfl,lg,MI,rfl,e3,λrs l Va hl=>?_⟩;refine⟨l,rs,_,_,_,_,rfl,(S1.trans S3).laid ?_,ae,?_⟩
   . cases hz:H l with
     |none=>rfl|some o=>rw[S3 l o (S1 l o hz)] at hl;cases hl
   rw[ON];have hk:MI.map (·.1)=(fB Ol sj).map kL:=hk;have TJ:MI.length=(fB Ol sj).length:=by
    have:=Z0 List.length hk
    rwa [YW,YW] at this
   refine k6 (by rw[Paired.length Va,TJ]) λt q' l' N3 PV=>?_;obtain⟨kv,Yc,hH⟩:=Paired.sf Va N3;have Yd:kv.1=kL l':=by
    have z1:(MI.map (·.1))[t]?=some kv.1:=by rw[Y1,Yc];rfl
    rw[hk,Y1,PV] at z1;exact (Zw z1).symm
   rw[aq (ao hH hl),hH,Yd,ED]
 rintro σ H1 ⟨pk,qs,v2,v3,v4,v5,rfl,S1,e1,hQ⟩;rw[YW,ML,ZR] at hQ;exact⟨_,rfl,q H1 pk S1 ⟨qs,e1,hQ⟩⟩
end
def xt {ys zs:List α}(l:ys.length=zs.length)(f:∀(i:Nat) y,ys[i]?=some y->zs[i]?=some y):ys=zs:=aba λi=>by
 cases h:ys[i]? with
 |some y=>exact (f i y h).symm|none =>rw[List.getElem?_eq_none_iff] at h;exact (ZX (by omega)).symm
theorem zE {β:Type}{G:Addr->β->Prop}:∀{ys:List V} {zs:List β},ys.length=zs.length->(∀(i:Nat) (y:V),ys[i]?=some y->∃b z,zs[i]?=some z/\y=V.ref b/\G b z)->∃bs:List Addr,ys=bs.map V.ref/\Paired G bs zs
 |[],[],_,_=>⟨[],rfl,.nil⟩|y::ys,z::zs,l,f=>by obtain⟨b,z',h1,h2,h3⟩:=f 0 y rfl;obtain⟨bs,e,p⟩:=zE (ys:=ys) (zs:=zs) (G:=G) (by simpa using l) λi v h=>f (i+1) v h;cases h1;exact⟨b::bs,by rw[h2,e];rfl,.cons h3 p⟩
 |[],_::_,l,_=>by simp at l|_::_,[],l,_=>by simp at l
theorem oY {α β γ:Type}{F:α->β->Prop}{G:α->γ->Prop}{f:β->γ}:∀{l:List α} {m:List β},Paired F l m->(∀a b,F a b->G a (f b))->Paired G l (m.map f)
 |_,_,.nil,_=>.nil|_,_,.cons h t,k=>.cons (k _ _ h) (oY t k)
def yV:(s.map λn=>((n:Nat):Int)).Nodup↔s.Nodup:=by unfold List.Nodup;rw[List.pairwise_map];exact⟨λh=>h.imp λn e=>n (by rw[e]),λh=>h.imp λn e=>n (by omega)⟩
def Ec:nV s=(s.map λn=>((n:Nat):Int)).map V.int:=by unfold nV;rw[Zk];rfl
section
def jJ (K:abB) (r:abz->abA->Nat):Sp:=λvs H Q _=>∃(a t:Addr) (ss:abz) (s:abA),vs=[.ref a,.ref t]/\bG K H a ss/\bY K H t (nV s)/\D5 ss/\s.length<=ss.length/\∀H',au H H'->Q (.int (r ss s:Nat)) H'
def t_:aG ["sets","start","numbers"] ["sets","start"] (aw gu):=fs
def Ed (G:GW mg){k:Nat}(FI:Fn P w K mg MH bB k "is_of" ["sets","start"] (vv K))(FP:Fn P w K mg MH bB k "product_of" ["numbers"] (Dj K)){f:Addr}{fd:FuncData}(F:dj K "count_legs" "count_legs" gu f fd):a8 P w K mg MH bB (k+1) f fd ["sets","start"] (jJ K lD):=by
 refine F.oT t_ λMK A outer s H vs Q E hr h=>?_;obtain⟨a,t,ss,s,rfl,hL,hT,hS,hl,q⟩:=h;refine⟨_,af (aO (cH (iL (aV FI hr aX (aa (pv 0) (aa (pv 1) ah))))) (ak (aA ax)) aC)
  (ak (aA (aV FP hr aX (aa (fX (te:=Hn (λxs H Q=>∃p ys,xs=[.ref p]/\(aP K H p ys\/bY K H p ys)/\Q (.int ys.length) H) (cg (cf 2) dE)) rfl t_.nd (bJ (cT fO (pv 0) (di (bf G.len (pv 1))) fQ)) (bC (own:=[("numbers",2)]) rfl)
   (λ_ _ _ _ _=>bq 2 t_.nd) (λ_ _ _ _ _=>cC) (λ_ _ _ _ _=>bf G.len (pv 2))) ah)))),?_⟩
 refine⟨_,rfl,_,rfl,a,t,ss,s,rfl,hL,hT,hS.len,hl,λH1 S1=>⟨_,rfl,?_⟩⟩;obtain⟨as,hA,hP⟩:=hL;have ML:as.length=ss.length:=Paired.length hP;unfold lD at q;refine gS (λh=>?_) (λh=>?_)
 . have h:¬i6 ss s=true:=by simpa using h
   rw[YX h] at q;exact q H1 S1
 have h:i6 ss s=true:=by simpa using h
 rw[YY h] at q;refine⟨_,rfl,_,rfl,t,_,rfl,.inr (S1.tup hT),_,rfl,a,_,rfl,S1.seq hA,λp hp=>?_⟩;rw[aL,qY,<-abi];have S2:au H (upd H1 p (.lst ((as.drop s.length).map V.ref))):=S1.trans ((au.refl H1).laid hp);refine⟨p,rfl,⟨_,aP.of ae⟩,λD hD=>pj (K:=K) (a:=p) (xs:=(as.drop s.length).map V.ref) (λi y _=>∃si,(ss.drop s.length)[i]?=some si/\y=.int (si.length:Nat)) (λi y H H' _ z=>z) (aP.of ae) hD (by rw[YW,ZM];have:=hS.len;omega) ?_ ?_⟩
 . rintro i x H' hx S _ R hR;obtain⟨ai,M7,rfl⟩:=jZ hx;obtain⟨si,OM,hI⟩:=Paired.sf (Paired.dp s.length hP) M7;exact⟨rfl,_,rfl,ai,nV si,rfl,.inl ((S2.trans S).seq hI),hR _ _ (au.refl _) ⟨si,OM,by rw[aL]⟩⟩
 rintro ys H' S e l f;have ey:ys=nV ((ss.drop s.length).map List.length):=by refine xt (by rw[l,aL,YW,YW,ZM,ZM,ML]) λi y hy=>?_;obtain⟨si,OM,rfl⟩:=f i y hy;unfold nV;rw[Y1,Y1,OM];rfl
 subst ey;refine⟨D,_,rfl,aP.of e,λn hn=>?_,λH2 S3=>q H2 ((S2.trans S).trans S3)⟩;obtain⟨s0,S_,rfl⟩:=Zr.mp hn;have g:=hS.good s0 (aar S_);have:=nI g.1 g.2;omega
def D5.out {ss:abz}(o:D5 ss)(n:Nat):D5 ((ss.drop n).map (gQ s)):=by
 refine⟨by rw[YW,ZM];have:=o.len;omega,λu hu=>?_,λu hu x hx=>?_⟩
 . obtain⟨v,hv,rfl⟩:=Zr.mp hu;have g:=o.good v (aar hv);exact⟨List.Pairwise.filter _ g.1,λx hx=>g.2 x (Z3.mp hx).1⟩
 obtain⟨v,hv,rfl⟩:=Zr.mp hu;exact o.lo v (aar hv) x (Z3.mp hx).1
def vb:aG ["sets","start","numbers"] ["sets","start"] (aw eY):=fs
def Fd (G:GW mg)(N:GN mg){k:Nat}(FI:Fn P w K mg MH bB k "is_of" ["sets","start"] (vv K))(FD:Fn P w K mg MH bB k "count_different" ["sets"] (GY K))(FW:Fn P w K mg MH bB k "without" ["numbers","taken"] (u9 K)){f:Addr}{fd:FuncData}(F:dj K "count_orders" "count_orders" eY f fd):a8 P w K mg MH bB (k+1) f fd ["sets","start"] (jJ K uq):=by
 refine F.oT vb λMK A outer s H vs Q E hr h=>?_;obtain⟨a,t,ss,s,rfl,hL,hT,hS,hl,q⟩:=h;refine⟨_,af (aO (PW.pt (fh (cH (iL (aV FI hr aX (aa (pv 0) (aa (pv 1) ah))))) (cY (aB mE (b7 EI (by rfl) G.len PySem.boot_len (aa (k_ (Fu rfl) (by rfl) N.set (by decide +kernel) (aa (pv 1) ah)) ah)) (bf G.len (pv 1)) (aI _))))) (ak (aA ax)) aC)
  (ak (aA (aV FD hr aX (aa (fX (te:=mZ (u9 K) [] E0 (cg (cf 2) (cg (cf 1) dE))) rfl vb.nd (bJ (cT fO (pv 0) (di (bf G.len (pv 1))) fQ)) (bC (own:=[("numbers",2)]) rfl)
   (λ_ _ _ _ _=>bq 2 vb.nd) (λ_ _ _ _ _=>cC) (λ_ _ _ _ _=>aV FW (by first|exact hr|exact hr.r_) aX (aa (pv 2) (aa (pv 1) ah)))) ah)))),?_⟩
 refine⟨_,rfl,_,rfl,a,t,ss,s,rfl,hL,hT,hS.len,hl,λH1 S1=>⟨_,rfl,?_⟩⟩;obtain⟨as,hA,hP⟩:=hL;have ML:as.length=ss.length:=Paired.length hP;have h6:=hS.len;unfold uq at q;refine gS (λh=>?_) (λh=>?_)
 . have h:¬i6 ss s=true:=by simpa using h
   rw[YX λz=>h z.1] at q;exact rN (q H1 S1)
 have h:i6 ss s=true:=by simpa using h
 refine⟨_,rfl,t,s.map λn=>((n:Nat):Int),rfl,by rw[<-Ec];exact S1.tup hT,by rw[YW];omega,λp S n hp hn Om=>?_⟩;rw[YW] at hn Om;rw[yV] at Om;have Sp:au H (upd H1 p (.set S n)):=S1.trans ((au.refl H1).laid hp);refine⟨p,S,n,rfl,ae,by omega,_,rfl,t,_,rfl,.inr (Sp.tup hT),_,_,rfl,rfl,_,rfl,?_⟩;rw[aL];refine gS (λh2=>?_) (λh2=>?_)
 . have h2:=Ze h2;rw[YX λz=>by have:=Om.mpr z.2;omega] at q;exact q _ Sp
 have h2:s.Nodup:=Om.mp (by have:¬((n:Nat):Int) < ((s.length:Nat):Int):=by simpa using h2
                            omega)
 rw[YY ⟨h,h2⟩] at q;refine⟨_,rfl,_,rfl,t,_,rfl,.inr (Sp.tup hT),_,rfl,a,_,rfl,Sp.seq hA,λp2 O7=>?_⟩;rw[aL,qY,<-abi];have S2:au H (upd (upd H1 p (.set S n)) p2 (.lst ((as.drop s.length).map V.ref))):=Sp.trans ((au.refl _).laid O7);refine⟨p2,rfl,⟨_,aP.of ae⟩,λD hD=>pj (K:=K) (a:=p2) (xs:=(as.drop s.length).map V.ref) (λi y H=>∃b si,(ss.drop s.length)[i]?=some si/\y=.ref b/\b≠D/\H b=some (.lst (nV (gQ s si)))) (λi y H H' z ⟨b,si,z1,z2,z3,z4⟩=>⟨b,si,z1,z2,z3,z b _ z3 z4⟩) (aP.of ae) hD (by rw[YW,ZM];omega) ?_ ?_⟩
 . rintro i x H' hx S3 ⟨acc,TK⟩ R hR;obtain⟨ai,M7,rfl⟩:=jZ hx;obtain⟨si,OM,hI⟩:=Paired.sf (Paired.dp s.length hP) M7;have g:=hS.good si (aar (Zm OM));have:=nI g.1 g.2;refine⟨rfl,_,rfl,_,rfl,ai,t,si,s,rfl,(S2.trans S3).seq hI,(S2.trans S3).tup hT,by omega,λH4 x S4 Vb O9=>hR _ _ S4 ⟨x,si,OM,rfl,?_,O9⟩⟩;rintro rfl;rw[TK] at Vb;cases Vb
 rintro ys H' S3 e l f;obtain⟨bs,rfl,hB⟩:=zE (zs:=ss.drop s.length) (G:=λb si=>b≠D/\H' b=some (.lst (nV (gQ s si)))) (by rw[l,YW,ZM,ZM,ML]) f;refine⟨D,(ss.drop s.length).map (gQ s),rfl,⟨bs,aP.of e,oY hB λb si z=>aP.of z.2⟩,hS.out _,λH2 S4=>q H2 ((S2.trans S3).trans S4)⟩
end
structure rS (MI:List (List Key×V))(f:abA->Nat):Prop where
 val:∀s,c_ MI (kL s)=if f s=0 then none else some (.int (f s:Nat))
 keys:∃ks:abz,MI.map (·.1)=ks.map kL/\ks.Nodup
def rS.get {MI:List (List Key×V)}{f:abA->Nat}(h:rS MI f)(s:abA):(c_ MI (kL s)).getD (.int 0)=.int (f s:Nat):=by
 rw[h.val s];by_cases z:f s=0
 . rw[YY z,z];rfl
 rw[YX z];rfl
def rS.put {MI:List (List Key×V)}{f g:abA->Nat}(h:rS MI f)(s:abA)(hg:∀r,g r=if r=s then f s+1 else f r):rS (putK MI (kL s) (.int (f s+1:Nat))) g:=by
 refine⟨λr=>?_,?_⟩
 . rw[rX,hg r];by_cases e:r=s
   . subst e;rw[YY rfl,YY rfl,YX (by omega)]
   rw[YX λz=>e (Dl z),YX e,h.val r]
 obtain⟨ks,e,nd⟩:=h.keys;exact⟨_,wx e,mw nd⟩
def Cr {MI:List (List Key×V)}{k:List Key}:(putK MI k v).length<=MI.length+1:=by
 unfold putK;split
 . rw[YW];omega
 rw[Zg];exact Y5 _
def ve (R:abz)(row:abA)(j:Nat)(s:abA):Nat:=pre R s+if s.length < j/\s.isPrefixOf row=true then 1 else 0
def Bd (R:abz)(row s:abA):ve R row 0 s=pre R s:=by unfold ve;rw[YX (by omega),Nat.add_zero]
def B3 (R:abz)(row s:abA):ve R row (row.length+1) s=pre (R++[row]) s:=by unfold ve pre;rw[List.countP_append,List.countP_singleton];congr 1;refine jr ⟨λh=>h.2,λh=>⟨?_,h⟩⟩;have:=(abw.mp h).length_le;omega
def Bc {R:abz}{row:abA}(hj:j<=row.length)(s:abA):ve R row (j+1) s=if s=row.take j then ve R row j (row.take j)+1 else ve R row j s:=by
 have l:(row.take j).length=j:=by rw[Zh];omega
 unfold ve;by_cases e:s=row.take j
 . subst e;rw[YY rfl,YY ⟨by omega,abw.mpr (List.take_prefix ..)⟩,YX (by omega)]
 rw[YX e];congr 1;refine jr ⟨λh=>⟨?_,h.2⟩,λh=>⟨by omega,h.2⟩⟩;have:s.length≠j:=λz=>e (by rw[(List.prefix_iff_eq_take.mp (abw.mp h.2)),z]);omega
section
def G9:Sp:=λvs H Q _=>∃(a:Addr) (R:abz),vs=[.ref a]/\BC H a R/\(∀r∈R,r.length<=3)/\R.length<=20000/\∀H' x MI,au H H'->H x=none->H' x=some (.dT MI)->rS MI (pre R)->Q (.ref x) H'
def rf:aG ["rows","counts","row","size","start"] ["rows"] (aw fe):=fs
def HU (G:GW mg)(N:GN mg){f:Addr}{fd:FuncData}(F:dj K "count_starts" "count_starts" fe f fd):a8 P w K mg MH bB 1 f fd ["rows"] G9:=by
 refine F.oT rf λMK A outer s H vs Q E hr h=>?_;obtain⟨a,R,rfl,⟨qs,hA,hP⟩,h3,hl,q⟩:=h;have hu:=wg hr;refine⟨_,af (aT 1 rf.nd qC)
  (af (dq ZZ rfl (bJ (pv 0)) (bq 2 rf.nd)
   (ak (dq ZZ rfl (gN rfl N.range (aa (bD fb (bf G.len (pv 2)) ax) ah)) (bq 3 rf.nd)
    (af (aT 4 rf.nd (cT Ff (pv 2) fQ (di (pv 3))))
    (ak (mX hu (pv 1) (pv 4) (bD fb (vT hu (pv 1) (pv 4) ax ⟨rfl,rfl,rfl,rfl⟩) ax) rfl))))))
  (ak (aA (pv 1)))),?_⟩
 have Pb:qs.length=R.length:=Paired.length hP;intro dc TM;have S0:au H (upd H dc (.dT [])):=(au.refl H).laid TM;refine⟨_,rfl,a,rfl,⟨_,aP.of (S0 _ _ hA)⟩,dm (K:=K) (a:=a) (xs:=qs.map V.ref) (λi σ H'=>∃(v2 v3 v4:Option V) (MI:List (List Key×V)),σ=[some (.ref a),some (.ref dc),v2,v3,v4]/\au H H'/\H' dc=some (.dT MI)/\rS MI (pre (R.take i))/\MI.length<=4*i)
  ⟨none,none,none,[],rfl,S0,ae,⟨λs=>rfl,[],rfl,by simp⟩,by simp⟩ (λi σ H' _ ⟨_,_,_,_,_,S,_⟩=>aP.of (S _ _ hA)) ?_ ?_⟩
 . rintro i x σ H1 hi ⟨v2,v3,v4,MI,rfl,S1,e1,k1,l1⟩;obtain⟨qa,Tz,rfl⟩:=jZ hi;obtain⟨row,Pc,hT⟩:=Paired.sf hP Tz;have MQ:i < R.length:=(Y9.mp Pc).1;have r3:=h3 row (Zm Pc);refine pW (uR (j7 (aU (ag rfl) (.inr (bY.of (S1 _ _ hT)))) aD) (by omega) (by rw[aL];omega) ?_);rw[aL,show (((row.length:Nat):Int)+1).toNat=row.length+1 by omega];refine oa (lo:=0) (n:=row.length+1) (λj σ H'=>∃(v3 v4:Option V) (MI:List (List Key×V)),σ=[some (.ref a),some (.ref dc),some (.ref qa),v3,v4]/\au H H'/\H' dc=some (.dT MI)/\rS MI (ve (R.take i) row j)/\MI.length<=4*i+j)
    ⟨v3,v4,MI,rfl,S1,e1,⟨λs=>by rw[Bd];exact k1.val s,k1.keys⟩,l1⟩ ?_ ?_
   . rintro j σ H2 hj ⟨v3,v4,MI,rfl,S2,e2,k2,l2⟩;rw[Int.zero_add];refine⟨_,rfl,_,rfl,_,rfl,qa,_,rfl,S2 _ _ hT,λp H3 S3 hp=>?_⟩;rw[rW] at hp;have et:(nV row).take j=(kL (row.take j)).map kV:=by rw[ED];unfold nV;rw[List.map_take]
     rw[et] at hp;have e3:=S3 _ _ e2;refine⟨_,rfl,dc,rfl,.inr ⟨MI,.inl e3⟩,_,rfl,_,gZ.t e3 hp,_,_,k2.get _,rfl,_,rfl,_,rfl,dc,_,rfl,.inr ⟨MI,_,p,e3,rfl,hp,by rw[Zl];omega,rfl⟩,_,_,_,rfl,?_,ae,?_,?_⟩
     . intro b u z;rw[aq (ao z TM)];exact S3 b u (S2 b u z)
     . have:=k2.put (row.take j) (Bc (R:=R.take i) (row:=row) (j:=j) (by omega));exact this
     exact ZH Cr (by omega)
   rintro σ H2 ⟨v3,v4,MI,rfl,S2,e2,k2,l2⟩;refine⟨_,_,_,MI,rfl,S2,e2,⟨λs=>?_,k2.keys⟩,by omega⟩;rw[k2.val s,B3,<-take_snoc Pc]
 rintro σ H1 ⟨v2,v3,v4,MI,rfl,S1,e1,k1,l1⟩;rw[YW,Pb,ZR] at k1;exact⟨_,rfl,q H1 dc MI S1 TM e1 k1⟩
end
def mC (k g p:V):List (Str×V):=[("kind",k),("grids",g),("picks",p)]
abbrev iN:List Str:=["kind","grids","picks"]
section
variable {a b c:V}
def yf:(mC a b c).lookup ("kind":Str)=some a:=bK
def oU:(mC a b c).lookup ("grids":Str)=some b:=by unfold mC;rw[aS (by decide +kernel)];exact bK
def wN:(mC a b c).lookup ("picks":Str)=some c:=by unfold mC;rw[aS (by decide +kernel),aS (by decide +kernel)];exact bK
def j3 (h:¬f∈iN):(mC a b c).lookup f=none:=pC h
end
def dJ (K:abB)(H:Hp)(a:Addr)(gs:List (abz)):Prop:=∃as:List Addr,aP K H a (as.map V.ref)/\Paired (bG K H) as gs
def dX (K:abB)(CR:Addr)(H:Hp)(x:Addr)(kd:Tote.Kind)(gs:List (abz)):Prop :=
 ∃dx ga pa MI,H x=some (.ins CR dx (mC (.str (st (cd (kindS kd)))) (.ref ga) (.ref pa)))/\dJ K H ga gs/\oZ kd gs/\H pa=some (.dT MI)/\(kd=.any->rS MI (pre (bp (gs.headD []))))
section
variable {K:abB}{H H':Hp}{CR a x:Addr}{kd:Tote.Kind}{gs:List (abz)}
theorem dJ.same (h:dJ K H a gs) (e:au H H'):dJ K H' a gs:=by obtain⟨as,h1,h2⟩:=h;exact⟨as,e.seq h1,Paired.eV h2 λ_ _ z=>z.same e⟩
def dJ.jY {fs:List (Str×V)}(h:dJ K H a gs)(S:aN x H H')(hx:H x=some (.ins C dx fs)):dJ K H' a gs:=by obtain⟨as,h1,h2⟩:=h;exact⟨as,S.seq hx h1,Paired.eV h2 λ_ _ z=>aN.lists S hx z⟩
def dJ.first (h:dJ K H a gs)(ne:gs≠[]):∃(as:List Addr) (a0:Addr),aP K H a (as.map V.ref)/\oN (as.map V.ref) 0=some (V.ref a0)/\bG K H a0 (gs.headD [])/\gs.headD []∈gs:=by
 obtain⟨as,h1,h2⟩:=h;cases h2 with
 |nil=>exact absurd rfl ne|@cons a0 g as gs h t=>exact⟨_,a0,h1,cz (j:=0) rfl,h,by simp⟩
theorem dX.same (h:dX K CR H x kd gs)(e:au H H'):dX K CR H' x kd gs:=by obtain⟨dx,ga,pa,MI,h1,h2,h3,h4,h5⟩:=h;exact⟨dx,ga,pa,MI,e _ _ h1,h2.same e,h3,e _ _ h4,h5⟩
theorem dX.jY {y C dy:Addr}{fs:List (Str×V)}(h:dX K CR H x kd gs)(S:aN y H H')(hy:H y=some (.ins C dy fs))(hl:fs.length≠3):dX K CR H' x kd gs:=by obtain⟨dx,ga,pa,MI,h1,h2,h3,h4,h5⟩:=h;exact⟨dx,ga,pa,MI,S _ _ h1 (dQ h1 hy (DZ λz=>hl z.symm)),h2.jY S hy,h3,S _ _ h4 (dQ h4 hy (by intro z;cases z)),h5⟩
end
def kind_any {kd:Tote.Kind}:decide (V.str (st (cd (kindS kd)))=V.str (Str.ofString "any"))=decide (kd=.any):=by rw[iQ];cases kd <;> decide
def kind_ord {kd:Tote.Kind}:decide (V.str (st (cd (kindS kd)))=V.str (Str.ofString "order"))=decide (kd=.order):=by rw[iQ];cases kd <;> decide
section
def kO (K:abB) (CR:Addr):Sp:=λvs H Q _=>∃(x dx ga:Addr) (kd:Tote.Kind) (gs:List (abz)),vs=[.ref x,.str (st (cd (kindS kd))),.ref ga]/\H x=some (.ins CR dx [])/\dJ K H ga gs/\oZ kd gs/\∀H',aN x H H'->dX K CR H' x kd gs->Q .cv H'
def DG:aG ["self","kind","grids"] ["self","kind","grids"] (aw iy):=fs
def Du {CR:Addr}(T:CK K mg "Rows" iN CR){k:Nat}(FC:Fn P w K mg MH bB k "count_starts" ["rows"] G9)(FP:Fn P w K mg MH bB k "picks_of" ["sets"] (tK K)){f:Addr}{fd:FuncData}(F:dj K "__init__" "Rows.__init__" iy f fd):a8 P w K mg MH bB (k+1) f fd ["self","kind","grids"] (kO K CR):=by
 refine F.oT DG λMK A outer s H vs Q E hr h=>?_;obtain⟨x,dx,ga,kd,gs,rfl,hx,hG,o,q⟩:=h;refine⟨_,af (cG (pv 0) (pv 1) rfl) (af (cG (pv 0) (pv 2) rfl) (ak (cG (pv 0) (C7 (aB cy (pv 1) bt (aI _)) (aV FC hr aX (aa (aV FP hr aX (aa (bh aM (pv 2) ax (λ_ _=>rfl)) ah)) ah)) qC) rfl))),?_⟩;refine⟨_,rfl,_,rfl,x,CR,dx,[],rfl,hx,T.cl,T.no _ (by simp),(by show 0 < 1000;decide),?_⟩;refine⟨_,rfl,_,rfl,x,CR,dx,_,rfl,ae,T.cl,T.no _ (by simp),(by show 1 < 1000;decide),?_⟩;rw[cQ]
 repeat (first|rw[bV]|rw[bg (by decide +kernel)])
 have S1:aN x H (upd H x (.ins CR dx [("kind",.str (st (cd (kindS kd)))),("grids",.ref ga)])):=(aN.refl x H).upd;have Nk:(upd H x (.ins CR dx [("kind",.str (st (cd (kindS kd)))),("grids",.ref ga)])) x=some (.ins CR dx [("kind",.str (st (cd (kindS kd)))),("grids",.ref ga)]):=ae;generalize upd H x (.ins CR dx [("kind",.str (st (cd (kindS kd)))),("grids",.ref ga)])=H1 at S1 Nk;have Ye:=hG.jY S1 hx;have fin:∀(H2:Hp) (pa:Addr) (MI:List (List Key×V)),au H1 H2->H2 pa=some (.dT MI)->(kd=.any->rS MI (pre (bp (gs.headD []))))->Q .cv (upd H2 x (.ins CR dx (mC (.str (st (cd (kindS kd)))) (.ref ga) (.ref pa)))):=λH2 pa MI S2 hp hk=>by have SX:aN x H (upd H2 x (.ins CR dx (mC (.str (st (cd (kindS kd)))) (.ref ga) (.ref pa)))):=(S1.trans S2.x).upd;exact q _ SX ⟨dx,ga,pa,MI,ae,hG.jY SX hx,o,by rw[aq (dQ hp (S2 _ _ Nk) (by intro z;cases z))];exact hp,hk⟩
 have last:∀(H2:Hp) (pa:Addr) (MI:List (List Key×V)),au H1 H2->H2 pa=some (.dT MI)->(kd=.any->rS MI (pre (bp (gs.headD []))))->Q .cv (upd H2 x (.ins CR dx (e_ "picks" (.ref pa) [("kind",.str (st (cd (kindS kd)))),("grids",.ref ga)]))):=λH2 pa MI S2 hp hk=>by rw[bg (by decide +kernel),bg (by decide +kernel),bV];exact fin H2 pa MI S2 hp hk
 refine (aJ (cx (ag rfl) aD)) _ ?_;rw[kind_any];refine gS (λh=>?_) (λh=>?_)
 . have h:=Ze h;obtain⟨as,a0,hA,h0,hL,hm⟩:=Ye.first o.ne
   have sg:=o.ok _ hm;have l3:=o.any h _ hm;generalize gs.headD []=g at hL sg l3 last;refine (a6 (ag rfl) aD hA h0) _ ⟨a0,g,rfl,hL,sg,l3,λH2 xp S2 NJ=>⟨xp,_,rfl,NJ,λr hm=>?_,?_,λH3 xd MI S3 hxd e3 k3=>?_⟩⟩
   . rw[(gO ((gK g r).mp hm).2).1];exact l3
   . have:=og 3 g λs hs=>nI (sg.good s hs).1 (sg.good s hs).2;rw[ZQ l3] at this;exact ZH this (by decide)
   exact⟨_,rfl,x,CR,dx,_,rfl,S3 _ _ (S2 _ _ Nk),T.cl,T.no _ (by simp),(by show 2 < 1000;decide),last H3 xd MI (S2.trans S3) e3 λ_=>k3⟩
 have h:=ZE (by simpa using h);intro d hd;exact⟨_,rfl,x,CR,dx,_,rfl,((au.refl H1).laid hd) _ _ Nk,T.cl,T.no _ (by simp),(by show 2 < 1000;decide),last _ d [] ((au.refl H1).laid hd) ae λz=>absurd z h⟩
def k7 (K:abB)(CR:Addr):Sp:=λvs H Q _=>∃(x t:Addr) (kd:Tote.Kind) (gs:List (abz)) (s:abA),vs=[.ref x,.ref t]/\dX K CR H x kd gs/\H t=some (.tup (nV s))/\(∀g∈gs,s.length<=g.length)/\∀H',au H H'->Q (.int (pre (fc kd gs) s:Nat)) H'
def kg:aG ["self","start","grid"] ["self","start"] (aw eG):=fs
def B1 {CR:Addr}(N:GN mg)(T:CK K mg "Rows" iN CR){k:Nat}(FO:Fn P w K mg MH bB k "count_orders" ["sets","start"] (jJ K uq))(FL:Fn P w K mg MH bB k "count_legs" ["sets","start"] (jJ K lD)){f:Addr}{fd:FuncData}(F:dj K "starting" "Rows.starting" eG f fd):a8 P w K mg MH bB (k+1) f fd ["self","start"] (k7 K CR):=by
 refine F.oT kg λMK A outer s H vs Q E hr h=>?_;obtain⟨x,t,kd,gs,s,rfl,⟨dx,ga,pa,MI,hx,hG,o,hp,hk⟩,hT,hl,q⟩:=h;have hu:=wg hr;refine⟨_,af (aO (aB cy (aR (pv 0) rfl) bt (aI _)) (ak (aA (vT hu (aR (pv 0) rfl) (pv 1) ax ⟨rfl,rfl,rfl,rfl⟩))) aC)
  (af (aO (aB cy (aR (pv 0) rfl) bt (aI _)) (ak (aA (b7 (xB rfl) (by rfl) N.sum (by decide +kernel) (aa (fX (te:=mZ (jJ K uq) [] E0 (cg (cf 2) (cg (cf 1) dE))) rfl kg.nd (bJ (aR (pv 0) rfl)) (bC (own:=[("grid",2)]) rfl) (λ_ _ _ _ _=>bq 2 kg.nd) (λ_ _ _ _ _=>cC) (λ_ _ _ _ _=>aV FO (by first|exact hr|exact hr.r_) aX (aa (pv 2) (aa (pv 1) ah)))) ah)))) aC)
  (ak (aA (b7 (xB rfl) (by rfl) N.sum (by decide +kernel) (aa (fX (te:=mZ (jJ K lD) [] E0 (cg (cf 2) (cg (cf 1) dE))) rfl kg.nd (bJ (aR (pv 0) rfl)) (bC (own:=[("grid",2)]) rfl) (λ_ _ _ _ _=>bq 2 kg.nd) (λ_ _ _ _ _=>cC) (λ_ _ _ _ _=>aV FL (by first|exact hr|exact hr.r_) aX (aa (pv 2) (aa (pv 1) ah)))) ah))))),?_⟩
 have Vc:∀{σ:L2.St},σ[0]?=some (some (V.ref x))->Ev (sA K (cf 0) "kind") σ H (.str (st (cd (kindS kd)))):=λz=>bb (ag z) hx T.cl (T.no _ (by simp)) yf;have Yg:∀{σ:L2.St},σ[0]?=some (some (V.ref x))->Ev (sA K (cf 0) "grids") σ H (.ref ga):=λz=>bb (ag z) hx T.cl (T.no _ (by simp)) oU;have many:∀(r:abz->abA->Nat) (R:VK),(∀H',au H H'->R (.int (((gs.map λg=>r g s).sum:Nat))) H')->(HL (GL K (sA K (cf 0) "grids")) (f7 2) BQ (mZ (jJ K r) [] E0 (cg (cf 2) (cg (cf 1) dE))) [2]) [some (.ref x),some (.ref t),none] H λv H'=>Kg K [v] H' R:=by
  intro r R hR;obtain⟨as,hA,hP⟩:=hG;have ML:as.length=gs.length:=Paired.length hP;refine zO ?_;show sA _ _ _ _ _ _;refine Yg rfl _ ⟨ga,rfl,⟨_,hA⟩,λD hD=>pj (K:=K) (a:=ga) (xs:=as.map V.ref) (λi y _=>∃g,gs[i]?=some g/\y=.int (r g s:Nat)) (λi y H H' _ z=>z) hA hD (by rw[YW,ML];have:=o.xr;omega) ?_ ?_⟩
  . rintro i v H' hi S _ R hR;obtain⟨ai,M7,rfl⟩:=jZ hi;obtain⟨g,hg,hL⟩:=Paired.sf hP M7;have mg:=Zm hg;exact⟨rfl,_,rfl,_,rfl,ai,t,g,s,rfl,hL.same S,bY.of (S _ _ hT),o.ok g mg,hl g mg,λH4 S4=>hR _ _ S4 ⟨g,hg,rfl⟩⟩
  rintro ys H' S e l f;have ey:ys=((gs.map λg=>r g s).map λn=>((n:Nat):Int)).map V.int:=by refine xt (by rw[l];simp[ML]) λi y hy=>?_;obtain⟨g,hg,rfl⟩:=f i y hy;rw[Y1,Y1,Y1,hg];rfl
  subst ey;refine⟨D,_,rfl,aP.of e,?_⟩;rw[rZ];exact hR H' S
 refine aY (aJ (cx (Vc rfl) aD)) (λh=>?_) (λh=>?_)
 . rw[kind_any] at h;have h:=Ze h;have UJ:=hk h;subst h;show sA _ _ _ _ _ _;refine (bb (ag rfl) hx T.cl (T.no _ (by simp)) wN) _ ⟨pa,rfl,.inr ⟨MI,.inl hp⟩,_,rfl,_,gZ.t hp (k:=kL s) (by rw[ED];exact hT),?_⟩;show Q ((c_ MI (kL s)).getD (.int 0)) H;rw[UJ.get s];exact q H (au.refl H)
 rw[kind_any] at h;have na:=ZE h;refine aY (aJ (cx (Vc rfl) aD)) (λh=>?_) (λh=>?_)
 . rw[kind_ord] at h;have h:=Ze h;subst h;refine many uq _ λH' S=>?_;rw[Ar o hl];exact q H' S
 rw[kind_ord] at h;have no:=ZE h;refine many lD _ λH' S=>?_;rw[Cj no na o hl];exact q H' S
end
abbrev dN (s:abA):List PyData:=s.map λn=>.int (n:Nat)
theorem vH:∀s t:abA,PyData.eqvAll (dN s) (dN t)=(s==t)
 |[],[]=>by simp[PyData.eqvAll]|[],_::_=>by simp[PyData.eqvAll]|_::_,[]=>by simp[PyData.eqvAll]
 |x::s,y::t=>by
  have ih:=vH s t;have e:(((x:Nat):Int)==((y:Nat):Int))=(x==y):=by rw[Zx,ZK,ZK];omega
  show (PyData.eqv (.int (x:Nat)) (.int (y:Nat))&&PyData.eqvAll (dN s) (dN t))=_;rw[ih];simp only[PyData.eqv];rw[e];rfl
def shaped_ints (s:abA):SeqAt.shaped (.list (dN s))=true:=by
 have h1:∀s:abA,PyData.canLayAll0 (dN s)=true:=λs=>by
  induction s with
  |nil=>simp[PyData.canLayAll0]|cons x s ih=>show (PyData.canLay0 (.int (x:Nat))&&PyData.canLayAll0 (dN s))=true;rw[ih];simp[PyData.canLay0]
 have h2:∀s:abA,PyData.depthAll (dN s)=0:=λs=>by
  induction s with
  |nil=>simp[PyData.depthAll]|cons x s ih=>show max (PyData.depth (.int (x:Nat))) (PyData.depthAll (dN s))=0;rw[ih];simp[PyData.depth]
 unfold SeqAt.shaped;rw[Y3,Y4];refine⟨?_,?_⟩
 . simp only[PyData.canLay0];exact h1 s
 simp only[PyData.depth];rw[h2];decide
def zb {c:Addr}(h:aP K H c (nV s)):Dp K H (.ref c) (.list (dN s)):=by
 refine .lst h ?_;clear h
 induction s with
 |nil=>exact .nil|cons x s ih=>exact .cons (.int _) ih
def RS (K:abB)(sd:Addr)(H:Hp)(c:Addr)(xs:List V):Prop:=∀H',aN sd H H'->aP K H' c xs
def RL (K:abB)(sd:Addr)(H:Hp)(b:Addr)(g:abz):Prop:=∃as:List Addr,RS K sd H b (as.map V.ref)/\Paired (λc s=>RS K sd H c (nV s)) as g
section
variable {K:abB}{sd b c:Addr}{H H':Hp}{xs:List V}{g:abz}
theorem RS.of (h:H c=some (.lst xs)) (n:c≠sd):RS K sd H c xs:=λ_ S=>aP.of (S _ _ h n)
def RS.old (h:aP K H c xs)(n:H sd=none)(S:au H H'):RS K sd H' c xs:=λ_ SX=>au.seq (λb u z=>SX b u (S b u z) (ao z n)) h
def RS.step (h:RS K sd H c xs)(S:aN sd H H'):RS K sd H' c xs:=λ_ T=>h _ (S.trans T)
theorem RL.step (h:RL K sd H b g)(S:aN sd H H'):RL K sd H' b g:=by obtain⟨as,h1,h2⟩:=h;exact⟨as,h1.step S,Paired.eV h2 λ_ _ z=>z.step S⟩
def RL.lists (h:RL K sd H b g):bG K H b g:=by obtain⟨as,h1,h2⟩:=h;exact⟨as,h1 _ (aN.refl sd H),Paired.eV h2 λ_ _ z=>z _ (aN.refl sd H)⟩
end
theorem hU {α β:Type}{F:α->β->Prop}:∀{l:List α} {m:List β} {l':List α} {m':List β},Paired F l m->Paired F l' m'->Paired F (l++l') (m++m')
 |_,_,_,_,.nil,h=>h|_,_,_,_,.cons h t,k=>.cons h (hU t k)
section
def nG (K:abB) (CR:Addr):Sp:=λvs H Q _=>∃(a:Addr) (kd:Tote.Kind) (ss:abz),vs=[.str (st (cd (kindS kd))),.ref a]/\bG K H a ss/\oZ kd [ss]/\∀H' x,au H H'->dX K CR H' x kd [ss]->Q (.ref x) H'
def IA:aG ["kind","sets"] ["kind","sets"] (aw kX):=fs
def made {CR:Addr}{Q:VK}{ga:Addr}{kd:Tote.Kind}{gs:List (abz)}(S:au H H1)(hG:dJ K H1 ga gs)(o:oZ kd gs)(q:∀H' x,au H H'->dX K CR H' x kd gs->Q (.ref x) H')(x dx:Addr)(hx:H1 x=none)(Nq:H1 dx=none)(nx:dx≠x) :
  kO K CR [.ref x,.str (st (cd (kindS kd))),.ref ga] (upd (upd H1 dx (.own x)) x (.ins CR dx [])) (λv H2=>v=.cv/\Q (.ref x) H2) E0:=by
 have S1:au H1 (upd (upd H1 dx (.own x)) x (.ins CR dx [])):=((au.refl H1).laid Nq).laid hx;exact⟨x,dx,ga,kd,gs,rfl,ae,hG.same S1,o,λH' SX hR=>⟨rfl,q H' x (λb u z=>SX b u (S1 b u (S b u z)) (ao (S b u z) hx)) hR⟩⟩
def Hm {CR:Addr}(T:CK K mg "Rows" iN CR){k:Nat}(FR:yi P w K mg MH bB k CR ["self","kind","grids"] (kO K CR)){f:Addr}{fd:FuncData}(F:dj K "rows_on" "rows_on" kX f fd):a8 P w K mg MH bB (k+2) f fd ["kind","sets"] (nG K CR):=by refine F.oT IA λMK A outer s H vs Q E hr h=>?_;obtain⟨a,kd,ss,rfl,hL,o,q⟩:=h;refine⟨_,ak (aA (rD FR hr T.mg aX (aa (pv 0) (aa (bU (aa (pv 1) ah)) ah)))),?_⟩;refine⟨_,rfl,_,rfl,by show 1<=sizeLine;decide,λl hl=>?_⟩;have S1:au H (upd H l (.lst [V.ref a])):=(au.refl H).laid hl;exact λx dx hx Nq nx=>made S1 ⟨[a],aP.of ae,.cons (hL.same S1) .nil⟩ o q x dx hx Nq nx
def sW (K:abB)(CR:Addr):Sp:=λvs H Q _=>∃(a:Addr) (k:Nat) (kd:Tote.Kind) (s:abA),vs=[.str (st (cd (kindS kd))),.int (k:Nat),.ref a]/\aP K H a (nV s)/\k<=6/\oZ kd [List.replicate k s]/\∀H' x,au H H'->dX K CR H' x kd [List.replicate k s]->Q (.ref x) H'
def vx:aG ["kind","size","numbers","place"] ["kind","size","numbers"] (aw jC):=fs
def zl {σ:L2.St}{Q:VK}(h:te σ H λx H1=>1<=sizeLine/\∀p,H1 p=none->Q (.ref p) (upd H1 p (.lst [x]))):HN (cg te dE) σ H Q:=h
def Jw {σ:L2.St}(h:te σ H λv H'=>D.nx (σ.set n (some v)) H'):xi te (f7 n) D σ H:=h
def zZ {k m:Nat}{σ:L2.St}{Q:VK}{ta:TA}(hk:k<=6)(ha:∀R:List V->Hp->Prop,R [.int (k:Nat)] H->ta σ H R)(hg:g=f7 n)(Yh:vs=[n])(hv:∀i:Int,((wipe σ [n]).set n (some (.int i)))[m]?=some (some (.ref a))/\wipe ((wipe σ [n]).set n (some (.int i))) [n]=wipe σ [n])
  (q:∀D H',H D=none->au H H'->H' D=some (.lst (List.replicate k (V.ref a)))->Q (.ref D) H'):(HL (DQ ta) g BQ (cf m) vs) σ H Q:=by
 subst hg Yh;refine zO (ha _ ⟨_,rfl,by omega,by omega,λD hD=>?_⟩);rw[ZF];refine nv (lo:=0) (n:=k) (λi H'=>au H H'/\H' D=some (.lst (List.replicate i (V.ref a)))) ⟨(au.refl H).laid hD,ae⟩ ?_ ?_
 . rintro i H' hi ⟨k1,k2⟩;refine⟨(hv _).2,_,(hv _).1,_,k2,by rw[Zs,Zl];omega,λb u z=>?_,?_⟩
   . rw[aq (ao z hD)];exact k1 b u z
   rw[ae,List.replicate_succ']
 rintro H' ⟨k1,k2⟩;exact q D H' hD k1 k2
def tD {D:Addr}{k:Nat}(h:H D=some (.lst (List.replicate k (V.ref a))))(hs:aP K H a (nV s)):bG K H D (List.replicate k s):=⟨List.replicate k a,aP.of (by rw[h,List.map_replicate]),Paired.rep (F:=iM K H) hs k⟩
def Fh {CR:Addr}(N:GN mg)(T:CK K mg "Rows" iN CR){k:Nat}(FR:yi P w K mg MH bB k CR ["self","kind","grids"] (kO K CR)){f:Addr}{fd:FuncData}(F:dj K "rows_box" "rows_box" jC f fd):a8 P w K mg MH bB (k+2) f fd ["kind","size","numbers"] (sW K CR):=by refine F.oT vx λMK A outer s H vs Q E hr h=>?_;obtain⟨a,n,kd,ss,rfl,hS,h6,o,q⟩:=h;refine⟨_,ak (aA (rD FR hr T.mg aX (aa (pv 0) (aa (bU (aa (fX (te:=cf 2) rfl vx.nd (gN rfl N.range (aa (pv 1) ah)) (bC (own:=[("place",3)]) rfl) (λ_ _ _ _ _=>bq 3 vx.nd) (λ_ _ _ _ _=>cC) (λ_ _ _ _ _=>pv 2)) ah)) ah)))),?_⟩;refine⟨_,rfl,zl (zZ h6 (λR r=>⟨_,rfl,r⟩) rfl rfl (λi=>⟨rfl,rfl⟩) λD H1 hD S1 e1=>⟨by show 1<=sizeLine;decide,λl hl=>?_⟩)⟩;have S2:au H1 (upd H1 l (.lst [V.ref D])):=(au.refl H1).laid hl;exact λx dx hx Nq nx=>made (S1.trans S2) ⟨[D],aP.of ae,.cons ((tD e1 (S1.seq hS)).same S2) .nil⟩ o q x dx hx Nq nx
end
section
def Mf (K:abB) (H:Hp) (a:Addr) (gs:List (abz)):Prop:=∃bs:List Addr,H a=some (.lst (bs.map V.ref))/\Paired (bG K H) bs gs
def y4 (K:abB):Sp:=λvs H Q _=>∃(a b:Addr) (k:Nat) (A B:abA),vs=[.int (k:Nat),.ref a,.ref b]/\aP K H a (nV A)/\aP K H b (nV B)/\k<=4/\A.length<=3/\∀H' x,au H H'->Mf K H' x (bA B A [List.replicate k B])->Q (.ref x) H'
def gg:aG ["size","bankers","others","grids","banker","seated","grid","place"] ["size","bankers","others"] (aw gX):=fs
def Gf (N:GN mg){f:Addr}{fd:FuncData}(F:dj K "seatings" "seatings" gX f fd):a8 P w K mg MH bB 1 f fd ["size","bankers","others"] (y4 K):=by
 refine F.oT gg λMK A outer s H vs Q E hr h=>?_;obtain⟨a,b,k,Bk,B,rfl,hA,hB,h4,h3,q⟩:=h;have hu:(A.deeper (envOfC "seatings" (aw gX) s.heap.objs.size f MK)).units+64 < cLine:=by have:=hr.un;omega
 refine⟨_,af (aT 3 gg.nd (bU (aa (fX (te:=cf 2) rfl gg.nd (gN rfl N.range (aa (pv 0) ah)) (bC (own:=[("place",7)]) rfl) (λ_ _ _ _ _=>bq 7 gg.nd) (λ_ _ _ _ _=>cC) (λ_ _ _ _ _=>pv 2)) ah)))
  (af (dq ZZ rfl (bJ (pv 1)) (bq 4 gg.nd)
   (af (aT 5 gg.nd (bU ah))
   (af (dq ZZ rfl (bJ (pv 3)) (bq 6 gg.nd)
    (ak (dq ZZ rfl (gN rfl N.range (aa (pv 0) ah)) (bq 7 gg.nd)
     (ak (aO (aB (Hv hu) (bh aM (pv 6) (pv 7) (λ_ _=>rfl)) (pv 2) (aI _))
      (ak (eJ (qw PySem.F.plainAttrs_list PySem.F.slot_list_append PySem.F.type_list_append i_ (pv 5) (aa (bD xU (bD xU (cT fO (pv 6) fQ (di (pv 7))) (bU (aa (bU (aa (pv 4) ah)) ah))) (cT fO (pv 6) (di (bD fb (pv 7) ax)) fQ)) ah)))) aC)))))
   (ak (aT 3 gg.nd (pv 5))))))
  (ak (aA (pv 3)))),?_⟩
 refine IP (Jw (zl (zZ (by omega) (λR r=>⟨_,rfl,r⟩) rfl rfl (λi=>⟨rfl,rfl⟩) λD0 H0 Oh S0 e0=>⟨by show 1<=sizeLine;decide,λg0 Yi=>?_⟩)));have S1:au H0 (upd H0 g0 (.lst [V.ref D0])):=(au.refl H0).laid Yi;have gk:∀i,∀g∈bA B (Bk.take i) [List.replicate k B],g.length=k:=λi=>vq λg hg=>by rw[Y_.mp hg,Zs]
 have gn:∀i,(bA B (Bk.take i) [List.replicate k B]).length<=64:=λi=>by have z:=nZ (B:=B) (A:=Bk.take i) (k:=k) (gs:=[List.replicate k B]) (λg hg=>by rw[Y_.mp hg,Zs]);have pw:k ^ (Bk.take i).length<=4 ^ 3:=ZH (Nat.pow_le_pow_left h4 _) (aaT (by decide) (by rw[Zh];omega));rw[Z7,Nat.one_mul] at z;omega
 refine⟨_,rfl,a,rfl,⟨_,(S0.trans S1).seq hA⟩,dm (K:=K) (a:=a) (xs:=nV Bk) (λi σ H'=>∃(gr:Addr) (v4 v5 v6 v7:Option V),σ=[some (.int (k:Nat)),some (.ref a),some (.ref b),some (.ref gr),v4,v5,v6,v7]/\au H H'/\Mf K H' gr (bA B (Bk.take i) [List.replicate k B]))
  ⟨g0,none,none,none,none,rfl,S0.trans S1,[D0],ae,.cons ((tD e0 (S0.seq hB)).same S1) .nil⟩ (λi σ H' _ ⟨_,_,_,_,_,_,S,_⟩=>S.seq hA) ?_ ?_⟩
 . rintro i x σ H1 hi ⟨gr,v4,v5,v6,v7,rfl,SH,bs,eg,hP⟩;obtain⟨bk,Yj,rfl⟩:=Ak hi;have k1:=gk i;have n1:=gn i;have en:bA B (Bk.take (i+1)) [List.replicate k B]=(bA B (Bk.take i) [List.replicate k B]).flatMap (jS bk B):=by rw[take_snoc Yj,yA]
   generalize bA B (Bk.take i) [List.replicate k B]=gs at hP k1 n1 en;have TN:bs.length=gs.length:=Paired.length hP;refine⟨Zo _,λsd TQ=>?_⟩;have S2:au H1 (upd H1 sd (.lst [])):=(au.refl H1).laid TQ;refine⟨_,rfl,gr,rfl,⟨_,S2.seq (aP.of eg)⟩,dm (K:=K) (a:=gr) (xs:=bs.map V.ref) (λj σ H'=>∃(v6 v7:Option V) (cs:List Addr),σ=[some (.int (k:Nat)),some (.ref a),some (.ref b),some (.ref gr),some (.int (bk:Nat)),some (.ref sd),v6,v7]/\au H1 H'/\H' sd=some (.lst (cs.map V.ref))/\Paired (RL K sd H') cs ((gs.take j).flatMap (jS bk B)))
    ⟨v6,v7,[],rfl,S2,ae,.nil⟩ (λj σ H' _ ⟨_,_,_,_,S,_⟩=>aP.of (S _ _ eg)) ?_ ?_⟩
   . rintro j x σ H2 hj ⟨v6,v7,cs,rfl,S3,e3,hC⟩;obtain⟨bj,Yk,rfl⟩:=jZ hj;obtain⟨g,hg,as,TU,NL⟩:=Paired.sf hP Yk;have Po:j < gs.length:=(Y9.mp hg).1;have gl:=k1 g (Zm hg);have ML:as.length=g.length:=Paired.length NL;have Vd:(gs.take (j+1)).flatMap (jS bk B)=(gs.take j).flatMap (jS bk B)++lL bk B g k:=by
      rw[take_snoc hg,List.flatMap_append,<-gl,tT];simp
     have ln:((gs.take j).flatMap (jS bk B)).length<=256:=by
      have z:=rq (f:=jS bk B) (c:=4) (l:=gs.take j) λg' Yl=>ZH (uE g') (by rw[k1 g' (aaz Yl)];exact h4);rw[Zh] at z;have:min j gs.length<=64:=by omega
      omega
     generalize (gs.take j).flatMap (jS bk B)=had at hC Vd ln;refine pW (uR (ag rfl) (by omega) (by omega) ?_);rw[ZF];refine oa (lo:=0) (n:=k) (λp σ H'=>∃(v7:Option V) (cs:List Addr),σ=[some (.int (k:Nat)),some (.ref a),some (.ref b),some (.ref gr),some (.int (bk:Nat)),some (.ref sd),some (.ref bj),v7]/\au H1 H'/\H' sd=some (.lst (cs.map V.ref))/\Paired (RL K sd H') cs (had++lL bk B g p))
      ⟨v7,cs,rfl,S3,e3,by simpa [lL] using hC⟩ ?_ ?_
     . rintro p σ H3 hp ⟨v7,cs,rfl,S4,e4,hC⟩;rw[Int.zero_add];have hpg:p < g.length:=by omega
       have N8:p < as.length:=by omega
       have ha:as[p]?=some as[p]:=Y6 N8;obtain⟨sp,Nj,hI⟩:=Paired.sf NL ha;have Ym:g.getD p []=sp:=by rw[ZD,Nj];rfl
       have eS:=yS bk B g p;rw[Ym] at eS;have lc:cs.length<=300:=by have z:=Paired.length hC;rw[Zg] at z;have:=AQ (a:=bk) (B:=B) (g:=g) (j:=p);omega
       refine (a6 (ag rfl) (ag rfl) (S4.seq TU) (cz (by rw[Y1,ha];rfl))) _ ⟨_,rfl,_,_,zb (S4.seq hI),zb ((SH.trans S4).seq hB),shaped_ints sp,shaped_ints B,_,rfl,?_⟩;have ee:PyData.eqv (.list (dN sp)) (.list (dN B))=(sp==B):=by simp only[PyData.eqv];exact vH sp B
       rw[ee];refine gS (λh=>?_) (λh=>?_)
       . rw[YY h] at eS;refine⟨_,rfl,.inl ⟨rfl,_,aP.of e4⟩,_,rfl,_,rfl,_,rfl,bj,_,rfl,S4.seq TU,λq1 Yn=>?_⟩;rw[rW];refine⟨_,rfl,by show 1<=sizeLine;decide,λq2 TV=>⟨by show 1<=sizeLine;decide,λq3 TX=>?_⟩⟩;have T1:au H3 (upd H3 q1 (.lst ((as.map V.ref).take p))):=(au.refl H3).laid Yn;have f1:(upd H3 q1 (.lst ((as.map V.ref).take p))) q1=some (.lst ((as.map V.ref).take p)):=ae;generalize upd H3 q1 (.lst ((as.map V.ref).take p))=h1 at T1 f1 TV TX ⊢;have T2:au h1 (upd h1 q2 (.lst [V.int (bk:Nat)])):=(au.refl h1).laid TV;have f2:(upd h1 q2 (.lst [V.int (bk:Nat)])) q2=some (.lst [V.int (bk:Nat)]):=ae;generalize upd h1 q2 (.lst [V.int (bk:Nat)])=h2 at T2 f2 TX ⊢;have T3:au h2 (upd h2 q3 (.lst [V.ref q2])):=(au.refl h2).laid TX;have f3:(upd h2 q3 (.lst [V.ref q2])) q3=some (.lst [V.ref q2]):=ae;generalize upd h2 q3 (.lst [V.ref q2])=h3 at T3 f3 ⊢;refine⟨q1,q3,_,_,rfl,rfl,T3 _ _ (T2 _ _ f1),f3,by rw[Zh,YW,Zl];show _+1<=_;omega,λq4 Yo=>?_⟩;have T4:au h3 (upd h3 q4 (.lst ((as.map V.ref).take p++[V.ref q2]))):=(au.refl h3).laid Yo;have f4:(upd h3 q4 (.lst ((as.map V.ref).take p++[V.ref q2]))) q4=some (.lst ((as.map V.ref).take p++[V.ref q2])):=ae;generalize upd h3 q4 (.lst ((as.map V.ref).take p++[V.ref q2]))=Oo at T4 f4 ⊢;have T:au H3 Oo:=((T1.trans T2).trans T3).trans T4;refine⟨_,rfl,(j7 (ag rfl) aD) _ ⟨_,rfl,bj,_,rfl,(S4.trans T).seq TU,λq5 Yp=>?_⟩⟩;rw[show ((p:Nat):Int)+1=((p+1:Nat):Int) by omega,qY];have T5:au Oo (upd Oo q5 (.lst ((as.map V.ref).drop (p+1)))):=(au.refl Oo).laid Yp;have f5:(upd Oo q5 (.lst ((as.map V.ref).drop (p+1)))) q5=some (.lst ((as.map V.ref).drop (p+1))):=ae;generalize upd Oo q5 (.lst ((as.map V.ref).drop (p+1)))=h5 at T5 f5 ⊢;refine⟨q4,q5,_,_,rfl,rfl,T5 _ _ f4,f5,by rw[Zg,Zh,ZM,YW,Zl];show _+1+_<=_;omega,λq6 Ve=>?_⟩;have T6:au h5 (upd h5 q6 (.lst ((as.map V.ref).take p++[V.ref q2]++(as.map V.ref).drop (p+1)))):=(au.refl h5).laid Ve;have f6:(upd h5 q6 (.lst ((as.map V.ref).take p++[V.ref q2]++(as.map V.ref).drop (p+1)))) q6=some (.lst ((as.map V.ref).take p++[V.ref q2]++(as.map V.ref).drop (p+1))):=ae;have Yq:q6≠sd:=(ao (T5 _ _ (T _ _ e4)) Ve).symm;have Yr:q2≠sd:=(ao (T1 _ _ e4) TV).symm;generalize upd h5 q6 (.lst ((as.map V.ref).take p++[V.ref q2]++(as.map V.ref).drop (p+1)))=h6 at T6 f6 ⊢;have TT:au H3 h6:=(T.trans T5).trans T6;have Ys:h6 q2=some (.lst [V.int (bk:Nat)]):=T6 _ _ (T5 _ _ (T4 _ _ (T3 _ _ f2)));refine⟨sd,_,_,rfl,rfl,TT _ _ e4,by rw[YW,Zl];omega,some (.int (p:Nat)),cs++[q6],rfl,?_,by rw[ae,Zd];rfl,?_⟩
         . intro c u z;rw[aq (ao z TQ)];exact TT c u (S4 c u z)
         have SX:aN sd H3 (upd h6 sd (.lst (cs.map V.ref++[V.ref q6]))):=(TT.x).upd;have PJ:aN sd h6 (upd h6 sd (.lst (cs.map V.ref++[V.ref q6]))):=(aN.refl sd h6).upd;have S6:au H1 h6:=S4.trans TT;rw[eS,<-aal];refine hU (Paired.eV hC λ_ _ z=>z.step SX) (.cons ⟨as.take p++[q2]++as.drop (p+1),?_,?_⟩ .nil)
         . refine RS.step (RS.of ?_ Yq) PJ;rw[f6,Zd,Zd,List.map_take,abi];rfl
         have old:Paired (λc s=>RS K sd (upd h6 sd (.lst (cs.map V.ref++[V.ref q6]))) c (nV s)) as g:=Paired.eV NL λc s z=>RS.step (RS.old z TQ S6) PJ;exact hU (hU (Paired.tk p old) (.cons (RS.step (RS.of Ys Yr) PJ) .nil)) (Paired.dp (p+1) old)
       rw[YX h,ZW] at eS;exact⟨_,cs,rfl,S4,e4,by rw[eS];exact hC⟩
     rintro σ H3 ⟨v7,cs,rfl,S4,e4,hC⟩;exact⟨_,_,cs,rfl,S4,e4,by rw[Vd];exact hC⟩
   rintro σ H2 ⟨v6,v7,cs,rfl,S3,e3,hC⟩;rw[YW,TN,ZR,<-en] at hC;exact⟨_,rfl,sd,_,_,_,_,rfl,SH.trans S3,cs,e3,Paired.eV hC λ_ _ z=>z.lists⟩
 rintro σ H1 ⟨gr,v4,v5,v6,v7,rfl,SH,hG⟩;rw[aL,ZR] at hG;exact⟨_,rfl,q H1 gr SH hG⟩
end
def vp {MZ:List V}{t:TA}{σ:L2.St}(h:Ev te σ H v)(q:t σ H λxs H2=>sp ((v::xs)++MZ) H2 D.rt E):Dg (mZ sp MZ E (cg te t)) D σ H:=h _ q
section
abbrev Ft (kd:Tote.Kind) (k:Nat) (A B:abA):List (abz):=if kd=.any then (bA B A [List.replicate k B]).take 1 else bA B A [List.replicate k B]
def sG (K:abB)(CR:Addr):Sp:=λvs H Q _=>∃(a b:Addr) (k:Nat) (kd:Tote.Kind) (A B:abA),vs=[.str (st (cd (kindS kd))),.int (k:Nat),.ref a,.ref b]/\aP K H a (nV A)/\aP K H b (nV B)/\k<=4/\A.length<=3/\oZ kd (Ft kd k A B)/\∀H' x,au H H'->dX K CR H' x kd (Ft kd k A B)->Q (.ref x) H'
def zr:aG ["kind","size","bankers","others","grids"] ["kind","size","bankers","others"] (aw jb):=fs
def Fv {CR:Addr}(T:CK K mg "Rows" iN CR){k:Nat}(FS:Fn P w K mg MH bB (k+1) "seatings" ["size","bankers","others"] (y4 K))(FR:yi P w K mg MH bB k CR ["self","kind","grids"] (kO K CR)){f:Addr}{fd:FuncData}(F:dj K "rows_key" "rows_key" jb f fd):a8 P w K mg MH bB (k+2) f fd ["kind","size","bankers","others"] (sG K CR):=by
 refine F.oT zr λMK A outer s H vs Q E hr h=>?_;obtain⟨a,b,n,kd,Bk,B,rfl,hA,hB,h4,h3,o,q⟩:=h;refine⟨_,af (aT 4 zr.nd (aV FS hr aX (aa (pv 1) (aa (pv 2) (aa (pv 3) ah)))))
  (af (aO (aB cy (pv 0) bt (aI _)) (ak (aA (rD FR hr T.mg aX (aa (pv 0) (aa (cT fO (pv 4) fQ (di ax)) ah))))) aC)
  (ak (aA (rD FR hr T.mg aX (aa (pv 0) (aa (pv 4) ah)))))),?_⟩
 refine⟨_,rfl,_,rfl,_,rfl,a,b,n,Bk,B,rfl,hA,hB,h4,h3,λH1 x S1 ⟨bs,e1,hP⟩=>?_⟩;refine aY (aJ (cx (ag rfl) aD)) (λh=>?_) (λh=>?_)
 . rw[kind_any] at h;have h:=Ze h;unfold Ft at o q;rw[YY h] at o q;refine⟨_,rfl,_,rfl,_,rfl,x,_,rfl,aP.of e1,λl hl=>?_⟩;have ec:fY (bs.map V.ref) none (some 1)=(bs.take 1).map V.ref:=by rw[show (1:Int)=((1:Nat):Int) from rfl,rW,List.map_take]
   rw[ec];have S2:au H1 (upd H1 l (.lst ((bs.take 1).map V.ref))):=(au.refl H1).laid hl;exact λy dy hy TY ny=>made (S1.trans S2) ⟨bs.take 1,aP.of ae,Paired.eV (Paired.tk 1 hP) λ_ _ z=>z.same S2⟩ o q y dy hy TY ny
 rw[kind_any] at h;have h:=ZE h;unfold Ft at o q;rw[YX h] at o q;refine⟨_,rfl,_,rfl,?_⟩;exact λy dy hy TY ny=>made S1 ⟨bs,aP.of e1,hP⟩ o q y dy hy TY ny
def zB (K:abB)(CP CR:Addr):Sp:=λvs H Q _=>∃(pa sa:Addr) (p:aK) (how:Nat) (sets:abz),vs=[.ref pa,.int (how:Nat),.ref sa]/\dA K CP H pa p/\bG K H sa sets/\sy p how sets/\∀H' x,au H H'->dX K CR H' x p.kind (dY p.kind (cb how) p.fields.length sets)->Q (.ref x) H'
def Cw:aG ["pool","how","sets","size"] ["pool","how","sets"] (aw lh):=fs
def HW {CR:Addr}(G:GW mg)(B:GB K mg aW)(TP:CK K mg "Pool" gY CP){k:Nat}(FO:Fn P w K mg MH bB k "rows_on" ["kind","sets"] (nG K CR))(FB:Fn P w K mg MH bB k "rows_box" ["kind","size","numbers"] (sW K CR))(FK:Fn P w K mg MH bB k "rows_key" ["kind","size","bankers","others"] (sG K CR))
  {f:Addr}{fd:FuncData}(F:dj K "rows_of" "rows_of" lh f fd):a8 P w K mg MH bB (k+1) f fd ["pool","how","sets"] (zB K CP CR):=by
 refine F.oT Cw λMK A outer s H vs Q E hr h=>?_;obtain⟨pa,sa,p,how,sets,rfl,⟨dp,fa,N8,⟨NK,Rx,Ry⟩⟩,QP,m,q⟩:=h;refine⟨_,af (aO (aB cy (pv 1) (bc B.on) (aI _)) (ak (aA (aV FO hr aX (aa (aR (pv 0) rfl) (aa (pv 2) ah))))) aC)
  (af (aT 3 Cw.nd (bf G.len (aR (pv 0) rfl)))
  (af (aO (aB cy (pv 1) (bc B.box) (aI _)) (ak (aA (aV FB hr aX (aa (aR (pv 0) rfl) (aa (pv 3) (aa (bh aM (pv 2) ax (λ_ _=>rfl)) ah)))))) aC)
  (ak (aA (aV FK hr aX (aa (aR (pv 0) rfl) (aa (pv 3) (aa (bh aM (pv 2) ax (λ_ _=>rfl)) (aa (bh aM (pv 2) ax (λ_ _=>rfl)) ah))))))))),?_⟩
 have NT:NK.length=p.fields.length:=Paired.length Ry;have o:=m.Ha;obtain⟨_,_,mb,mk⟩:=m.all;refine aY (aJ (cx (ag rfl) aD)) (λh=>?_) (λh=>?_)
 . rw[a_] at h;have h:how=0:=by have:=aam h;omega
   rw[s_.mpr h] at q o;exact vp (bb (ag rfl) N8 TP.cl (TP.no _ (by simp)) hX) ⟨_,rfl,sa,p.kind,sets,rfl,QP,o,q⟩
 rw[a_] at h;have h0:how≠0:=λz=>by rw[z] at h;cases h
 obtain⟨as,hA,hP⟩:=QP;refine cj (aU (bb (ag rfl) N8 TP.cl (TP.no _ (by simp)) jK) (.inl Rx)) ?_;rw[YW,NT];refine aY (aJ (cx (ag rfl) aD)) (λh=>?_) (λh=>?_)
 . rw[a_] at h;have h:how=1:=by have:=aam h;omega
   obtain⟨t,e,h2⟩:=mb h;rw[C8.mpr h] at q o;rw[e] at hP q o;cases hP with
   |cons hI hn =>cases hn;rename_i a0;exact vp (bb (ag rfl) N8 TP.cl (TP.no _ (by simp)) hX) ⟨_,rfl,(a6 (ag rfl) aD hA (v:=.ref a0) rfl) _ ⟨a0,p.fields.length,p.kind,t,rfl,hI,m.ok.six,o,q⟩⟩
 rw[a_] at h;have h1:how≠1:=λz=>by rw[z] at h;cases h
 obtain⟨t,u,e,h2,h3,h4⟩:=mk h0 h1;have k4:=m.k4 h0;rw[CT.mpr ⟨h0,h1⟩] at q o;rw[e] at hP q o;cases hP with
 |cons hI hn =>
  cases hn with
  |cons hJ hn =>cases hn;rename_i a0 a1;exact vp (bb (ag rfl) N8 TP.cl (TP.no _ (by simp)) hX) ⟨_,rfl,(a6 (ag rfl) aD hA (v:=.ref a0) rfl) _ ((a6 (ag rfl) aD hA (v:=.ref a1) rfl) _ ⟨a0,a1,p.fields.length,p.kind,t,u,rfl,hI,hJ,k4,by omega,o,q⟩)⟩
def yM (K:abB)(CB CR:Addr):Sp:=λvs H Q _=>∃(x dx r:Addr) (a b c d e:V) (kd:Tote.Kind) (gs:List (abz)),vs=[.ref x,a,b,c,d,e,.ref r]/\H x=some (.ins CB dx [])/\dX K CR H r kd gs/\∀H',aN x H H'->H' x=some (.ins CB dx (qo a b c d e (.ref r) (.int ((fc kd gs).length:Nat))))->Q .cv H'
def Ea:aG ["self","pool","pool_number","how","stake","sets","rows"] ["self","pool","pool_number","how","stake","sets","rows"] (aw jy):=fs
def EW {CR:Addr}(T:CK K mg "Bet" tS CB)(TR:CK K mg "Rows" iN CR){k:Nat}(FS:nW P w K mg MH bB k CR "starting" ["self","start"] (k7 K CR)){f:Addr}{fd:FuncData}(F:dj K "__init__" "Bet.__init__" jy f fd):a8 P w K mg MH bB (k+1) f fd ["self","pool","pool_number","how","stake","sets","rows"] (yM K CB CR):=by
 refine F.oT Ea λMK A outer s H vs Q E hr h=>?_;obtain⟨x,dx,r,a,b,c,d,e,kd,gs,rfl,hx,hR,q⟩:=h;refine⟨_,af (cG (pv 0) (pv 1) rfl) (af (cG (pv 0) (pv 2) rfl) (af (cG (pv 0) (pv 3) rfl) (af (cG (pv 0) (pv 4) rfl) (af (cG (pv 0) (pv 5) rfl) (af (cG (pv 0) (pv 6) rfl) (ak (cG (pv 0) (gc FS TR.cl (pv 6) hr aX (aa (cn ah) ah)) rfl))))))),?_⟩;refine⟨_,rfl,_,rfl,x,CB,dx,[],rfl,hx,T.cl,T.no _ (by simp),(by show 0 < 1000;decide),?_⟩;refine⟨_,rfl,_,rfl,x,CB,dx,_,rfl,ae,T.cl,T.no _ (by simp),(by show 1 < 1000;decide),?_⟩;refine⟨_,rfl,_,rfl,x,CB,dx,_,rfl,ae,T.cl,T.no _ (by simp),(by repeat (first|rw[bV]|rw[bg (by decide +kernel)]);show 2 < 1000;decide),?_⟩;refine⟨_,rfl,_,rfl,x,CB,dx,_,rfl,ae,T.cl,T.no _ (by simp),(by repeat (first|rw[bV]|rw[bg (by decide +kernel)]);show 3 < 1000;decide),?_⟩;refine⟨_,rfl,_,rfl,x,CB,dx,_,rfl,ae,T.cl,T.no _ (by simp),(by repeat (first|rw[bV]|rw[bg (by decide +kernel)]);show 4 < 1000;decide),?_⟩;refine⟨_,rfl,_,rfl,x,CB,dx,_,rfl,ae,T.cl,T.no _ (by simp),(by repeat (first|rw[bV]|rw[bg (by decide +kernel)]);show 5 < 1000;decide),?_⟩;rw[cQ,cQ,cQ,cQ,cQ]
 repeat (first|rw[bV]|rw[bg (by decide +kernel)])
 have S1:aN x H (upd H x (.ins CB dx [("pool",a),("pool_number",b),("how",c),("stake",d),("sets",e),("rows",.ref r)])):=(aN.refl x H).upd;have Nk:(upd H x (.ins CB dx [("pool",a),("pool_number",b),("how",c),("stake",d),("sets",e),("rows",.ref r)])) x=some (.ins CB dx [("pool",a),("pool_number",b),("how",c),("stake",d),("sets",e),("rows",.ref r)]):=ae;generalize upd H x (.ins CB dx [("pool",a),("pool_number",b),("how",c),("stake",d),("sets",e),("rows",.ref r)])=H1 at S1 Nk;have Oq:=hR.jY S1 hx (by decide);obtain⟨dr,_,_,_,N6,_⟩:=id Oq;refine⟨_,rfl,r,dr,_,rfl,N6,j3 (by decide +kernel),Zo _,λt ht=>?_⟩;have S2:au H1 (upd H1 t (.tup [])):=(au.refl H1).laid ht;show dE _ _ _;unfold dE;dsimp only [ZW];refine⟨r,t,kd,gs,[],rfl,Oq.same S2,ae,λg _=>Zo _,λH2 S3=>?_⟩;rw[jD];refine⟨_,rfl,x,CB,dx,_,rfl,S3 _ _ (S2 _ _ Nk),T.cl,T.no _ (by simp),(by show 6 < 1000;decide),?_⟩;rw[bg (by decide +kernel),bg (by decide +kernel),bg (by decide +kernel),bg (by decide +kernel),bg (by decide +kernel),bg (by decide +kernel),bV];exact q _ ((S1.trans (S2.trans S3).x).upd) ae
end
def II (k:Nat)(σ:L2.St)(H:Hp):Nat:=match σ[2]? with
 |some (some (V.ref t))=>match H t with
  |some (.tup ys)=>k - ys.length|_=>0
 |_=>0
def Am {k:Nat}{σ:L2.St}{t:Addr}(h:σ[2]?=some (some (.ref t)))(e:H t=some (.tup ys)):II k σ H=k - ys.length:=by unfold II;rw[h];dsimp only;rw[e]
section
def pK (K:abB) (CR:Addr):Sp:=λvs H Q _=>∃(x:Addr) (i k:Nat) (kd:Tote.Kind) (gs:List (abz)),vs=[.ref x,.int (i:Nat)]/\dX K CR H x kd gs/\(∀g∈gs,g.length=k)/\i < (fc kd gs).length/\k<=100 /\
 ∀H' T r,au H H'->H' T=some (.tup (nV r))->zG (fc kd gs) i r->r.length=k->Q (.ref T) H'
def jz:aG ["self","i","row","left","number","here"] ["self","i"] (aw cW):=fs
def Hz {CR:Addr}(G:GW mg)(TR:CK K mg "Rows" iN CR){k:Nat}(FS:nW P w K mg MH bB k CR "starting" ["self","start"] (k7 K CR)){f:Addr}{fd:FuncData}(F:dj K "row_at" "Rows.row_at" cW f fd):a8 P w K mg MH bB (k+1) f fd ["self","i"] (pK K CR):=by
 refine F.oT jz λMK A outer s H vs Q E hr h=>?_;obtain⟨x,i,k,kd,gs,rfl,hR,hk,hi,k100,q⟩:=h;refine⟨_,af (aT 2 jz.nd (cn ah)) (af (aT 3 jz.nd (pv 1))
  (af (qZ ZZ (aB mE (bf G.len (pv 2)) (bf G.len (bh aM (aR (pv 0) rfl) ax (λ_ _=>rfl))) (aI _))
   (af (aT 4 jz.nd ax)
   (af (aT 5 jz.nd (gc FS TR.cl (pv 0) hr aX (aa (bD ph (pv 2) (cn (aa (pv 4) ah))) ah)))
   (af (qZ ZZ (aB GS (pv 3) (pv 5) (aI _))
    (af (uz (i:=3) jz.nd rfl (Or.inl rfl) (pv 5) Ji)
    (af (uz (i:=4) jz.nd rfl (Or.inl rfl) ax yN)
    (ak (aT 5 jz.nd (gc FS TR.cl (pv 0) hr aX (aa (bD ph (pv 2) (cn (aa (pv 4) ah))) ah)))))))
   (ak (aT 2 jz.nd (bD ph (pv 2) (cn (aa (pv 4) ah)))))))))
  (ak (aA (pv 2))))),?_⟩
 have o:oZ kd gs:=by obtain⟨_,_,_,_,_,_,o,_⟩:=id hR;exact o
 have hO:=p9 o hk;generalize eR:fc kd gs=R at hi q hO;have cat:∀{σ:L2.St} {H1:Hp} {t:Addr} {r:abA} {n:Nat} {Z:VK},σ[2]?=some (some (V.ref t))->σ[4]?=some (some (V.int (n:Nat)))->H1 t=some (.tup (nV r))->r.length < k->(∀H2 p,au H1 H2->H2 p=some (.tup (nV (r++[n])))->Z (.ref p) H2)->(j_ (DH K) (cf 2) (HZ (cg (cf 4) dE))) σ H1 Z:=by intro σ H1 t r n Z e2 e4 ht hl z;refine ag e2 _ ?_;refine ag e4 _ ⟨by show 1<=sizeLine;decide,λt1 QO=>?_⟩;have S1:au H1 (upd H1 t1 (.tup [V.int (n:Nat)])):=(au.refl H1).laid QO;refine⟨t,t1,nV r,[V.int (n:Nat)],rfl,rfl,bY.of (S1 _ _ ht),ae,by simp,by rw[aL,Zl];simp;omega,λp H2 S2 hp=>?_⟩;rw[<-zj] at hp;exact z H2 p (S1.trans S2) hp
 have Vf:∀{σ:L2.St} {H1:Hp} {t:Addr} {r:abA} {n:Nat} {D:Ends} {E':XK},σ[0]?=some (some (V.ref x))->σ[2]?=some (some (V.ref t))->σ[4]?=some (some (V.int (n:Nat)))->au H H1->H1 t=some (.tup (nV r))->r.length < k->(∀H2,au H1 H2->D.nx (σ.set 5 (some (V.int (pre R (r++[n]):Nat)))) H2)->(xi (qp CR "starting" (k7 K CR) [] E' (cf 0) (cg (j_ (DH K) (cf 2) (HZ (cg (cf 4) dE))) dE)) (f7 5)) D σ H1:=by intro σ H1 t r n D E' e0 e2 e4 S1 ht hl z;have Oq:=hR.same S1;obtain⟨dx,ga,pa,MI,Nk,_⟩:=id Oq;refine⟨_,e0,x,dx,_,rfl,Nk,j3 (by decide +kernel),?_⟩;refine cat e2 e4 ht hl λH2 p S2 hp=>?_;show dE _ _ _;unfold dE;dsimp only [ZW];refine⟨x,p,kd,gs,r++[n],rfl,Oq.same S2,hp,λg hg=>by rw[hk g hg];simp;omega,λH3 S3=>?_⟩;rw[eR];exact z H3 (S2.trans S3)
 refine⟨Zo _,λt0 Tx=>?_⟩;have S0:au H (upd H t0 (.tup [])):=(au.refl H).laid Tx;refine cj (ag rfl) ?_;obtain⟨dx,ga,pa,MI,hx,hG,_⟩:=id hR;obtain⟨as,a0,hA,h0,hL,hm⟩:=hG.first o.ne
 have kh:=hk _ hm;obtain⟨Yt,SU,Py⟩:=hL;have l0:Yt.length=k:=(Paired.length Py).trans kh;refine n9 (λσ H'=>∃(t:Addr) (r:abA) (l:Nat) (v4 v5:Option V),σ=[some (.ref x),some (.int (i:Nat)),some (.ref t),some (.int (l:Nat)),v4,v5]/\au H H'/\H' t=some (.tup (nV r))/\r.length<=k/\rk R [] r+l=i/\l < pre R r) (II k)
  ⟨t0,[],i,none,none,rfl,S0,ae,Zo _,by rw[rk];omega,by rw[jD];exact hi⟩ ?_
 rintro σ H1 ⟨t,r,l,v4,v5,rfl,S1,ht,hl,e1,h1⟩;refine⟨_,ju (aU (ag rfl) (.inr (bY.of ht))) (aU (a6 (bb (ag rfl) (S1 _ _ hx) TR.cl (TR.no _ (by simp)) oU) aD (S1.seq hA) h0) (.inl (S1.seq SU))),λh=>?_,λh=>?_⟩
 . have h:=Ze h;rw[aL,YW,l0] at h;have RH:r.length < k:=by omega
   have hp:=E4 hO RH;refine cj aD ?_;refine Vf (n:=1) rfl rfl rfl S1 ht RH λH2 S2=>?_;refine n9 (λσ H'=>∃(j l2:Nat),σ=[some (.ref x),some (.int (i:Nat)),some (.ref t),some (.int (l2:Nat)),some (.int ((j+1:Nat):Int)),some (.int (pre R (r++[j+1]):Nat))]/\au H1 H'/\below R r j+l2=l)
    (λσ _=>match σ[4]? with|some (some (V.int z))=>25 - z.toNat|_=>0) ⟨0,l,rfl,S2,by simp[below]⟩ ?_
   rintro σ H3 ⟨j,l2,rfl,S3,e3⟩;have j24:j < 24:=by
    rcases Nat.lt_or_ge j 24 with z|z
    . exact z
    have:=DN (R:=R) (s:=r) z;omega
   refine⟨_,ju (ag rfl) (ag rfl),λh=>?_,λh=>?_⟩
   . have h:=Ze h;refine⟨_,rfl,_,rfl,_,_,rfl,rfl,⟨_,rfl,_,_,rfl,rfl,?_⟩⟩;have ea:(((j+1:Nat):Int))+1=((j+1+1:Nat):Int):=by omega
     have eb:((l2:Nat):Int) - (pre R (r++[j+1]):Nat)=((l2 - pre R (r++[j+1]):Nat):Int):=by omega
     dsimp only [List.set];rw[ea,eb];refine Vf (n:=j+1+1) rfl rfl rfl (S1.trans S3) (S3 _ _ ht) RH λH4 S4=>?_;refine⟨⟨j+1,l2 - pre R (r++[j+1]),rfl,S3.trans S4,by rw[rF];omega⟩,?_⟩;show 25 - (((j+1+1:Nat):Int)).toNat < 25 - (((j+1:Nat):Int)).toNat;omega
   have h:=ZE h;refine cat (n:=j+1) rfl rfl (S3 _ _ ht) RH λH4 p S4 RG=>?_;refine⟨⟨p,r++[j+1],l2,_,_,rfl,S1.trans (S3.trans S4),RG,by simp;omega,by rw[zQ];simp;omega,by omega⟩,?_⟩;rw[Am (t:=p) rfl RG,Am (t:=t) rfl ht,aL,aL,Zg];simp;omega
 have h:=ZE h;rw[aL,YW,l0] at h;have e:r.length=k:=by omega
 exact⟨_,rfl,q H1 t r S1 ht ⟨HV (λr hr=>(hO r hr).1) e (by omega),l,e1,h1⟩ e⟩
end
def jX (K:abB)(CB CP CR:Addr)(H:Hp)(x:Addr)(p:aK)(b:bQ):Prop:=∃dx pa sa ra,H x=some (.ins CB dx (qo (.ref pa) (.int (b.pool:Nat)) (.int (b.how:Nat)) (.int (b.stake:Nat)) (.ref sa) (.ref ra) (.int (countM p.kind (cb b.how) p.fields.length b.sets:Nat))))/\dA K CP H pa p/\lT H sa b.sets/\dX K CR H ra p.kind (dY p.kind (cb b.how) p.fields.length b.sets)/\b.stake<=1000000/\sy p b.how b.sets
section
variable {a b c d e r m:V}
def AO:(qo a b c d e r m).lookup ("pool":Str)=some a:=bK
def xE:(qo a b c d e r m).lookup ("stake":Str)=some d:=by unfold qo;rw[aS (by decide +kernel),aS (by decide +kernel),aS (by decide +kernel)];exact bK
def Bt:(qo a b c d e r m).lookup ("rows":Str)=some r:=by unfold qo;rw[aS (by decide +kernel),aS (by decide +kernel),aS (by decide +kernel),aS (by decide +kernel),aS (by decide +kernel)];exact bK
def tL:(qo a b c d e r m).lookup ("many":Str)=some m:=by unfold qo;rw[aS (by decide +kernel),aS (by decide +kernel),aS (by decide +kernel),aS (by decide +kernel),aS (by decide +kernel),aS (by decide +kernel)];exact bK
def FY (h:¬f∈tS):(qo a b c d e r m).lookup f=none:=pC h
end
def IT {σ:L2.St}{tb:TE}{i j:Int}(ha:Ev ta σ H (.int i))(hb:Ev tb σ H (.int j))(h:A0 i j):Ev (j_ (rI A0 λi j=>.int (i*j)) ta tb) σ H (.int (i*j)):=λ_ r=>ha _ (hb _ ⟨i,j,rfl,rfl,h,r⟩)
section
variable {K:abB}{CB CP CR CW:Addr}{H H':Hp}{a x:Addr}{p:aK}{b:bQ}
theorem jX.same (h:jX K CB CP CR H x p b) (e:au H H'):jX K CB CP CR H' x p b:=by obtain⟨dx,pa,sa,ra,h1,h2,h3,h5,h4⟩:=h;exact⟨dx,pa,sa,ra,e _ _ h1,h2.same e,h3.same e,h5.same e,h4⟩
end
section
def rC (K:abB) (CB CP CR:Addr):Sp:=λvs H Q _=>∃(x:Addr) (p:aK) (b:bQ),vs=[.ref x]/\jX K CB CP CR H x p b/\Q (.int ((b.stake:Int)*(countM p.kind (cb b.how) p.fields.length b.sets:Nat))) H
def Fb:aG ["self"] ["self"] (aw jn):=fs
def E2 {CR:Addr}(TB:CK K mg "Bet" tS CB){f:Addr}{fd:FuncData}(F:dj K "cost" "Bet.cost" jn f fd):a8 P w K mg MH bB 1 f fd ["self"] (rC K CB CP CR):=by refine F.oT Fb λMK A outer s H vs Q E hr h=>?_;obtain⟨x,p,b,rfl,⟨dx,pa,sa,ra,h1,_,_,_,h4,_⟩,q⟩:=h;refine⟨_,ak (aA (bD yj (aR (pv 0) rfl) (aR (pv 0) rfl))),?_⟩;exact (IT (bb (ag rfl) h1 TB.cl (TB.no _ (by simp)) xE) (bb (ag rfl) h1 TB.cl (TB.no _ (by simp)) tL) (.inl ⟨by omega,by omega⟩)) _ q
def xM (K:abB)(CW CF CB CP CR:Addr):Sp:=λvs H Q E=>∃(a b:Addr) (ps:List aK) (e:Nat) (l:List Word) (pl:Nat),vs=[.ref b,.ref a]/\aZ K CW H a e l pl/\da K CP H b ps/\(∀p∈ps,CQ p) /\
 (∀t,Ct e ps l=.error t->Rz CF E (t.kind:Nat) (t.place:Nat))/\(∀y,Ct e ps l=.ok y->∀H' x p,aN a H H'->jX K CB CP CR H' x p y->ps[y.pool]?=some p->Q (.ref x) H')
def gE:aG ["pools","words","pool_number","pool","stake","stake_place","how","how_place","sets","bet"] ["pools","words"] (aw gJ):=fs
def Gi {CR:Addr}(B:GB K mg aW)(T:CK K mg "Words" cD CW)(TP:CK K mg "Pool" gY CP)(TB:CK K mg "Bet" tS CB)(FL:Flt P w K mg MH CF){k:Nat}(hk:5<=k)
  (FO:nW P w K mg MH (fq P w CF) k CW "take_one_of" ["self","known"] (pM K CW CF))(Yu:Fn P w K mg MH (fq P w CF) k "take_pool" ["pools","words"] (vB K CW CF CP))(FS:Fn P w K mg MH (fq P w CF) k "take_stake" ["words","unit"] (vy K CW CF))
  (FH:Fn P w K mg MH (fq P w CF) k "take_how" ["words","pool"] (Dk K CW CF CP))(Yv:Fn P w K mg MH (fq P w CF) k "take_sets" ["words","pool","how"] (yt K CW CF CP))(FB:yi P w K mg MH bB 4 CB ["self","pool","pool_number","how","stake","sets","rows"] (yM K CB CR))
  (FF:nW P w K mg MH (fq P w CF) k CW "finish" ["self"] (C_ K CW CF))(FM:Fn P w K mg MH bB k "rows_of" ["pool","how","sets"] (zB K CP CR))(FC:nW P w K mg MH bB k CB "cost" ["self"] (rC K CB CP CR))
  {f:Addr}{fd:FuncData}(F:dj K "read_words" "read_words" gJ f fd):a8 P w K mg MH (fq P w CF) (k+1) f fd ["pools","words"] (xM K CW CF CB CP CR):=by
 refine F.mR gE λMK A outer s H vs Q E hr h=>?_;obtain⟨a,b,ps,e,l,pl,rfl,hW,NL,bw,q0,q1⟩:=h;refine⟨_,af (eJ (gc FO T.cl (pv 1) hr (bT aH rfl rfl) (aa (cn (aa bt ah)) ah)))
  (af (aT 2 gE.nd (aV Yu hr (bT aH rfl rfl) (aa (pv 0) (aa (pv 1) ah))))
  (af (aT 3 gE.nd (bh aM (pv 0) (pv 2) (λ_ _=>rfl)))
  (af (eJ (gc FO T.cl (pv 1) hr (bT aH rfl rfl) (aa (cn (aa bt ah)) ah)))
  (af (aT 4 gE.nd (aV FS hr (bT aH rfl rfl) (aa (pv 1) (aa (aR (pv 3) rfl) ah))))
  (af (aT 5 gE.nd (aR (pv 1) rfl))
  (af (aT 6 gE.nd (aV FH hr (bT aH rfl rfl) (aa (pv 1) (aa (pv 3) ah))))
  (af (aT 7 gE.nd (aR (pv 1) rfl))
  (af (aT 8 gE.nd (aV Yv hr (bT aH rfl rfl) (aa (pv 1) (aa (pv 3) (aa (pv 6) ah)))))
  (af (eJ (kY FF T.cl (pv 1) hr (bT aH rfl rfl)))
  (af (aT 9 gE.nd (rD FB (hr.mono hk) TB.mg aX (aa (pv 3) (aa (pv 2) (aa (pv 6) (aa (pv 4) (aa (pv 8) (aa (aV FM hr aX (aa (pv 3) (aa (pv 6) (aa (pv 8) ah)))) ah))))))))
  (af (aO (aB cy (aR (pv 9) rfl) ax (aI _)) (ak (gd FL aH (hr.mono (by omega)) (aa (bc B.comb) (aa (pv 7) ah)))) aC)
  (af (aO (aB lH (kY FC TB.cl (pv 9) hr aX) (bc B.cost) (aI _)) (ak (gd FL aH (hr.mono (by omega)) (aa (bc B.Lu) (aa (pv 5) ah)))) aC)
  (ak (aA (pv 9))))))))))))))),?_⟩
 obtain⟨d0,w0,m0,n0,Nb⟩:=hW.obj;unfold Ct at q0 q1;refine⟨_,rfl,a,d0,_,rfl,Nb,cF (by decide +kernel),(by show 1<=sizeLine;decide),λt ht=>?_⟩;have St:au H (upd H t (.tup [V.str (Str.ofString "bet")])):=(au.refl H).laid ht;show dE _ _ _;unfold dE;dsimp only [ZW];refine mM (s:="bet") (by decide +kernel) (hW.same St) (bY.of ae) (λy hy=>?_) (λm hm H1 v Yw S1 M_=>?_)
 . rw[hy] at q0;exact q0 _ rfl
 rw[hm] at q0 q1;have q0:∀t,KP e ps m=.error t->Rz CF E (t.kind:Nat) (t.place:Nat):=q0;have q1:∀y,KP e ps m=.ok y->_:=q1;have QF:aN a H H1:=St.x.trans S1;refine⟨_,rfl,_,rfl,a,b,ps,e,m,Yw,rfl,M_,da.jY NL QF Nb,λz=>?_,λwn r hl hn=>?_,λwn r i hl hi H2 S2 OK=>?_⟩
 . subst z;exact q0 ⟨3,e⟩ rfl
 . subst hl;refine q0 ⟨5,wn.at_⟩ ?_;show (match ej ps (tx wn.w) with
    |none=>(Except.error ⟨5,wn.at_⟩:Except Fault bQ)
    |some i=>match ps[i]? with
     |none=>.error ⟨5,wn.at_⟩|some p=>Df e i p r)=_
   rw[hn]
 subst hl;have PF:=QF.trans S2;have MQ:=yY hi;have eB:KP e ps (wn::r)=Df e i ps[i] r:=by
  show (match ej ps (tx wn.w) with
   |none=>(Except.error ⟨5,wn.at_⟩:Except Fault bQ)
   |some i=>match ps[i]? with
    |none=>.error ⟨5,wn.at_⟩|some p=>Df e i p r)=_
  rw[hi];show (match ps[i]? with
    |none=>(Except.error ⟨5,wn.at_⟩:Except Fault bQ)|some p=>Df e i p r)=_
  rw[Y6 MQ]
 rw[eB] at q0 q1;have hO:=bw _ (aaJ MQ);have Vg:∃(as:List Addr) (pa:Addr),aP K H b (as.map V.ref)/\as[i]?=some pa/\dA K CP H pa ps[i]:=by obtain⟨as,h1,h2⟩:=NL;obtain⟨pa,h3,h4⟩:=Paired.at2 h2 (Y6 MQ);exact⟨as,pa,h1,h3,h4⟩
 have Vh:ps[i]?=some ps[i]:=Y6 MQ;generalize ps[i]=p at q0 q1 hO Vg Vh;obtain⟨as,pa,hA,N8,Yx⟩:=Vg;have pool:∀{H'},aN a H H'->dA K CP H' pa p:=λS=>dA.jY Yx S Nb;refine cj (a6 (ag rfl) (ag rfl) (PF.seq Nb hA) (cz (by rw[Y1,N8];rfl))) ?_;unfold Df at q0 q1;obtain⟨d2,w2,m2,n2,QH⟩:=OK.obj;refine⟨_,rfl,a,d2,_,rfl,QH,cF (by decide +kernel),(by show 1<=sizeLine;decide),λt3 Yy=>?_⟩;have Vi:au H2 (upd H2 t3 (.tup [V.str (Str.ofString "for")])):=(au.refl H2).laid Yy;dsimp only [ZW];refine mM (s:="for") (by decide +kernel) (OK.same Vi) (bY.of ae) (λy hy=>?_) (λm3 Yz H3 v3 YA S3 PD=>?_)
 . rw[hy] at q0;exact q0 _ rfl
 rw[Yz] at q0 q1;have q0:∀t,JP e i p m3=.error t->Rz CF E (t.kind:Nat) (t.place:Nat):=q0;have q1:∀y,JP e i p m3=.ok y->_:=q1;have Vj:aN a H H3:=(PF.trans Vi.x).trans S3;obtain⟨dp,fap,Ro,MR⟩:=pool Vj;refine⟨_,rfl,(bb (ag rfl) Ro TP.cl (TP.no _ (by simp)) xP) _ ⟨a,p.unit,e,m3,YA,rfl,hO.unit,PD,λz=>?_,λws r4 hl hn=>?_,λws r4 hl hs H4 S4 Rw=>?_⟩⟩
 . subst z;exact q0 ⟨3,e⟩ rfl
 . subst hl;refine q0 ⟨4,ws.at_⟩ ?_;show (if fg p.unit (tx ws.w) then _ else _)=_;rw[YX (show ¬fg p.unit (tx ws.w) from hn)]
 subst hl;have eB:JP e i p (ws::r4)=Kw e i p (ay (tx ws.w)).toNat ws.at_ r4:=by show (if fg p.unit (tx ws.w) then _ else _)=_;rw[YY (show fg p.unit (tx ws.w) from hs)]
 rw[eB] at q0 q1;have Nm:ay (tx ws.w)=(((ay (tx ws.w)).toNat:Nat):Int):=by have:=hs.1;omega
 have NW:(ay (tx ws.w)).toNat<=1000000:=by have:=hs.2.1;omega
 generalize (ay (tx ws.w)).toNat=stake at q0 q1 Nm NW;rw[Nm];have Vk:=Vj.trans S4;obtain⟨d4,w4,m4,n4,Rv⟩:=Rw.obj;refine cj (bb (ag rfl) Rv T.cl (T.no _ (by simp)) bM) ?_;refine⟨_,rfl,_,rfl,a,pa,p,e,r4,ws.at_,rfl,Rw,pool Vk,λz=>?_,λwh r5 hl hn=>?_,λwh r5 how hl hh H5 S5 Vl=>?_⟩
 . subst z;exact q0 ⟨3,e⟩ rfl
 . subst hl;refine q0 ⟨3,wh.at_⟩ ?_;show (match jO p wh.w with
    |none=>(Except.error ⟨3,wh.at_⟩:Except Fault bQ)|some how=>xu e i how stake wh.at_ ws.at_ p (fW e p how r5))=_
   rw[hn]
 subst hl;have eB:Kw e i p stake ws.at_ (wh::r5)=xu e i how stake wh.at_ ws.at_ p (fW e p how r5):=by
  show (match jO p wh.w with
   |none=>(Except.error ⟨3,wh.at_⟩:Except Fault bQ)|some how=>xu e i how stake wh.at_ ws.at_ p (fW e p how r5))=_
  rw[hh]
 rw[eB] at q0 q1;have Vm:=Vk.trans S5;obtain⟨d5,w5,m5,n5,YB⟩:=Vl.obj;refine cj (bb (ag rfl) YB T.cl (T.no _ (by simp)) bM) ?_;have TZ:how=0\/cX p=true:=by
  unfold jO at hh;split at hh
  . exact .inl (Zw hh).symm
  split at hh
  . rename_i z;exact .inr z.2
  split at hh
  . rename_i z;exact .inr z.2
  cases hh
 refine⟨_,rfl,_,rfl,_,rfl,a,pa,p,how,e,r5,wh.at_,rfl,Vl,pool Vm,hO,λt ht=>?_,λsets r6 Vn H6 sa YC S6 QP Vo=>?_⟩
 . rw[ht] at q0;exact q0 t rfl
 rw[Vn] at q0 q1;have PJ:=Vm.trans S6;obtain⟨d6,w6,m6,n6,YD⟩:=Vo.obj;refine⟨_,rfl,a,d6,_,rfl,YD,cF (by decide +kernel),a,e,r6,YC,rfl,Vo,λwr r7 hl=>?_,λhl=>?_⟩
 . subst hl;exact q0 ⟨3,wr.at_⟩ rfl
 subst hl;have q0:∀t,Hw i how stake wh.at_ ws.at_ p sets=.error t->Rz CF E (t.kind:Nat) (t.place:Nat):=q0;have q1:∀y,Hw i how stake wh.at_ ws.at_ p sets=.ok y->_:=q1;unfold Hw at q0 q1;have hM:sy p how sets:=⟨hO,TZ,e,r5,[],Vn⟩;refine⟨_,rfl,_,rfl,_,rfl,_,rfl,_,rfl,_,rfl,_,rfl,_,rfl,pa,sa,p,how,sets,rfl,pool PJ,QP.lists,hM,λH7 ra S7 hR=>?_⟩;have Vp:aN a H H7:=PJ.trans S7.x;intro x dx hx Nq Rf;have Sn:au H7 (upd (upd H7 dx (.own x)) x (.ins CB dx [])):=((au.refl H7).laid Nq).laid hx;refine⟨x,dx,ra,_,_,_,_,_,p.kind,_,rfl,ae,hR.same Sn,λH8 SX QQ=>⟨rfl,?_⟩⟩;have QQ:H8 x=some (.ins CB dx (qo (.ref pa) (.int (i:Nat)) (.int (how:Nat)) (.int (stake:Nat)) (.ref sa) (.ref ra) (.int (countM p.kind (cb how) p.fields.length sets:Nat)))):=QQ;have S8:au H7 H8:=λb u z=>SX b u (Sn b u z) (ao z hx);have Vq:jX K CB CP CR H8 x p ⟨i,how,stake,sets⟩:=⟨dx,pa,sa,ra,QQ,(pool Vp).same S8,(QP.same S7).same S8,hR.same S8,NW,hM⟩;have YE:aN a H H8:=Vp.trans S8.x;refine aY (aJ (cx (bb (ag rfl) QQ TB.cl (TB.no _ (by simp)) tL) aD)) (λh=>?_) (λh=>?_)
 . rw[a_] at h;rw[YY (by have:=aam h;omega)] at q0;exact j4 (ag rfl) (q0 _ rfl)
 have YF:¬countM p.kind (cb how) p.fields.length sets=0:=λz=>by rw[z] at h;cases h
 rw[YX YF] at q0 q1;have YG:∀{σ:L2.St},σ[9]?=some (some (V.ref x))->Ev (qp CB "cost" (rC K CB CP CR) [] E0 (cf 9) λ_ H Q=>Q [] H) σ H8 (.int ((stake:Int)*(countM p.kind (cb how) p.fields.length sets:Nat))):=λz _ r =>⟨_,z,x,dx,_,rfl,QQ,FY (by decide +kernel),x,p,⟨i,how,stake,sets⟩,rfl,Vq,r⟩
 refine aY (ju (YG rfl) aD) (λh=>?_) (λh=>?_)
 . have h:=Ze h;have h:2147483647 < stake*countM p.kind (cb how) p.fields.length sets:=by
    have e1:((stake:Int)*(countM p.kind (cb how) p.fields.length sets:Int))=((stake*countM p.kind (cb how) p.fields.length sets:Nat):Int):=by rw[Int.natCast_mul]
    rw[e1] at h;omega
   rw[YY h] at q0;exact j4 (ag rfl) (q0 _ rfl)
 have h:=ZE h;have h:¬2147483647 < stake*countM p.kind (cb how) p.fields.length sets:=by
  have e1:((stake:Int)*(countM p.kind (cb how) p.fields.length sets:Int))=((stake*countM p.kind (cb how) p.fields.length sets:Nat):Int):=by rw[Int.natCast_mul]
  rw[e1] at h;omega
 rw[YX h] at q1;exact⟨_,rfl,q1 _ rfl H8 x p YE Vq Vh⟩
end
def iG (b:Bytes):abA:=b.map UInt8.toNat
def zk {b:Bytes}:10∈iG b↔(10:UInt8)∈b:=by
 unfold iG;rw[Zr]
 exact⟨λ⟨x,h1,h2⟩=>by have:x=10:=jV h2
                      rwa [<-this],λh=>⟨10,h,rfl⟩⟩
def rW (h:j<=xs.length):fY xs none (some (j:Int))=xs.take j:=by unfold fY;rw[HT.jq,HT.iP,aaR h];simp
section
def B4 (K:abB) (CF CB CP CR:Addr):Sp:=λvs H Q E=>∃(c b:Addr) (ps:List aK) (bs:Bytes),vs=[.ref b,.ref c]/\aP K H c (nV (iG bs))/\bs.length<=4096/\da K CP H b ps/\(∀p∈ps,CQ p) /\
 (∀t,dF ps bs=.error t->Rz CF E (t.kind:Nat) (t.place:Nat))/\(∀y,dF ps bs=.ok y->∀H' x p,au H H'->jX K CB CP CR H' x p y->ps[y.pool]?=some p->Q (.ref x) H')
def ua:aG ["pools","codes","line_end","line","bet"] ["pools","codes"] (aw jB):=fs
def Jo {CR:Addr}(G:GW mg)(B:GB K mg aW)(T:CK K mg "Words" cD CW)(FL:Flt P w K mg MH CF){k:Nat}(hk:2<=k)
  (FC:Fn P w K mg MH (fq P w CF) k "check_line" ["line"] (y9 K CF))(FR:Fn P w K mg MH (fq P w CF) k "read_words" ["pools","words"] (xM K CW CF CB CP CR))(FX:Fn P w K mg MH bB k "text_of" ["codes"] (uc K))(FW:yi P w K mg MH bB 1 CW ["self","line"] (qr K CW))
  {f:Addr}{fd:FuncData}(F:dj K "read_bet" "read_bet" jB f fd):a8 P w K mg MH (fq P w CF) (k+1) f fd ["pools","codes"] (B4 K CF CB CP CR):=by
 refine F.mR ua λMK A outer s H vs Q E hr h=>?_;obtain⟨c,b,ps,bs,rfl,hS,hlen,NL,bw,q0,q1⟩:=h;refine⟨_,af (aO (aB eZ (bc B.nl) (pv 1) (by with_unfolding_all rfl)) (ak (gd FL aH (hr.mono hk) (aa (bc B.ended) (aa (bf G.len (pv 1)) ah)))) aC)
  (af (aT 2 ua.nd (qw PySem.F.plainAttrs_list PySem.F.slot_list_index PySem.F.type_list_index DM (pv 1) (aa (bc B.nl) ah)))
  (af (aT 3 ua.nd (cT fO (pv 1) fQ (di (pv 2))))
  (af (eJ (aV FC hr (bT aH rfl rfl) (aa (pv 3) ah)))
  (af (aT 4 ua.nd (aV FR hr (bT aH rfl rfl) (aa (pv 0) (aa (rD FW (hr.mono hk) T.mg aX (aa (aV FX hr aX (aa (pv 3) ah)) ah)) ah))))
  (af (aO (aB mE (bD fb (pv 2) ax) (bf G.len (pv 1)) (aI _)) (ak (gd FL aH (hr.mono hk) (aa (bc B.more) (aa (bD fb (pv 2) ax) ah)))) aC)
  (ak (aA (pv 4)))))))),?_⟩
 have RI:(iG bs).length=bs.length:=by unfold iG;rw[YW]
 refine aY (aJ (ni aD (ag rfl) (.inl hS) rfl (gF _))) (λh=>?_) (λh=>?_)
 . have h:(!o4 (V.int 10) (nV (iG bs)))=true:=h;rw[oF,ZL,ZC] at h;have hn:¬(10:UInt8)∈bs:=λz=>h ⟨10,zk.mpr z,rfl⟩;have hu:upTo bs=none:=by
    cases hu:upTo bs with
    |none=>rfl|some x =>obtain⟨l,r⟩:=x;obtain⟨e,_⟩:=lq hu;exact absurd (by rw[e];simp) hn
   rw[yL hu] at q0;refine j4 (p:=(bs.length:Nat)) ?_ (q0 _ rfl);have:=aU (K:=K) (σ:=L2.start ["pools","codes","line_end","line","bet"] [V.ref b,V.ref c]) (H:=H) (ag (n:=1) rfl) (.inl hS);rw[aL,RI] at this;exact this
 have h:(!o4 (V.int 10) (nV (iG bs)))=false:=h;rw[oF,ZO,Y4] at h;have YH:(10:UInt8)∈bs:=by
  obtain⟨n,h1,h2⟩:=h;have:n=10:=by omega
  subst this;exact zk.mp h1
 cases hu:upTo bs with
 |none=>exact absurd YH (sM hu)|some x =>
 obtain⟨l,r⟩:=x;obtain⟨Vr,T7⟩:=lq hu;rw[xS hu] at q0 q1;have T8:nV (iG bs)=nV (iG l)++V.int 10::nV (iG r):=by rw[Vr];unfold nV iG;rw[Zd,Zd];rfl
 have YI:(nV (iG l)).length=l.length:=by rw[aL];unfold iG;rw[YW]
 have T9:bs.length=l.length+1+r.length:=by rw[Vr];simp;omega
 refine⟨_,rfl,.inl ⟨rfl,_,hS⟩,c,nV (iG bs),.int 10,l.length,.int 10,rfl,rfl,hS,rfl,gF _,?_,rfl,?_,?_⟩
 . rw[T8,abx (by omega),YI];simp
 . intro m z hm hz;rw[T8,List.getElem?_append_left (by omega)] at hz;unfold nV iG at hz;rw[Y1,Y1,Option.map_map] at hz;obtain⟨y,hy,rfl⟩:=Zu.mp hz
   have hny:¬y.toNat=10:=λq=>T7 (by have:y=10:=jV q
                                    rw[<-this];exact Zm hy)
   show ((y.toNat:Int)==10)=false;rw[Zq];omega
 refine⟨_,rfl,_,rfl,_,rfl,c,_,rfl,hS,λp hp=>?_⟩;rw[rW (by rw[aL,RI,T9];omega),T8,List.take_append_of_le_length (by omega),ZQ (by omega)];have S1:au H (upd H p (.lst (nV (iG l)))):=(au.refl H).laid hp;have e1:(upd H p (.lst (nV (iG l)))) p=some (.lst (nV (iG l))):=ae;generalize upd H p (.lst (nV (iG l)))=H1 at S1 e1;have Ot:badByte true 0 l=v8 (iG l):=Eh l;unfold Hd at q0 q1;rw[Ot] at q0 q1;refine⟨_,rfl,p,iG l,rfl,aP.of e1,λi hi=>?_,λhi H2 S2=>?_⟩
 . rw[hi] at q0;exact q0 ⟨2,i⟩ rfl
 rw[hi] at q0 q1 Ot;have q0:∀t,(match Ct l.length ps (wordsFrom 0 [] l) with
  |.error t=>(Except.error t:Except Fault bQ)|.ok x=>if r=[] then .ok x else .error ⟨8,l.length+1⟩)=.error t->Rz CF E (t.kind:Nat) (t.place:Nat):=q0
 have q1:∀y,(match Ct l.length ps (wordsFrom 0 [] l) with
  |.error t=>(Except.error t:Except Fault bQ)|.ok x=>if r=[] then .ok x else .error ⟨8,l.length+1⟩)=.ok y->_:=q1
 have Rq:=S1.trans S2;have RJ:(iG l).map sg=tx l:=by unfold iG tx;rw[Zk];rfl
 have hl4:l.length<=4096:=by omega
 refine⟨_,rfl,_,rfl,p,iG l,rfl,aP.of (S2 _ _ e1),by unfold iG;rw[YW];omega,λH3 S3=>?_⟩;rw[RJ];intro x dx hx Nq Rf;have YJ:(tx l).length=l.length:=iR l;refine⟨x,dx,tx l,rfl,ae,by omega,λH4 wl S4 N5 T_ O9=>⟨rfl,?_⟩⟩;have Ru:=Rq.trans S3;have Ua:au H H4:=λd o z=>by have z3:=Ru d o z;have n1:d≠x:=ao z3 hx;have n2:d≠dx:=ao z3 Nq;exact S4 d o (by rw[aq n1,aq n2];exact z3) n1
 have YK:H x=none:=by
  cases hz:H x with
  |none=>rfl|some o=>rw[Ru x o hz] at hx;cases hx
 have Ub:∀c∈tx l,c < 128:=λc hc=>by unfold tx at hc;obtain⟨d,_,rfl⟩:=Zr.mp hc;exact Hg _
 have Uc:nY (a7 32 [] (tx l)):=by
  have h3:=fG 32 (tx l) [];refine⟨by omega,λv hv=>?_⟩;obtain⟨z1,z2⟩:=eQ 32 (tx l) [] v hv;refine⟨by simp at z1;omega,λc hc=>?_⟩;rcases z2 c hc with z|z
  . simp at z
  exact Ub c z
 have Pd:=(words_of l [] 0 0 (Y5 _) Ot).2;have YL:aZ K CW H4 x l.length (wordsFrom 0 [] l) 0:=by
  refine⟨dx,wl,a7 32 [] (tx l),0,0,?_,aP.of T_,⟨Uc,lj 32 _ []⟩,Zo _,?_,Pd⟩
  . rw[O9,YJ]
  rw[rO 0 Ot];rfl
 have Ud:da K CP H4 b ps:=by obtain⟨as,h1,h2⟩:=NL;exact⟨as,Ua.seq h1,qd h2 Ua⟩
 refine⟨x,b,ps,l.length,wordsFrom 0 [] l,0,rfl,YL,Ud,bw,λt ht=>?_,λy hy H5 xb pp S5 hB OO=>?_⟩
 . rw[ht] at q0;exact q0 t rfl
 rw[hy] at q0 q1;have q0:∀t,(if r=[] then (Except.ok y:Except Fault bQ) else .error ⟨8,l.length+1⟩)=.error t->Rz CF E (t.kind:Nat) (t.place:Nat):=q0;have q1:∀y',(if r=[] then (Except.ok y:Except Fault bQ) else .error ⟨8,l.length+1⟩)=.ok y'->_:=q1;have Vs:au H H5:=λd o z=>S5 d o (Ua d o z) (ao z YK);refine aY (ju (j7 (ag rfl) aD) (aU (ag rfl) (.inl (Vs.seq hS)))) (λh=>?_) (λh=>?_)
 . rw[aL,RI,T9] at h;have h:=Ze h;rw[YX (λz=>by rw[z] at h;simp at h)] at q0;have e8:((l.length+1:Nat):Int)=(l.length:Int)+1:=by omega
   have q8:=q0 _ rfl;dsimp only at q8;rw[e8] at q8;exact j4 (j7 (ag rfl) aD) q8
 rw[aL,RI,T9] at h;have h:=ZE h;rw[YY (aaI.mp (by omega))] at q1;exact⟨_,rfl,q1 _ rfl H5 xb pp Vs hB OO⟩
end
end Bw
namespace L2
def zF (K:abB)(H:Hp):Prop:=∀b o,K.lookup b=some o->H b=none
def B0 (K:abB):V->List V->Hp->VK->Prop:=λx vs H Q=>∃l xs y,x=.ref l/\vs=[y]/\H l=some (.lst xs)/\xs.length < sizeLine/\(zF K H->Q .cv (upd H l (.lst (xs++[y]))))
def xC:Mg X "list.append" (B0 X.K):=by intro MG s σ H x vs v us Q I rx rv h;obtain⟨l,xs,y,e1,e2,hH,hz,q⟩:=h;exact i_ MG s σ H x vs v us Q I rx rv ⟨l,xs,y,e1,e2,hH,hz,q λb o hb=>(I.bs b o (I.ok.mod.GZ _ _ hb)).2⟩
end L2
namespace Bw
open L2 Tote
section
variable {K:abB}{H:Hp}{c fo a x:Addr}{ys zs:List V}{o:HO}{xs:List Addr}
def xx (h:aP K H c ys) (hf:H fo=some (.lst zs)) (ne:ys≠zs):aP K (upd H fo o) c ys:=by
 rcases h with (h|⟨u,h⟩)|h
 . exact .inl (.inl (by rw[aq (dQ h hf (by intro z;cases z;exact ne rfl))];exact h))
 . exact .inl (.inr ⟨u,by rw[aq (dQ h hf (by intro z;cases z))];exact h⟩)
 exact .inr h
def IW (hK:zF K H)(h:aP K H c ys){C dx:Addr}{fs:List (Str×V)}(hi:H c=some (.ins C dx fs)):False:=by
 rcases h with (h|⟨u,h⟩)|⟨u,_,_,h,_⟩
 . rw[hi] at h;cases h
 . rw[hi] at h;cases h
 rw[hK _ _ h] at hi;cases hi
def LZ (H:Hp)(xs:List Addr):Prop:=∀x∈xs,∃C dx fs,H x=some (.ins C dx fs)
def zq (h:s≠[]):nV s≠xs.map V.ref:=λe=>by
 cases s with
 |nil=>exact h rfl
 |cons n s =>
  cases xs with
  |nil=>cases e|cons x xs=>cases e
def uW {bs:List Addr}(ne:bs≠[])(hK:zF K H)(hG:∀b∈bs,∃ys,aP K H b ys)(hi:LZ H xs):bs.map V.ref≠xs.map V.ref:=λe=>by
 cases bs with
 |nil=>exact ne rfl
 |cons b bs =>
  cases xs with
  |nil=>cases e|cons x xs =>injection e with e1 e2;injection e1 with e1;subst e1;obtain⟨ys,h⟩:=hG b (by simp);obtain⟨C,dx,fs,hx⟩:=hi b (by simp);exact IW hK h hx
theorem gW {α β:Type}{F:α->β->Prop}{G:α->Prop}(k:∀a b,F a b->G a):∀{l:List α} {m:List β},Paired F l m->∀a∈l,G a
 |_,_,.nil,_,h=>by cases h
 |_,_,.cons h t,a,hm=>by
  rcases Y0.mp hm with rfl|hm
  . exact k _ _ h
  exact gW k t a hm
theorem kQ {α β:Type}{F G:α->β->Prop}:∀{l:List α} {m:List β},Paired F l m->(∀a b,b∈m->F a b->G a b)->Paired G l m
 |_,_,.nil,_=>.nil|_,_,.cons h t,k=>.cons (k _ _ (by simp) h) (kQ t λa b hb z=>k a b (by simp[hb]) z)
def oE {β:Type}{F:α->β->Prop}{l:List α}{m:List β}(h:Paired F l m)(n:m≠[]):l≠[]:=λe=>by subst e;cases h;exact n rfl
variable (hK:zF K H)(hf:H fo=some (.lst (xs.map V.ref)))(hi:LZ H xs)
include hK hf hi
def sL {g:abz}(h:bG K H a g)(ne:g≠[])(hs:∀s∈g,s≠[]):bG K (upd H fo o) a g:=by obtain⟨as,h1,h2⟩:=h;exact⟨as,xx h1 hf (uW (oE h2 ne) hK (gW (λ_ _ z=>⟨_,z⟩) h2) hi),kQ h2 λ_ s m z=>xx z hf (zq (hs s m))⟩
def AR {gs:List (abz)}(h:dJ K H a gs)(ne:gs≠[])(hs:∀g∈gs,g≠[]/\∀s∈g,s≠[]):dJ K (upd H fo o) a gs:=by obtain⟨as,h1,h2⟩:=h;exact⟨as,xx h1 hf (uW (oE h2 ne) hK (gW (λ_ _ ⟨_,z,_⟩=>⟨_,z⟩) h2) hi),kQ h2 λ_ g m z=>sL hK hf hi z (hs g m).1 (hs g m).2⟩
def Ad {CR:Addr}{p:aK}{y:bQ}(h:jX K CB CP CR H x p y):jX K CB CP CR (upd H fo o) x p y:=by
 obtain⟨dx,pa,sa,ra,h1,⟨dp,fa,h2,h3⟩,⟨as,h4,h5⟩,⟨dr,ga,qa,MI,h6,h7,h8,h9,RP⟩,RR,m⟩:=h;have ins:∀{b C d:Addr} {fs:List (Str×V)},H b=some (.ins C d fs)->(upd H fo o) b=some (.ins C d fs):=λz=>by rw[aq (dQ z hf (by intro z;cases z))];exact z
 have YM:y.sets≠[]:=λz=>by
  obtain⟨_,m0,m1,m2⟩:=m.all;have pos:0 < p.fields.length:=ZY.mpr m.ok.ne;by_cases z0:y.how=0
  . have:=(m0 z0).1;rw[z] at this;have:0=p.fields.length:=this;omega
  by_cases z1:y.how=1
  . obtain⟨t,e,_⟩:=m1 z1;rw[e] at z;cases z
  obtain⟨t,u,e,_⟩:=m2 z0 z1;rw[e] at z;cases z
 refine⟨dx,pa,sa,ra,ins h1,⟨dp,fa,ins h2,sL hK hf hi h3 m.ok.ne m.LN⟩,⟨as,?_,kQ h5 λb s hm z=>?_⟩,⟨dr,ga,qa,MI,ins h6,AR hK hf hi h7 h8.ne m.Mv,h8,?_,RP⟩,RR,m⟩
 . rw[aq (dQ h4 hf (by
    intro z;injection z with z;exact uW (oE h5 YM) hK (gW (λ_ _ z=>⟨_,aP.of z⟩) h5) hi z))]
   exact h4
 . rw[aq (dQ z hf (by intro q;injection q with q;exact zq (m.all.1 s hm).1 q))];exact z
 rw[aq (dQ h9 hf (by intro z;cases z))];exact h9
end
structure GD (mg:abD):Prop where
 long:Gv mg "TOO_LONG" (.int (-2))
 IV:Gv mg "FAULTY_BET" (.int (-6))
 HY:Gv mg "NO_CARD" (.int (-8))
 KR:Gv mg "MOST_CARD" (.int 65536)
 JL:Gv mg "MOST_BET" (.int 4096)
def GG {zs:List Int}:fY (zs.map V.int) none (some ((1:Nat):Int))=(zs.take 1).map V.int:=by unfold fY;rw[HT.jq,HT.iP];cases zs <;> simp
def readAll (ps:List aK):List Bytes->Except Fault (List bQ)
 |[]=>.ok []
 |b::bs=>match dF ps b with
  |.error f=>.error f
  |.ok y=>match readAll ps bs with
   |.error f=>.error f|.ok ys=>.ok (y::ys)
theorem ka {ps:List aK}:∀{l m:List Bytes} {ys:List bQ},readAll ps l=.ok ys->readAll ps (l++m)=match readAll ps m with
  |.error f=>.error f|.ok zs=>.ok (ys++zs)
 |[],m,ys,h=>by
  injection h with h;subst h;cases h2:readAll ps m with
  |error f=>exact h2|ok zs=>exact h2
 |b::l,m,ys,h=>by
  show (match dF ps b with
   |.error f=>(Except.error f:Except Fault (List bQ))
   |.ok y=>match readAll ps (l++m) with
    |.error f=>.error f|.ok ys=>.ok (y::ys))=_
  have h:(match dF ps b with
   |.error f=>(Except.error f:Except Fault (List bQ))
   |.ok y=>match readAll ps l with
    |.error f=>.error f|.ok ys=>.ok (y::ys))=.ok ys:=h
  cases hb:dF ps b with
  |error f=>rw[hb] at h;cases h
  |ok y =>
   rw[hb] at h;cases hl:readAll ps l with
   |error f=>rw[hl] at h;cases h
   |ok xs =>
    rw[hl] at h;injection h with h;subst h;show (match readAll ps (l++m) with
     |.error f=>(Except.error f:Except Fault (List bQ))|.ok ys=>.ok (y::ys))=_
    rw[ka hl];cases readAll ps m <;> rfl
def oQ {ps:List aK}{b:Bytes}:readAll ps [b]=match dF ps b with
  |.error f=>.error f|.ok y=>.ok [y]:=by
 show (match dF ps b with
   |.error f=>(Except.error f:Except Fault (List bQ))|.ok y=>.ok [y])=_
 cases dF ps b <;> rfl
def lr (t:Bytes)(bs:List Bytes):Except (List Int) (List bQ):=if 65536 < t.length\/(bs.any λb=>decide (4096 < b.length))=true then .error [-2] else match dU (tx t) with
 |none=>.error [-8]
 |some ps=>match readAll ps bs with
  |.error f=>.error [-6,(f.kind:Nat),(f.place:Nat)]|.ok ys=>.ok ys
def vW {t b:Bytes}:lr t [b]=match gf t b with
  |.error z=>.error z|.ok y=>.ok [y]:=by
 unfold lr gf;have e:([b].any λb=>decide (4096 < b.length))=true↔4096 < b.length:=by simp
 rw[jr (p:=65536 < t.length\/([b].any λb=>decide (4096 < b.length))=true) (q:=65536 < t.length\/4096 < b.length) ⟨λh=>h.imp id e.mp,λh=>h.imp id e.mpr⟩];by_cases h:65536 < t.length\/4096 < b.length
 . rw[YY h,YY h]
 rw[YX h,YX h];cases dU (tx t) with
 |none=>rfl
 |some ps =>
  show (match readAll ps [b] with
   |.error f=>(Except.error [-6,((f.kind:Nat):Int),((f.place:Nat):Int)]:Except (List Int) (List bQ))|.ok ys=>.ok ys)=_
  rw[oQ];show _=(match (match dF ps b with
   |.error f=>(Except.error [-6,((f.kind:Nat):Int),((f.place:Nat):Int)]:Except (List Int) bQ)|.ok y=>.ok y) with
   |.error z=>(Except.error z:Except (List Int) (List bQ))|.ok y=>.ok [y])
  cases dF ps b <;> rfl
section
def z_ {N:List Str}{f:Addr}{cd:Value}{s:Shared}:nO (ot CX P w K mg MH N qual scope f cd A outer s H E).Je:=⟨rfl,rfl,rfl,rfl⟩
def uZ (K:abB)(CB CP CR:Addr)(ps:List aK)(H:Hp)(x:Addr)(y:bQ):Prop:=∃p,jX K CB CP CR H x p y/\ps[y.pool]?=some p
def vn (K:abB)(CB CP CR:Addr):Sp:=λvs H Q _=>∃(c d:Addr) (ds:List Addr) (t:Bytes) (bs:List Bytes),vs=[.ref c,.ref d]/\aP K H c (nV (iG t))/\aP K H d (ds.map V.ref)/\Paired (λa b=>aP K H a (nV (iG b))) ds bs/\bs.length<=2 /\
 (∀zs,lr t bs=.error zs->∀H' T L F,H' T=some (.tup [.ref L,.ref F])->H' L=some (.lst (zs.map V.int))->H' F=some (.lst [])->Q (.ref T) H') /\
 (∀ys,lr t bs=.ok ys->∀H' T L F xs ps,H' T=some (.tup [.ref L,.ref F])->H' L=some (.lst [])->H' F=some (.lst (xs.map V.ref))->Paired (uZ K CB CP CR ps H') xs ys->dU (tx t)=some ps->Q (.ref T) H')
def gT:aG ["card","bets","bet","pools","found","fault"] ["card","bets"] (aw fJ):=fs
def C4 {CR:Addr}(Ue:∀t ps,dU (tx t)=some ps->∀p∈ps,CQ p)(G:GW mg)(B:GB K mg aW)(D:GD mg)(Z:qP K CF N fI)(hF:mg "Fault"=some (.ref CF)){k:Nat}
  (FC:Fn P w K mg MH bB k "read_card" ["codes"] (yc K CP))(FB:Fn P w K mg MH (fq P w CF) k "read_bet" ["pools","codes"] (B4 K CF CB CP CR))
  {f:Addr}{fd:FuncData}(F:dj K "look_at_all" "look_at_all" fJ f fd):a8 P w K mg MH bB (k+1) f fd ["card","bets"] (vn K CB CP CR):=by
 refine F.Ln gT (λvs H Q E h=>?_) (λMK A outer s H vs Q E hr h=>?_)
 . obtain⟨_,_,_,_,_,rfl,_⟩:=h;rfl
 obtain⟨c,d,ds,t,bs,rfl,hC,hD,hP,h2,q0,q1⟩:=h
 refine⟨_,i8 (PS.zero (aO (PW.pt (fh (aB lH (bf G.len (pv 0)) (bc D.KR) (aI _)) (cY (iL (b7 (Cf rfl) (by rfl) B.any (by decide +kernel) (aa (fX (te:=j_ (rY λi j=>.bl (decide (j < i))) (Hn (λxs H Q=>∃p ys,xs=[.ref p]/\(aP K H p ys\/bY K H p ys)/\Q (.int ys.length) H) (cg (cf 2) dE)) (tC (.int 4096))) rfl gT.nd (bJ (pv 1)) (bC (own:=[("bet",2)]) rfl)
       (λ_ _ _ _ _=>bq 2 gT.nd) (λ_ _ _ _ _=>cC) (λ_ _ _ _ _=>fL lH (bf G.len (pv 2)) (bc D.JL) (aI _))) ah))))))
   (ak (aA (cn (aa (bU (aa (bc D.long) ah)) (aa (bU ah) ah))))) aC))
  (i8 (PS.zero (aT 3 gT.nd (aV FC hr aX (aa (pv 0) ah))))
  (i8 (PS.zero (aO (aB uU (pv 3) cO (aI _)) (ak (aA (cn (aa (bU (aa (bc D.HY) ah)) (aa (bU ah) ah))))) aC))
  (i8 (PS.zero (aT 4 gT.nd (bU ah)))
  (i8 (E5 ZZ rfl (bJ (pv 1)) (bq 2 gT.nd)
    (Ib (i:=5) (R:=λk p=>∃ps y,dU (tx t)=some ps/\readAll ps bs=.error y/\k=(y.kind:Nat)/\p=(y.place:Nat)) z_ Z (by rfl) hF gT.nd rfl rfl
     (ak (eJ (qw PySem.F.plainAttrs_list PySem.F.slot_list_append PySem.F.type_list_append xC (pv 4) (aa (aV FB hr (bT z_ rfl rfl) (aa (pv 3) (aa (pv 2) ah))) ah))))
     (λ_=>ak (aA (cn (aa (bU (aa (bc D.IV) (aa (Al Z Z.fK (pv 5) rfl) (aa (Al Z Z.fP (pv 5) rfl) ah)))) (aa (bU ah) ah)))))))
  (sh.zero (ak (aA (cn (aa (bU ah) (aa (pv 4) ah)))))))))),?_⟩
 have NU:ds.length=bs.length:=Paired.length hP;have tl:(iG t).length=t.length:=by unfold iG;rw[YW]
 have bl:∀b:Bytes,(iG b).length=b.length:=λb=>by unfold iG;rw[YW]
 have RJ:(iG t).map sg=tx t:=by unfold iG tx;rw[Zk];rfl
 have no:∀(zs:List Int) (H1:Hp) (L:Addr),lr t bs=.error zs->H1 L=none->∀F,(upd H1 L (.lst (zs.map V.int))) F=none->∀T,(upd (upd H1 L (.lst (zs.map V.int))) F (.lst [])) T=none->Q (.ref T) (upd (upd (upd H1 L (.lst (zs.map V.int))) F (.lst [])) T (.tup [.ref L,.ref F])):=λzs H1 L e hL F hF T hT=>by
  have nF:L≠F:=λz=>by rw[<-z,ae] at hF;cases hF
  have nT:L≠T:=λz=>by rw[<-z,aq nF,ae] at hT;cases hT
  have YN:F≠T:=λz=>by rw[<-z,ae] at hT;cases hT
  exact q0 zs e _ T L F ae (by rw[aq nT,aq nF];exact ae) (by rw[aq YN];exact ae)
 unfold lr at no q1;refine (ju (aU (ag rfl) (.inl hC)) aD) _ ?_;rw[aL,tl];refine gS (λh=>?_) (λh=>?_)
 . have h:65536 < t.length:=by have:=Ze h;omega
   rw[YY (.inl h)] at no;exact rN ⟨by show 1<=sizeLine;decide,λL hL=>⟨Zo _,λF hF=>⟨by show 2<=sizeLine;decide,λT hT=>no [-2] _ L rfl hL F hF T hT⟩⟩⟩
 have h1:¬65536 < t.length:=λz=>h (Zy (by omega));refine⟨_,rfl,d,rfl,⟨_,hD⟩,λD0 Oh=>pj (K:=K) (a:=d) (xs:=ds.map V.ref) (λi y _=>∃b,bs[i]?=some b/\y=.bl (decide (4096 < b.length))) (λi y H H' _ z=>z) hD Oh (by rw[YW,NU];omega) ?_ ?_⟩
 . rintro i v H' hi S _ R hR;obtain⟨ai,M7,rfl⟩:=jZ hi;obtain⟨b,hb,hI⟩:=Paired.sf hP M7;refine⟨rfl,_,rfl,ai,_,rfl,.inl (S.seq hI),_,_,rfl,rfl,hR _ _ (au.refl _) ⟨b,hb,?_⟩⟩;rw[aL,bl];show V.bl (decide _)=V.bl (decide _);congr 1;rw[aaE];omega
 rintro ys H1 S1 e1 l1 f1;have ey:ys=(bs.map λb=>decide (4096 < b.length)).map V.bl:=by refine xt (by rw[l1];simp[NU]) λi y hy=>?_;obtain⟨b,hb,rfl⟩:=f1 i y hy;rw[Y1,Y1,hb];rfl
 subst ey;refine⟨D0,_,rfl,aP.of e1,_,rfl,?_⟩;have ea:(bs.map λb=>decide (4096 < b.length)).any id=bs.any λb=>decide (4096 < b.length):=by rw[abb];rfl
 rw[ea];refine gS (λh=>?_) (λh=>?_)
 . rw[YY (.inr h)] at no;exact⟨by show 1<=sizeLine;decide,λL hL=>⟨Zo _,λF hF=>⟨by show 2<=sizeLine;decide,λT hT=>no [-2] _ L rfl hL F hF T hT⟩⟩⟩
 rw[YX λz=>z.elim h1 h] at no q1;have small:∀b∈bs,b.length<=4096:=λb hb=>by have:¬4096 < b.length:=λz=>h (aav.mpr ⟨b,hb,Zy z⟩);omega
 refine⟨_,rfl,c,iG t,rfl,S1.seq hC,by omega,λhn H2 S2=>?_,λps N9 H2 x S2 NL=>?_⟩
 . rw[RJ] at hn;rw[hn] at no;refine aY (aJ (uj (ag rfl))) (λh=>?_) (λh=>absurd h (by decide));exact⟨by show 1<=sizeLine;decide,λL hL=>⟨Zo _,λF hF=>⟨by show 2<=sizeLine;decide,λT hT=>no [-8] _ L rfl hL F hF T hT⟩⟩⟩
 rw[RJ] at N9;rw[N9] at no q1;have no:∀(zs:List Int) (H1:Hp) (L:Addr),(match readAll ps bs with
  |.error f=>(Except.error [-6,((f.kind:Nat):Int),((f.place:Nat):Int)]:Except (List Int) (List bQ))|.ok ys=>.ok ys)=.error zs->_:=no
 have q1:∀ys,(match readAll ps bs with
  |.error f=>(Except.error [-6,((f.kind:Nat):Int),((f.place:Nat):Int)]:Except (List Int) (List bQ))|.ok ys=>.ok ys)=.ok ys->_:=q1
 refine aY (aJ (uj (ag rfl))) (λh=>absurd (Ze h) (by intro z;cases z)) (λh=>?_);refine⟨Zo _,λfo Q9=>?_⟩;have SH:au H H2:=S1.trans S2;have Sf:au H2 (upd H2 fo (.lst [])):=(au.refl H2).laid Q9;refine⟨_,rfl,d,rfl,⟨_,(SH.trans Sf).seq hD⟩,dm (K:=K) (a:=d) (xs:=ds.map V.ref) (λi σ H'=>∃(v2:Option V) (xs:List Addr) (ys:List bQ),σ=[some (.ref c),some (.ref d),v2,some (.ref x),some (.ref fo),none]/\au H2 H'/\H' fo=some (.lst (xs.map V.ref))/\readAll ps (bs.take i)=.ok ys/\Paired (uZ K CB CP CR ps H') xs ys)
  ⟨none,[],[],rfl,Sf,ae,rfl,.nil⟩ (λi σ H' _ ⟨_,_,_,_,S,_⟩=>(SH.trans S).seq hD) ?_ ?_⟩
 . rintro i v σ H3 hi ⟨v2,xs,ys,rfl,S3,e3,r3,RK⟩;obtain⟨ai,M7,rfl⟩:=jZ hi;obtain⟨b,hb,hI⟩:=Paired.sf hP M7;have MQ:i < bs.length:=(Y9.mp hb).1;have hs:=small b (Zm hb);have ed:bs=bs.take i++b::bs.drop (i+1):=by
    rw[<-(Y9.mp hb).2,List.getElem_cons_drop,List.take_append_drop]
   refine⟨?_,?_⟩
   . refine⟨_,rfl,.inl ⟨rfl,_,aP.of e3⟩,_,rfl,_,rfl,ai,x,ps,b,rfl,(SH.trans S3).seq hI,hs,NL.same S3,Ue t ps N9,λy hy=>JX ⟨ps,y,N9,?_,rfl,rfl⟩,λy hy H4 xb p S4 YO OO=>?_⟩
     . rw[ed,ka r3];show (match (match dF ps b with
        |.error f=>(Except.error f:Except Fault (List bQ))
        |.ok y=>match readAll ps (bs.drop (i+1)) with
         |.error f=>.error f|.ok ys=>.ok (y::ys)) with
        |.error f=>(Except.error f:Except Fault (List bQ))|.ok zs=>.ok (ys++zs))=_
       rw[hy]
     have lx:xs.length<=2:=by
      have z1:=Paired.length RK;have z2:∀{l:List Bytes} {zs:List bQ},readAll ps l=.ok zs->zs.length=l.length:=λ{l}=>by
       induction l with
       |nil=>intro zs h;injection h with h;subst h;rfl
       |cons b l ih =>
        intro zs h;have h:(match dF ps b with
         |.error f=>(Except.error f:Except Fault (List bQ))
         |.ok y=>match readAll ps l with
          |.error f=>.error f|.ok ys=>.ok (y::ys))=.ok zs:=h
        cases hb:dF ps b with
        |error f=>rw[hb] at h;cases h
        |ok y =>
         rw[hb] at h;cases hl:readAll ps l with
         |error f=>rw[hl] at h;cases h|ok xs =>rw[hl] at h;injection h with h;subst h;rw[Y7,Y7,ih hl]
      have z3:=z2 r3;rw[Zh] at z3;omega
     refine⟨fo,_,_,rfl,rfl,S4 _ _ e3,by rw[YW,Zl];omega,λhK=>⟨some (.ref ai),xs++[xb],ys++[y],rfl,?_,by rw[ae,Zd];rfl,?_,?_⟩⟩
     . intro b' u z;rw[aq (ao z Q9)];exact S4 b' u (S3 b' u z)
     . rw[take_snoc hb,ka r3,oQ,hy]
     have old:Paired (uZ K CB CP CR ps H4) xs ys:=Paired.eV RK λ_ _ ⟨p,z1,z2⟩=>⟨p,z1.same S4,z2⟩;have hi:LZ H4 xs:=gW (λ_ _ ⟨p,⟨dx,_,_,_,z,_⟩,_⟩=>⟨_,dx,_,z⟩) old;exact hU (Paired.eV old λ_ _ ⟨p,z1,z2⟩=>⟨p,Ad hK (S4 _ _ e3) hi z1,z2⟩) (.cons ⟨p,Ad hK (S4 _ _ e3) hi YO,OO⟩ .nil)
   rintro σ' H' a dx k' p' ⟨ps',y,h1,h2,rfl,rfl⟩ hσ ha Nq;rw[N9] at h1;injection h1 with h1;subst h1;rw[h2] at no;refine⟨_,hσ,a,dx,_,_,rfl,ha,Nq,bK,_,hσ,a,dx,_,_,rfl,ha,Nq,(aS (by decide +kernel)).trans bK,by show 3<=sizeLine;decide,λL hL=>⟨Zo _,λF hF=>⟨by show 2<=sizeLine;decide,λT hT=>?_⟩⟩⟩;exact no [-6,((y.kind:Nat):Int),((y.place:Nat):Int)] _ L rfl hL F hF T hT
 rintro σ H3 ⟨v2,xs,ys,rfl,S3,e3,r3,RK⟩;rw[YW,NU,ZR] at r3;rw[r3] at q1;refine⟨Zo _,λL hL=>⟨_,rfl,by show 2<=sizeLine;decide,λT hT=>?_⟩⟩;have S4:au H3 (upd H3 L (.lst [])):=(au.refl H3).laid hL;have S5:au (upd H3 L (.lst [])) (upd (upd H3 L (.lst [])) T (.tup [.ref L,.ref fo])):=(au.refl _).laid hT;exact q1 ys rfl _ T L fo xs ps ae (S5 _ _ ae) (S5 _ _ (S4 _ _ e3)) (Paired.eV RK λ_ _ ⟨p,z1,z2⟩=>⟨p,z1.same (S4.trans S5),z2⟩) rfl
def yK (K:abB)(CB CP CR:Addr):Sp:=λvs H Q _=>∃(c d:Addr) (t b:Bytes),vs=[.ref c,.ref d]/\aP K H c (nV (iG t))/\aP K H d (nV (iG b)) /\
 (∀zs,gf t b=.error zs->∀H' T L,H' T=some (.tup [.ref L,.cv])->H' L=some (.lst (zs.map V.int))->Q (.ref T) H') /\
 (∀y,gf t b=.ok y->∀H' T L x p,H' T=some (.tup [.ref L,.ref x])->jX K CB CP CR H' x p y->(∃ps,dU (tx t)=some ps/\ps[y.pool]?=some p)->Q (.ref T) H')
def vg:aG ["card","bet","refusal","found"] ["card","bet"] (aw kK):=fs
def Ef {CR:Addr}(G:GW mg){k:Nat}(FA:Fn P w K mg MH bB k "look_at_all" ["card","bets"] (vn K CB CP CR)){f:Addr}{fd:FuncData}(F:dj K "look_at" "look_at" kK f fd):a8 P w K mg MH bB (k+1) f fd ["card","bet"] (yK K CB CP CR):=by
 refine F.oT vg λMK A outer s H vs Q E hr h=>?_;obtain⟨c,d,t,b,rfl,hC,hB,q0,q1⟩:=h;refine⟨_,af (CO (aV FA hr aX (aa (pv 0) (aa (bU (aa (pv 1) ah)) ah))) (lR rfl (cp (bq 2 vg.nd) (cp (bq 3 vg.nd) jl))))
  (af (aO (aB cy (bf G.len (pv 3)) ax (aI _)) (ak (aA (cn (aa (pv 2) (aa cO ah))))) aC)
  (ak (aA (cn (aa (pv 2) (aa (bh aM (pv 3) ax (λ_ _=>rfl)) ah)))))),?_⟩
 refine⟨_,rfl,_,rfl,by show 1<=sizeLine;decide,λl hl=>?_⟩;have Sl:au H (upd H l (.lst [V.ref d])):=(au.refl H).laid hl;have e1:=vW (t:=t) (b:=b);refine⟨c,l,[d],t,[b],rfl,Sl.seq hC,aP.of ae,.cons (Sl.seq hB) .nil,by show 1<=2;decide,λzs hz H' T L F hT hL hF=>?_,λys hy H' T L F xs ps hT hL hF hP N9=>?_⟩
 . refine⟨T,_,rfl,bY.of hT,rfl,_,_,rfl,_,_,rfl,rfl,?_⟩;refine aY (aJ (cx (aU (ag rfl) (.inl (aP.of hF))) aD)) (λh=>?_) (λh=>absurd h (by decide));rw[e1] at hz;cases hm:gf t b with
   |ok y=>rw[hm] at hz;cases hz|error z =>rw[hm] at hz;injection hz with hz;subst hz;refine⟨_,rfl,by show 2<=sizeLine;decide,λT2 NJ=>q0 z hm _ T2 L ae ?_⟩;rw[aq (ao hL NJ)];exact hL
 rw[e1] at hy;cases hm:gf t b with
 |error z=>rw[hm] at hy;cases hy
 |ok y =>
  rw[hm] at hy;injection hy with hy;subst hy;cases hP with
  |cons hx hn =>cases hn;rename_i x;obtain⟨p,Ug,OO⟩:=hx;refine⟨T,_,rfl,bY.of hT,rfl,_,_,rfl,_,_,rfl,rfl,?_⟩;refine aY (aJ (cx (aU (ag rfl) (.inl (aP.of hF))) aD)) (λh=>absurd h (by show ¬decide (V.int 1=V.int 0)=true;decide)) (λh=>?_);refine⟨_,rfl,(a6 (ag rfl) aD (aP.of hF) (v:=.ref x) rfl) _ ⟨by show 2<=sizeLine;decide,λT2 NJ=>q1 y hm _ T2 L x p ae (Ug.same ((au.refl H').laid NJ)) ⟨ps,N9,OO⟩⟩⟩
end
section
theorem nW.mono {CX:mU} {C:Addr} {m:Str} {ps:List Str} {j k:Nat} {sp:Sp} (F:nW P w K mg MH CX j C m ps sp) (h:j<=k):nW P w K mg MH CX k C m ps sp:=by obtain⟨f,fd,hm,hb,F⟩:=F;exact⟨f,fd,hm,hb,F.mono h⟩
structure TopW (K:abB)(mg:abD):Prop where
 G:GW mg
 sign:iK K mg "sign_of" kZ
 text:iK K mg "text_of" kU
 name:iK K mg "is_name" k8
 num:iK K mg "number_of" ij
section
variable (T:TopW K mg)
include T
def TopW.Ei:Fn P w K mg MH bB 1 "number_of" ["word"] lK:=T.num.mk λ_ _ F=>IK T.G F
def TopW.G5:Fn P w K mg MH bB 1 "is_name" ["word"] mJ:=T.name.mk λ_ _ F=>A7 T.G F
def TopW.He:Fn P w K mg MH bB 2 "text_of" ["codes"] (uc K):=T.text.mk λ_ _ F=>Gr (T.sign.mk λ_ _ F=>E9 T.G F) F
end
def Di.mk {st:Stmt}{k:Nat}(D:Di K C qual st)
  (ok:∀f fd,dj K "__init__" qual st f fd->a8 P w K mg MH CX k f fd ps sp)(hb:∀(kV doc pm:Value) (an:Option Addr) (MK ct:Value) (us:abF),us.length=ps.length->bindArgs (PySem.W.fnOf "__init__" qual (df st) (b9 st) (aw st) .none kV doc pm an MK ct) ⟨us,[]⟩=pure (ps.zip us):=by intro _ _ _ _ _ _;first|exact K4 (λ_=>rfl)|exact K7 (λ_ _=>rfl)|exact JB (λ_ _ _=>rfl)|exact K8 (λ_ _ _ _=>rfl)|exact Lc (λ_ _ _ _ _=>rfl)|exact Lg (λ_ _ _ _ _ _ _=>rfl)):yi P w K mg MH CX k C ps sp:=by
 obtain⟨f,fd,hm,F⟩:=D;exact⟨f,fd,hm,F.binds hb,ok f fd F⟩
theorem yi.mono {CX:mU}{C:Addr}{ps:List Str}{j k:Nat}{sp:Sp}(F:yi P w K mg MH CX j C ps sp)(h:j<=k):yi P w K mg MH CX k C ps sp:=by obtain⟨f,fd,hm,hb,F⟩:=F;exact⟨f,fd,hm,hb,F.mono h⟩
def Dm.mk {m:Str}{st:Stmt}{k:Nat}(D:Dm K C m qual st)
  (ok:∀f fd,dj K m qual st f fd->a8 P w K mg MH CX k f fd ps sp)(hb:∀(kV doc pm:Value) (an:Option Addr) (MK ct:Value) (us:abF),us.length=ps.length->bindArgs (PySem.W.fnOf m qual (df st) (b9 st) (aw st) .none kV doc pm an MK ct) ⟨us,[]⟩=pure (ps.zip us):=by intro _ _ _ _ _ _;first|exact K4 (λ_=>rfl)|exact K7 (λ_ _=>rfl)|exact JB (λ_ _ _=>rfl)|exact K8 (λ_ _ _ _=>rfl)|exact Lc (λ_ _ _ _ _=>rfl)|exact Lg (λ_ _ _ _ _ _ _=>rfl)):nW P w K mg MH CX k C m ps sp:=by
 obtain⟨f,fd,hm,F⟩:=D;exact⟨f,fd,hm,F.binds hb,ok f fd F⟩
structure TopC (P:Program)(w:World)(K:abB)(mg:abD)(dS aF CP:Addr):Prop where
 W:TopW K mg
 GC:GC P w K mg dS aF
 TP:CK K mg "Pool" gY CP
 BW:Di K CP "Pool.__init__" iE
 day:iK K mg "is_day" ng
 HX:iK K mg "has_pool_form" eD
 C1:iK K mg "are_terms_good" dG
 fields:iK K mg "fields_of" ic
 pool:iK K mg "read_pool" ig
 race:iK K mg "read_race" fS
 pools:iK K mg "read_pools" gD
 HY:iK K mg "read_card" iD
def TopC.KQ (T:TopC P w K mg dS aF CP):Fn P w K mg MH bB 6 "read_card" ["codes"] (yc K CP):=by have num:Fn P w K mg MH bB 2 "number_of" ["word"] lK:=T.W.Ei.mono (by decide);have day:Fn P w K mg MH bB 2 "is_day" ["words"] (D1 K):=T.day.mk λ_ _ F=>Hj T.W.G T.W.G5 F;have HX:Fn P w K mg MH bB 2 "has_pool_form" ["words"] (yp K):=T.HX.mk λ_ _ F=>Ex T.W.G T.GC T.W.G5 F;have C1:Fn P w K mg MH bB 2 "are_terms_good" ["words"] (uY K):=T.C1.mk λ_ _ F=>DA T.W.Ei F;have fields:Fn P w K mg MH bB 1 "fields_of" ["kind","size","race","races"] (rE K):=T.fields.mk λ_ _ F=>AB T.W.G T.GC F;have BW:yi P w K mg MH bB 1 CP ["self","name","kind","fields","unit"] (uT CP):=T.BW.mk λ_ _ F=>BE T.TP F;have pool:Fn P w K mg MH bB 4 "read_pool" ["words","races"] (yU K CP):=T.pool.mk λ_ _ F=>EG T.W.G T.GC T.TP HX C1 num (fields.mono (by decide)) (BW.mono (by decide)) F;have race:Fn P w K mg MH bB 2 "read_race" ["words"] (yO K):=T.race.mk λ_ _ F=>Gu T.W.G T.GC T.W.Ei F;have pools:Fn P w K mg MH bB 5 "read_pools" ["lines","races"] (u6 K CP):=T.pools.mk λ_ _ F=>By T.W.G T.GC T.TP pool F;exact T.HY.mk λ_ _ F=>F6 T.W.G T.GC (T.W.He.mono (by decide)) (day.mono (by decide)) (race.mono (by decide)) pools F
structure vA (K:abB)(mg:abD)(aW CR:Addr):Prop where
 G:GW mg
 B:GB K mg aW
 N:GN mg
 TR:CK K mg "Rows" iN CR
 prod:iK K mg "product_of" gm
 LA:iK K mg "without" kW
 legs:iK K mg "count_legs" gu
 Ia:iK K mg "count_orders" eY
 GF:iK K mg "is_of" pI
 My:iK K mg "count_different" dg
 Ml:iK K mg "picks_of" js
 cst:iK K mg "count_starts" fe
 JN:Di K CR "Rows.__init__" iy
 start:Dm K CR "starting" "Rows.starting" eG
 MA:iK K mg "rows_on" kX
 Le:iK K mg "rows_box" jC
 LH:iK K mg "rows_key" jb
 IM:iK K mg "seatings" gX
 Lw:iK K mg "rows_of" lh
section
variable {aW CR:Addr}(T:vA K mg aW CR)
include T
def vA.KH:Fn P w K mg MH bB 1 "without" ["numbers","taken"] (u9 K):=T.LA.mk λ_ _ F=>Fl F
def vA.yT:nW P w K mg MH bB 3 CR "starting" ["self","start"] (k7 K CR):=by have GF:Fn P w K mg MH bB 1 "is_of" ["sets","start"] (vv K):=T.GF.mk λ_ _ F=>Fo T.G T.N F;have legs:Fn P w K mg MH bB 2 "count_legs" ["sets","start"] (jJ K lD):=T.legs.mk λ_ _ F=>Ed T.G GF (T.prod.mk λ_ _ F=>F8 F) F;have Ia:Fn P w K mg MH bB 2 "count_orders" ["sets","start"] (jJ K uq):=T.Ia.mk λ_ _ F=>Fd T.G T.N GF (T.My.mk λ_ _ F=>HR T.G T.B T.N F) T.KH F;exact T.start.mk λ_ _ F=>B1 T.N T.TR Ia legs F
def vA.yR:yi P w K mg MH bB 2 CR ["self","kind","grids"] (kO K CR):=T.JN.mk λ_ _ F=>Du T.TR (T.cst.mk λ_ _ F=>HU T.G T.N F) (T.Ml.mk λ_ _ F=>Hq T.N F) F
def vA.Kt:Fn P w K mg MH bB 4 "rows_on" ["kind","sets"] (nG K CR):=T.MA.mk λ_ _ F=>Hm T.TR T.yR F
def vA.LR (TP:CK K mg "Pool" gY CP):Fn P w K mg MH bB 5 "rows_of" ["pool","how","sets"] (zB K CP CR):=by have IM:Fn P w K mg MH bB 1 "seatings" ["size","bankers","others"] (y4 K):=T.IM.mk λ_ _ F=>Gf T.N F;exact T.Lw.mk λ_ _ F=>HW T.G T.B TP T.Kt (T.Le.mk λ_ _ F=>Fh T.N T.TR T.yR F) (T.LH.mk λ_ _ F=>Fv T.TR (IM.mono (by decide)) T.yR F) F
end
structure A2 (P:Program)(w:World)(K:abB)(mg:abD)(dS aF CP CW CB CF nF fI aW CR:Addr):Prop where
 C:TopC P w K mg dS aF CP
 N:vA K mg aW CR
 D:GD mg
 TW:CK K mg "Words" cD CW
 TB:CK K mg "Bet" tS CB
 Z:qP K CF nF fI
 mF:mg "Fault"=some (.ref CF)
 IS:∃fd,dj K "__init__" "Fault.__init__" gC fI fd
 HM:Di K CB "Bet.__init__" jy
 cost:Dm K CB "cost" "Bet.cost" jn
 yW:Di K CW "Words.__init__" gI
 take:Dm K CW "take" "Words.take" gG
 one:Dm K CW "take_one_of" "Words.take_one_of" cE
 fin:Dm K CW "finish" "Words.finish" eX
 stake:iK K mg "take_stake" gH
 set:iK K mg "take_set" jv
 box:iK K mg "take_box" jj
 key:iK K mg "take_key" jw
 on:iK K mg "take_on" kM
 sets:iK K mg "take_sets" iu
 how:iK K mg "take_how" jH
 pool:iK K mg "take_pool" iz
 line:iK K mg "check_line" gy
 words:iK K mg "read_words" gJ
 LQ:iK K mg "read_bet" jB
 J6:iK K mg "look_at_all" fJ
 look:iK K mg "look_at" kK
section
variable {dS aF CP CW CB CF nF fI aW CR:Addr}(T:A2 P w K mg dS aF CP CW CB CF nF fI aW CR)
include T
def A2.HE:Fn P w K mg MH bB 9 "look_at_all" ["card","bets"] (vn K CB CP CR):=by
 have G:=T.C.W.G;have B:=T.N.B;have FL:Flt P w K mg MH CF:=by obtain⟨fd,F⟩:=T.IS;exact⟨nF,fI,fd,T.Z,F.binds (λ_ _ _ _ _ _=>JB λ_ _ _=>rfl),AA T.Z F,T.mF⟩
 have num:∀k,1<=k->Fn P w K mg MH bB k "number_of" ["word"] lK:=λk hk=>T.C.W.Ei.mono hk;have take:nW P w K mg MH (fq P w CF) 3 CW "take" ["self"] (oo K CW CF):=T.take.mk λ_ _ F=>Fc G B T.TW FL F;have one:nW P w K mg MH (fq P w CF) 4 CW "take_one_of" ["self","known"] (pM K CW CF):=T.one.mk λ_ _ F=>Il B T.TW FL (by decide) take F;have fin:nW P w K mg MH (fq P w CF) 3 CW "finish" ["self"] (C_ K CW CF):=T.fin.mk λ_ _ F=>Hr G B T.TW FL F;have stake:Fn P w K mg MH (fq P w CF) 4 "take_stake" ["words","unit"] (vy K CW CF):=T.stake.mk λ_ _ F=>DX B T.TW FL (by decide) take (num 3 (by decide)) F;have set:Fn P w K mg MH (fq P w CF) 4 "take_set" ["words","field"] (wH K CW CF):=T.set.mk λ_ _ F=>IQ G B T.TW FL (by decide) take (num 3 (by decide)) F;have box:Fn P w K mg MH (fq P w CF) 5 "take_box" ["words","field","size"] (BY K CW CF):=T.box.mk λ_ _ F=>Jp G B T.TW FL (by decide) set F;have key:Fn P w K mg MH (fq P w CF) 5 "take_key" ["words","field","size"] (BH K CW CF):=T.key.mk λ_ _ F=>Ja G B T.TW FL (by decide) set one F;have on:Fn P w K mg MH (fq P w CF) 5 "take_on" ["words","fields"] (HF K CW CF):=T.on.mk λ_ _ F=>Kl G B T.TW FL (by decide) set one F;have sets:Fn P w K mg MH (fq P w CF) 6 "take_sets" ["words","pool","how"] (yt K CW CF CP):=T.sets.mk λ_ _ F=>EY G B T.C.TP on box key F;have how:Fn P w K mg MH (fq P w CF) 5 "take_how" ["words","pool"] (Dk K CW CF CP):=T.how.mk λ_ _ F=>H_ B T.TW T.C.TP one F;have pool:Fn P w K mg MH (fq P w CF) 4 "take_pool" ["pools","words"] (vB K CW CF CP):=T.pool.mk λ_ _ F=>DB B T.TW T.C.TP FL (by decide) take F;have line:Fn P w K mg MH (fq P w CF) 3 "check_line" ["line"] (y9 K CF):=T.line.mk λ_ _ F=>Gm G B FL F;have HM:yi P w K mg MH bB 4 CB ["self","pool","pool_number","how","stake","sets","rows"] (yM K CB CR):=T.HM.mk λ_ _ F=>EW T.TB T.N.TR T.N.yT F;have yW:yi P w K mg MH bB 1 CW ["self","line"] (qr K CW):=T.yW.mk λ_ _ F=>A8 G T.TW F;have Lw:Fn P w K mg MH bB 6 "rows_of" ["pool","how","sets"] (zB K CP CR):=(T.N.LR T.C.TP).mono (by decide);have cost:nW P w K mg MH bB 6 CB "cost" ["self"] (rC K CB CP CR):=(T.cost.mk λ_ _ F=>E2 T.TB F:nW P w K mg MH bB 1 CB "cost" ["self"] (rC K CB CP CR)).mono (by decide);have words:Fn P w K mg MH (fq P w CF) 7 "read_words" ["pools","words"] (xM K CW CF CB CP CR):=T.words.mk λ_ _ F=>Gi B T.TW T.C.TP T.TB FL (k:=6) (by decide) (one.mono (by decide)) (pool.mono (by decide)) (stake.mono (by decide)) (how.mono (by decide)) sets HM (fin.mono (by decide)) Lw cost F;have LQ:Fn P w K mg MH (fq P w CF) 8 "read_bet" ["pools","codes"] (B4 K CF CB CP CR):=T.LQ.mk λ_ _ F=>Jo G B T.TW FL (k:=7) (by decide) (line.mono (by decide)) words (T.C.W.He.mono (by decide)) yW F;exact T.J6.mk λ_ _ F=>C4 CL G B T.D T.Z T.mF (k:=8) (T.C.KQ.mono (by decide)) LQ F
def A2.JS:Fn P w K mg MH bB 10 "look_at" ["card","bet"] (yK K CB CP CR):=T.look.mk λ_ _ F=>Ef T.C.W.G T.HE F
end
end
def BA {u:Value}(r:B5 u=some v):RelV v u:=by cases u <;> cases r <;> first|rfl|exact⟨_,rfl⟩
theorem Ag:∀{us:abF} {vs:List V},us.map B5=vs.map some->Vals vs us
 |[],[],_=>.nil|[],_::_,h=>by cases h|_::_,[],h=>by cases h|u::us,v::vs,h=>by rw[Zb,Zb] at h;injection h with h1 h2;exact .cons (BA h1) (Ag h2)
section
variable {P:Program}{w:World}{K:abB}{mg:abD}{h:Heap}{x m qual:Str}{st:Stmt}{f C:Addr}{u:Value}{v:V}{fs:List Str}
 {oc kV dc pm cd ct:Value}{od an:Option Addr}{sl:Array (Option Value)}
def dI (X:K.In h) (G:h.Ns mainGlobals mg) (e:PySem.W.nsIn K mainGlobals x=some none:=by k_is):mg x=none:=by
 obtain⟨o,es,ep,ho,hd,_,hf⟩:=G;rw[<-hf x];have z:=uC e;unfold D6 at z;cases q:K.lookup mainGlobals with
 |none =>unfold PySem.W.nsIn at e;rw[q] at e;cases e|some o' =>have:=X _ _ q;rw[ho] at this;cases this;obtain⟨c,d,dt,sl⟩:=o;cases hd;rw[q] at z;exact z
def gv (X:K.In h)(G:h.Ns mainGlobals mg)(e:PySem.W.nsIn K mainGlobals x=some (some u):=by k_is)(r:B5 u=some v:=by first|rfl|decide +kernel):Gv mg x v:=⟨u,PySem.W.mg_of X G e,BA r⟩
def a9 (X:K.In h)(G:h.Ns mainGlobals mg)(a:PySem.W.nsIn K mainGlobals x=some (some (.ref f)):=by k_is)(l:K.lookup f=some ⟨oc,od,.func (PySem.W.fnOf x x (df st) (b9 st) (aw st) .none kV dc pm an cd ct),sl⟩:=by k_is)
  (c:PySem.W.codeIn K cd x=true:=by k_is)(k:PySem.W.keepIn K (.ref f)=true:=by k_is):iK K mg x st:=⟨f,_,PySem.W.mg_of X G a,uk l c k⟩
def sE (a:PySem.W.findIn K (.ref C) m=some (some (.ref f)):=by k_is)(i:PySem.W.isFn K (.ref f)=true:=by k_is)(l:K.lookup f=some ⟨oc,od,.func (PySem.W.fnOf m qual (df st) (b9 st) (aw st) .none kV dc pm an cd ct),sl⟩:=by k_is)
  (c:PySem.W.codeIn K cd qual=true:=by k_is)(k:PySem.W.keepIn K (.ref f)=true:=by k_is):Dm K C m qual st:=⟨f,_,⟨a,i,k⟩,uk l c k⟩
def zm (mk:PySem.W.makesIn K C=true:=by k_is)(kc:PySem.W.keepIn K (.ref C)=true:=by k_is)(a:PySem.W.findIn K (.ref C) "__init__"=some (some (.ref f)):=by k_is)(i:PySem.W.isFn K (.ref f)=true:=by k_is)(l:K.lookup f=some ⟨oc,od,.func (PySem.W.fnOf "__init__" qual (df st) (b9 st) (aw st) .none kV dc pm an cd ct),sl⟩:=by k_is)
  (c:PySem.W.codeIn K cd qual=true:=by k_is)(k:PySem.W.keepIn K (.ref f)=true:=by k_is):Di K C qual st:=⟨f,_,⟨mk,a,i,kc⟩,uk l c k⟩
def KJ (l:K.lookup f=some ⟨oc,od,.func (PySem.W.fnOf "__init__" qual (df st) (b9 st) (aw st) .none kV dc pm an cd ct),sl⟩:=by k_is)
  (c:PySem.W.codeIn K cd qual=true:=by k_is)(k:PySem.W.keepIn K (.ref f)=true:=by k_is):∃fd,dj K "__init__" qual st f fd:=⟨_,uk l c k⟩
def oM (K:abB)(C:Addr)(fs:List Str):Prop:=∀f∈fs,iJ K C f
def oM.nil:oM K C []:=λ_ h=>by cases h
def oM.cons {g:Str}(n:PySem.W.findIn K (.ref C) g=some none)(r:oM K C fs):oM K C (g::fs):=λf h=>by
 cases h with
 |head=>exact n|tail _ h=>exact r f h
def zi (X:K.In h)(G:h.Ns mainGlobals mg)(a:PySem.W.nsIn K mainGlobals x=some (some (.ref C)):=by k_is)(pg:PySem.W.plainGet K C Str.empty=true:=by k_is)(hd:PySem.W.hasDictIn K C=true:=by k_is)(po:PySem.W.plainOver K C=true:=by k_is)
  (sa:PySem.W.findIn K (.ref C) "__setattr__"=some (some (.builtin "object.__setattr__")):=by k_is)(no:oM K C fs:=by (repeat refine Bw.oM.cons (by k_is) ?_);exact Bw.oM.nil):CK K mg x fs C:=⟨⟨pg,hd,po,sa⟩,no,PySem.W.mg_of X G a⟩
def fz (l:K.lookup a=some ⟨.type "tuple",od,.seq MJ n,sl⟩:=by k_is)(hs:MJ.size<=sizeLine:=by decide)(r:MJ.toList.map B5=xs.map some:=by first|rfl|decide +kernel):∀H:Hp,bY K H a xs:=λ_ =>.inr ⟨_,MJ,n,l,rfl,rfl,hs,Ag r⟩
def Fx {o:Obj}(l:K.lookup a=some o:=by k_is)(c:o.cls=.type "tuple":=by rfl)(d:o.dict=none:=by rfl):∃o,K.lookup a=some o/\o.cls=.type "tuple"/\o.dict=none:=⟨o,l,c,d⟩
def key_is {s:String}{t:Tok}:qI (.inr (Bw.st (Bw.cd s))) (.str (Str.ofString s) t)=true:=by rw[<-lB];exact sH _ _
def Ac {s:String}:PyData.keyHash w.params (Str.ofString s)=Ky w (.inr (Bw.st (Bw.cd s))):=by rw[<-lB];rfl
def B2 {d1 d2 d3 d4:Addr}{t1 t2 t3 t4:Tok}(l:K.lookup dS=some ⟨.type "dict",none,.dict #[⟨PyData.keyHash w.params (Str.ofString "place"),.str (Str.ofString "place") t1,.ref d1⟩,⟨PyData.keyHash w.params (Str.ofString "order"),.str (Str.ofString "order") t2,.ref d2⟩,
      ⟨PyData.keyHash w.params (Str.ofString "any"),.str (Str.ofString "any") t3,.ref d3⟩,⟨PyData.keyHash w.params (Str.ofString "legs"),.str (Str.ofString "legs") t4,.ref d4⟩] ep,#[]⟩:=by k_is) (ne:(dS==sysModules)=false:=by decide)
  (h1:∀H,bY K H d1 [.int 1,.int 4]:=by exact Bw.fz) (h2:∀H,bY K H d2 [.int 2,.int 4]:=by exact Bw.fz) (h3:∀H,bY K H d3 [.int 2,.int 3]:=by exact Bw.fz) (h4:∀H,bY K H d4 [.int 2,.int 6]:=by exact Bw.fz) :
  ∃ts:Tote.Kind->Addr,zM P w K dS [(.inr (Bw.st (Bw.cd "place")),.ref (ts .place)),(.inr (Bw.st (Bw.cd "order")),.ref (ts .order)),(.inr (Bw.st (Bw.cd "any")),.ref (ts .any)),(.inr (Bw.st (Bw.cd "legs")),.ref (ts .legs))]/\∀(k:Tote.Kind) (H:Hp),bY K H (ts k) [.int (sizeOf k).1,.int (sizeOf k).2]:=by
 have nd:([.inr (Bw.st (Bw.cd "place")),.inr (Bw.st (Bw.cd "order")),.inr (Bw.st (Bw.cd "any")),.inr (Bw.st (Bw.cd "legs"))]:List Key).Nodup:=by decide +kernel
 refine⟨fun|.place=>d1|.order=>d2|.any=>d3|.legs=>d4,⟨λh X=>⟨_,_,ep,X _ _ l,⟨rfl,rfl,rfl⟩,rfl,λe he=>?_,.cons (key_is (t:=t1)) rfl (.cons (key_is (t:=t2)) rfl (.cons (key_is (t:=t3)) rfl (.cons (key_is (t:=t4)) rfl .nil))),nd⟩,ne⟩,λk=>?_⟩
 . simp only[List.mem_toArray,Y0,aaF,or_false] at he;rcases he with rfl|rfl|rfl|rfl
   . exact⟨.inr (Bw.st (Bw.cd "place")),key_is (s:="place") (t:=t1),Ac (w:=w) (s:="place")⟩
   . exact⟨.inr (Bw.st (Bw.cd "order")),key_is (s:="order") (t:=t2),Ac (w:=w) (s:="order")⟩
   . exact⟨.inr (Bw.st (Bw.cd "any")),key_is (s:="any") (t:=t3),Ac (w:=w) (s:="any")⟩
   exact⟨.inr (Bw.st (Bw.cd "legs")),key_is (s:="legs") (t:=t4),Ac (w:=w) (s:="legs")⟩
 cases k
 . exact h1
 . exact h2
 . exact h3
 exact h4
def CH {t0 t1 t2 t3 t4 t5 t6:Addr}(l:∀H,bY K H aF [.ref t0,.ref t1,.ref t2,.ref t3,.ref t4,.ref t5,.ref t6]:=by exact Bw.fz)(h0:∀H,bY K H t0 [.int 0,.str (Str.ofString "pool")]:=by exact Bw.fz)(h1:∀H,bY K H t1 [.int 4,.str (Str.ofString "from")]:=by exact Bw.fz)
  (h2:∀H,bY K H t2 [.int 6,.str (Str.ofString "take")]:=by exact Bw.fz)(h3:∀H,bY K H t3 [.int 8,.str (Str.ofString "break")]:=by exact Bw.fz)(h4:∀H,bY K H t4 [.int 10,.str (Str.ofString "least")]:=by exact Bw.fz)(h5:∀H,bY K H t5 [.int 12,.str (Str.ofString "unit")]:=by exact Bw.fz)(h6:∀H,bY K H t6 [.int 14,.str (Str.ofString "none")]:=by exact Bw.fz) :
  ∃ts:List Addr,(∀H,bY K H aF (ts.map V.ref))/\Paired (λt (p:Nat×W)=>∀H,bY K H t [.int (p.1:Nat),.str (Bw.st p.2)]) ts ft:=by
 rw[lB] at h0 h1 h2 h3 h4 h5 h6;exact⟨[t0,t1,t2,t3,t4,t5,t6],l,.cons h0 (.cons h1 (.cons h2 (.cons h3 (.cons h4 (.cons h5 (.cons h6 .nil))))))⟩
def EH {es:Array DictEntry}(l:K.lookup N=some ⟨oc,od,.dict es ep,sl⟩:=by k_is)(e:(es.toList.all λe=>match e.key with
  |.str _ _=>true|_=>false)=true:=by rfl):ja K N=true:=by
 unfold ja;rw[l];exact e
def Ir {nm q:Str}{bs:abF}{sn:List Str}{sub:abF}{ab:Bool}{col:Option Bool}{dd:Option Addr}{k0 k1 k2 k3 k5:Option Value}(l:K.lookup C=some (excClassObj nm q C N bs BwX.sZ true sn sub ab col dd k0 k1 k2 k3 k5 "Exception.__new__"):=by k_is)
  (keys:ja K N=true:=by exact Bw.EH)(init:PySem.W.nsIn K N "__init__"=some (some (.ref fI)):=by k_is)(fn:PySem.W.isFn K (.ref fI)=true:=by k_is)(kp:PySem.W.keepIn K (.ref C)=true:=by k_is)(Dc:PySem.W.nsIn K N "__setattr__"=some none:=by k_is)(Ly:PySem.W.nsIn K N "kind"=some none:=by k_is)(LK:PySem.W.nsIn K N "place"=some none:=by k_is)
  (sa:PySem.W.findIn K (.ref C) "__setattr__"=some (some (.builtin "object.__setattr__")):=by k_is)(ga:PySem.W.findIn K (.ref C) "__getattribute__"=some (some (.builtin "BaseException.__getattribute__")):=by k_is)(gt:PySem.W.findIn K (.ref C) "__getattr__"=some none:=by k_is)(fK:PySem.W.findIn K (.ref C) "kind"=some none:=by k_is)(fP:PySem.W.findIn K (.ref C) "place"=some none:=by k_is):qP K C N fI :=
 ⟨⟨_,l,nm,q,bs,sn,sub,ab,col,dd,k0,k1,k2,k3,k5,rfl⟩,keys,init,fn,kp,Dc,Ly,LK,sa,ga,gt,fK,fP⟩
end
def wI {l:List Int}(h:∀i∈l,0<=i/\i<=255):nV (iG (BetNeutral.text l))=l.map V.int:=by
 unfold nV iG BetNeutral.text BetNeutral.nats;rw[Zk,Zk,Zk];refine ZN λi hi=>?_;obtain⟨h1,h2⟩:=h i hi;show V.int (((UInt8.ofNat i.toNat).toNat:Nat):Int)=V.int i;have e:(UInt8.ofNat i.toNat).toNat=i.toNat:=by rw[UInt8.toNat_ofNat'];omega
 rw[e];congr 1;omega
def w9 {l:List Int}(h:l.all (PySem.W.Codec.inInt (Int.ofNat 0) (Int.ofNat 255))=true):∀i∈l,0<=i/\i<=255:=λi hi=>by have z:=Zn.mp h i hi;unfold PySem.W.Codec.inInt at z;simp only[Y3,Y4] at z;exact⟨z.1,z.2⟩
section
variable {K:abB}{H:Hp}{xs:List V}{a b:List Int}
def Ll {lo hi Pe N0:Nat}(hx:iB K H xs (PySem.W.Codec.encAll [.list lo hi (.int (Int.ofNat 0) (Int.ofNat 255)),.list Pe N0 (.int (Int.ofNat 0) (Int.ofNat 255))] ((a,b,()):List Int×List Int×Unit)))
  (OF:PySem.W.Codec.withinAll [.list lo hi (.int (Int.ofNat 0) (Int.ofNat 255)),.list Pe N0 (.int (Int.ofNat 0) (Int.ofNat 255))] ((a,b,()):List Int×List Int×Unit)=true) :
  ∃c d,xs=[.ref c,.ref d]/\aP K H c (nV (iG (BetNeutral.text a)))/\aP K H d (nV (iG (BetNeutral.text b))):=by
 have w:((PySem.W.Codec.inLen lo hi a&&a.all (PySem.W.Codec.inInt (Int.ofNat 0) (Int.ofNat 255)))&&((PySem.W.Codec.inLen Pe N0 b&&b.all (PySem.W.Codec.inInt (Int.ofNat 0) (Int.ofNat 255)))&&true))=true:=OF;simp only[Y3] at w;cases hx with
 |cons h1 h2 =>
  cases h2 with
  |cons h2 h3 =>
   cases h3;cases h1 with
   |lst hs ha =>
    cases h2 with
    |lst OW QH =>have e:=L2.uG a _ ha;have e2:=L2.uG b _ QH;subst e e2;exact⟨_,_,rfl,by rw[wI (w9 w.1.2)];exact hs,by rw[wI (w9 w.2.1.2)];exact OW⟩
end
def L6 (mg:abD){K:abB}{h:Heap}(_:K.In h)(x:Str)(st:Stmt):Prop:=iK K mg x st
section
variable {P:Program}{w:World}{K:abB}{mg:abD}{fa:Addr}{x:Str}{st:Stmt}{ps:List Str}{k:Nat}{sp:Sp}
def Jl (D:iK K mg x st) (Qj:mg x=some (.ref fa))
  (hb:∀(kV doc pm:Value) (an:Option Addr) (MK ct:Value) (us:abF),us.length=ps.length->bindArgs (PySem.W.fnOf x x (df st) (b9 st) (aw st) .none kV doc pm an MK ct) ⟨us,[]⟩=pure (ps.zip us))
  (ok:∀(MH:Heap) (f:Addr) (fd:FuncData),dj K x x st f fd->a8 P w K mg MH bB k f fd ps sp) :
  ∃fd:FuncData,(∀(s:Shared) (us:abF),us.length=ps.length->BindsTo s fd ⟨us,[]⟩ (ps.zip us))/\∀MH:Heap,K.In MH->MH.Ns mainGlobals mg->a8 P w K mg MH bB k fa fd ps sp:=by
 obtain⟨f,fd,hm,F⟩:=D;rw[Qj] at hm;cases hm;obtain⟨oc,od,kV,doc,pm,an,MK,ct,NF,rfl,lk,Ni⟩:=id F.ex;exact⟨_,λs us hu=>.of_eq (hb _ _ _ _ _ _ us hu),λMH _ _=>ok MH _ _ F⟩
end
section
def Hk (K:abB) (g:Nat->bQ->aK->List Int->Prop):Sp:=λvs H Q _=>∃(n:Nat) (c d:Addr) (t b:Bytes),vs=[.int (n:Nat),.ref c,.ref d]/\aP K H c (nV (iG t))/\aP K H d (nV (iG b))/\∀zs,Rr t b (g n) zs->∀H' L,H' L=some (.lst (zs.map V.int))->Q (.ref L) H'
def uA:aG ["number","card","bet","refusal","found","whole"] ["number","card","bet"] (aw mO):=fs
def Ic {CR:Addr}(TB:CK K mg "Bet" tS CB)(TP:CK K mg "Pool" gY CP)(TR:CK K mg "Rows" iN CR){k:Nat}(FL:Fn P w K mg MH bB k "look_at" ["card","bet"] (yK K CB CP CR))(FO:Fn P w K mg MH bB k "rows_on" ["kind","sets"] (nG K CR))
  (FS:nW P w K mg MH bB k CR "starting" ["self","start"] (k7 K CR))(FR:nW P w K mg MH bB k CR "row_at" ["self","i"] (pK K CR))(NN:Gv mg "NO_NUMBER" (.int (-1))){f:Addr}{fd:FuncData}(F:dj K "has" "has" mO f fd):a8 P w K mg MH bB (k+1) f fd ["number","card","bet"] (Hk K E6):=by
 refine F.oT uA λMK A outer s H vs Q E hr h=>?_;obtain⟨n,c,d,t,b,rfl,hC,hB,q⟩:=h;refine⟨_,af (CO (aV FL hr aX (aa (pv 1) (aa (pv 2) ah))) (lR rfl (cp (bq 3 uA.nd) (cp (bq 4 uA.nd) jl))))
  (af (aO (aB uU (pv 4) cO (aI _)) (ak (aA (cT fO (pv 3) fQ (di ax)))) aC)
  (af (aT 5 uA.nd (aV FO hr aX (aa (aR (aR (pv 4) rfl) rfl) (aa (aR (aR (pv 4) rfl) rfl) ah))))
  (af (aO (aB GS (pv 0) (gc FS TR.cl (pv 5) hr aX (aa (cn ah) ah)) (aI _)) (ak (aA (bU (aa (bc NN) ah)))) aC)
  (ak (aA (bU (aa ax (aa (gc FS TR.cl (aR (pv 4) rfl) hr aX (aa (gc FR TR.cl (pv 5) hr aX (aa (pv 0) ah)) ah)) ah)))))))),?_⟩
 refine⟨_,rfl,_,rfl,c,d,t,b,rfl,hC,hB,λzs hz H' T L hT hL=>?_,λy hy H' T L x p hT Ug hp=>?_⟩
 . refine⟨T,_,rfl,bY.of hT,rfl,_,_,rfl,_,_,rfl,rfl,?_⟩;refine aY (aJ (uj (ag rfl))) (λh=>?_) (λh=>absurd h (by decide));refine⟨_,rfl,_,rfl,L,_,rfl,aP.of hL,λp hp=>?_⟩;rw[show ((1:Int))=((1:Nat):Int) from rfl,GG];exact q _ (.inl ⟨zs,hz,rfl⟩) _ p ae
 refine⟨T,_,rfl,bY.of hT,rfl,_,_,rfl,_,_,rfl,rfl,?_⟩;refine aY (aJ (uj (ag rfl))) (λh=>absurd (Ze h) (by intro z;cases z)) (λh=>?_);obtain⟨ps,N9,OO⟩:=hp;obtain⟨dx,pa,sa,ra,h1,⟨dp,fa,h2,h3⟩,_,h4,_,m⟩:=Ug;have go:=oZ.whole m.ok;have Vt:Ev (sA K (cf 4) "pool") [some (.int (n:Nat)),some (.ref c),some (.ref d),some (.ref L),some (.ref x),none] H' (.ref pa):=bb (ag rfl) h1 TB.cl (TB.no _ (by simp)) AO;dsimp only [BF,Eu,xi,mZ,cg];refine bb Vt h2 TP.cl (TP.no _ (by simp)) hX _ ?_;refine bb Vt h2 TP.cl (TP.no _ (by simp)) jK _ ?_;refine⟨fa,p.kind,p.fields,rfl,h3,go,λH1 x1 S1 Oq=>?_⟩;obtain⟨dr,_,_,_,N6,_⟩:=id Oq;refine⟨_,rfl,_,rfl,x1,dr,_,rfl,N6,j3 (by decide +kernel),Zo _,λt1 QO=>?_⟩;have S2:au H1 (upd H1 t1 (.tup [])):=(au.refl H1).laid QO;show dE _ _ _;unfold dE;dsimp only [ZW];refine⟨x1,t1,p.kind,_,[],rfl,Oq.same S2,ae,λg _=>Zo _,λH2 S3=>?_⟩;rw[jD];refine⟨_,_,rfl,rfl,_,rfl,gS (λh=>?_) (λh=>?_)⟩
 . have h:=Ze h;refine⟨by show 1<=sizeLine;decide,λL' YQ=>?_⟩;exact q _ (.inr ⟨y,ps,p,hy,N9,OO,m,.inl ⟨by omega,rfl⟩⟩) _ L' ae
 have h:n < (fc p.kind [p.fields]).length:=by simpa using h
 have Uh:=S2.trans S3;have QR:=S1.trans Uh;have Oo:=h4.same QR;obtain⟨d4,_,_,_,YR,_⟩:=id Oo;have YS:Ev (sA K (cf 4) "rows") [some (.int (n:Nat)),some (.ref c),some (.ref d),some (.ref L),some (.ref x),some (.ref x1)] H2 (.ref ra):=bb (ag rfl) (QR _ _ h1) TB.cl (TB.no _ (by simp)) Bt;dsimp only [BF,Dg,HN,cg,qp,tC];refine YS _ ?_;refine⟨ra,d4,_,rfl,YR,j3 (by decide +kernel),?_⟩;refine⟨_,rfl,x1,dr,_,rfl,Uh _ _ N6,j3 (by decide +kernel),_,rfl,?_⟩;show pK _ _ _ _ _ _;refine⟨x1,n,p.fields.length,p.kind,_,rfl,Oq.same Uh,λg hg=>by rw[Y_.mp hg],by omega,by have:=m.ok.six;omega,λH3 T3 r S4 RF YT YU=>?_⟩;refine⟨ra,T3,p.kind,_,r,rfl,Oo.same S4,RF,λg hg=>by rw[YU,m.Kj g hg];exact Y5 _,λH4 S5=>?_⟩;refine⟨by show 2<=sizeLine;decide,λL' YQ=>?_⟩;exact q _ (.inr ⟨y,ps,p,hy,N9,OO,m,.inr ⟨r,YT,rfl⟩⟩) _ L' ae
def Lx (P:Program)(w:World)(mg:abD){K:abB}{h:Heap}(_:K.In h):Prop:=∃dS aF CP CW CB CF nF fI aW CR,A2 P w K mg dS aF CP CW CB CF nF fI aW CR/\Dm K CR "row_at" "Rows.row_at" cW/\Gv mg "NO_NUMBER" (.int (-1))
def vA.Lm {CR:Addr}(T:vA K mg aW CR)(D:Dm K CR "row_at" "Rows.row_at" cW):nW P w K mg MH bB 4 CR "row_at" ["self","i"] (pK K CR):=D.mk λ_ _ F=>Hz T.G T.TR T.yT F
theorem A2.has {dS aF CP CW CB CF nF fI aW CR:Addr}(T:A2 P w K mg dS aF CP CW CB CF nF fI aW CR)(D:Dm K CR "row_at" "Rows.row_at" cW)(NN:Gv mg "NO_NUMBER" (.int (-1))){f:Addr}{fd:FuncData}(F:dj K "has" "has" mO f fd):a8 P w K mg MH bB 11 f fd ["number","card","bet"] (Hk K E6) :=
 Ic T.TB T.C.TP T.N.TR T.JS (T.N.Kt.mono (by decide)) (T.N.yT.mono (by decide)) ((T.N.Lm D).mono (by decide)) NN F
end
section
variable {K:abB}{H:Hp}{xs:List V}{a b:List Int}{n:Int}
def LJ {QS RD lo hi Pe N0:Nat}(hx:iB K H xs (PySem.W.Codec.encAll [.int (Int.ofNat QS) (Int.ofNat RD),.list lo hi (.int (Int.ofNat 0) (Int.ofNat 255)),.list Pe N0 (.int (Int.ofNat 0) (Int.ofNat 255))] ((n,a,b,()):Int×List Int×List Int×Unit)))
  (OF:PySem.W.Codec.withinAll [.int (Int.ofNat QS) (Int.ofNat RD),.list lo hi (.int (Int.ofNat 0) (Int.ofNat 255)),.list Pe N0 (.int (Int.ofNat 0) (Int.ofNat 255))] ((n,a,b,()):Int×List Int×List Int×Unit)=true) :
  ∃c d,xs=[.int (n.toNat:Nat),.ref c,.ref d]/\aP K H c (nV (iG (BetNeutral.text a)))/\aP K H d (nV (iG (BetNeutral.text b))):=by
 have w:(PySem.W.Codec.inInt (Int.ofNat QS) (Int.ofNat RD) n&&PySem.W.Codec.withinAll [.list lo hi (.int (Int.ofNat 0) (Int.ofNat 255)),.list Pe N0 (.int (Int.ofNat 0) (Int.ofNat 255))] ((a,b,()):List Int×List Int×Unit))=true:=OF;rw[Y3] at w;cases hx with
 |cons h1 h2 =>
  cases h1;obtain⟨c,d,rfl,z⟩:=Ll h2 w.2;have z1:=w.1;unfold PySem.W.Codec.inInt at z1;simp only[Y3,Y4] at z1;have z2:(0:Int)<=Int.ofNat QS:=Int.natCast_nonneg QS;have e:((n.toNat:Nat):Int)=n:=by omega
  exact⟨c,d,by rw[e],z⟩
end
end Bw
end
set_option Elab.async false
set_option linter.all false
set_option maxRecDepth 100000
open PySem PySem.W PyProof.Rows
def gL0:OpenLaw:=⟨PySem.Challenge.pw_betwords_s05_has,"",[],0,none,none,false⟩
set_option maxHeartbeats 0 in
theorem PySem.Challenge.cw_betwords_s05_has_holds : PySem.Challenge.rw_betwords_s05_has.Holds := by
 refine holds_os (r:=PySem.Challenge.rw_betwords_s05_has) (q:=Bw.qV) (loose:=Bw.lV) (Xt:=Bw.xV) (XP:=XL Bw.qV []) (Yf:=(PySem.W.kHook Bw.o9 Bw.Bv Bw.B7).obs) (Ya:=(PySem.W.kHook Bw.o9 Bw.Bv Bw.B7).val) (YP:=(PySem.W.kHook Bw.o9 Bw.Bv Bw.B7).says) (d:=Bw.dV) (kwd:=[]) (N:=5200) Bw.hl (PySem.W.kHook Bw.o9 Bw.Bv Bw.B7).of (PySem.W.kHook Bw.o9 Bw.Bv Bw.B7).keeps (λs e=>xl_of s (abl.mp e).1) XL.keeps (by kernel_rfl) (by kernel_rfl) (by kernel_rfl) (λs e=>recFacts_of (abl.mp e).2) os_shapes (by decide +kernel) (by decide +kernel) ⟨rfl,rfl,rfl,rfl,rfl,by decide +kernel⟩ ⟨[.int 0,.list [],.list []],by decide +kernel,by decide +kernel⟩ ?_
 have:(gL0,Bw.o9)=(gL0,Bw.o9):=by k_fill;rfl
 refine L2.yF (r:=PySem.Challenge.rw_betwords_s05_has) (k:=11) (CX:=L2.bB) (ps:=["number","card","bet"]) (sp:=(λK=>Bw.Hk K Bw.E6)) (by decide +kernel) rfl rfl ⟨rfl,by decide,by decide⟩ (λw h Y=>kIn_of Y) ?F ?S (λ_ _ _ _ z=>z)
 case F =>
  intro w mg fa h Y KX G Qj;have gw:Bw.GW mg:=⟨Bw.gv KX G,Bw.gv KX G,Bw.gv KX G,Bw.gv KX G,Bw.dI KX G,Bw.dI KX G,Bw.dI KX G⟩;have T:Bw.Lx PySem.Challenge.rw_betwords_s05_has.prog w mg KX:=⟨46,58,75,324,282,255,254,252,238,209,⟨⟨⟨gw,Bw.a9 KX G,Bw.a9 KX G,Bw.a9 KX G,Bw.a9 KX G⟩,⟨Bw.gv KX G,Bw.gv KX G,Bw.gv KX G,Bw.gv KX G,Bw.gv KX G,Bw.gv KX G,Bw.gv KX G,Bw.B2,Bw.CH,Bw.dI KX G⟩,Bw.zi KX G,Bw.zm,Bw.a9 KX G,Bw.a9 KX G,Bw.a9 KX G,Bw.a9 KX G,Bw.a9 KX G,Bw.a9 KX G,Bw.a9 KX G,Bw.a9 KX G⟩,
    ⟨gw,⟨Bw.gv KX G,Bw.gv KX G,Bw.gv KX G,Bw.gv KX G,Bw.gv KX G,Bw.gv KX G,Bw.gv KX G,Bw.gv KX G,Bw.gv KX G,Bw.gv KX G,Bw.gv KX G,Bw.gv KX G,Bw.gv KX G,Bw.gv KX G,Bw.gv KX G,Bw.fz,Bw.Fx,Bw.dI KX G,Bw.dI KX G⟩,⟨Bw.dI KX G,Bw.dI KX G,Bw.dI KX G,Bw.dI KX G,Bw.dI KX G,Bw.gv KX G,Bw.dI KX G,Bw.dI KX G⟩,Bw.zi KX G,Bw.a9 KX G,Bw.a9 KX G,Bw.a9 KX G,Bw.a9 KX G,Bw.a9 KX G,Bw.a9 KX G,Bw.a9 KX G,Bw.a9 KX G,Bw.zm,Bw.sE,Bw.a9 KX G,Bw.a9 KX G,Bw.a9 KX G,Bw.a9 KX G,Bw.a9 KX G⟩,
    ⟨Bw.gv KX G,Bw.gv KX G,Bw.gv KX G,Bw.gv KX G,Bw.gv KX G⟩,Bw.zi KX G,Bw.zi KX G,Bw.Ir,mg_of KX G (by k_is),Bw.KJ,Bw.zm,Bw.sE,Bw.zm,Bw.sE,Bw.sE,Bw.sE,Bw.a9 KX G,Bw.a9 KX G,Bw.a9 KX G,Bw.a9 KX G,Bw.a9 KX G,Bw.a9 KX G,Bw.a9 KX G,Bw.a9 KX G,Bw.a9 KX G,Bw.a9 KX G,Bw.a9 KX G,Bw.a9 KX G,Bw.a9 KX G⟩,Bw.sE,Bw.gv KX G⟩
  have J:Bw.L6 mg KX "has" Bw.mO:=Bw.a9 KX G;obtain⟨dS,aF,CP,CW,CB,CF,nF,fI,aW,CR,T,T2,T3⟩:=T;exact Bw.Jl J Qj (λ_ _ _ _ _ _=>Bw.JB λ_ _ _=>rfl) (λMH f fd F=>T.has T2 T3 F)
 case S =>
  intro K H xs a hO OF hask hx;obtain⟨c,d,rfl,hc,hd⟩:=Bw.LJ (n:=a.1) (a:=a.2.1) (b:=a.2.2.1) hx OF;refine⟨a.1.toNat,c,d,_,_,rfl,hc,hd,λzs hz H' L hL=>?_⟩;rw[Bw.Gd hz] at hL;exact .lst (L2.aP.of hL) (L2.zL _)
