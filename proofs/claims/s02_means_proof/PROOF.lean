import PyProof.Rows.All
import Wide.All
import OpenK.AllK
import Wide.FinOn
import PyProof.EqAt
import PyProof.EqKinds
import PyProof.TupleCall
import KE.BitLaws
import Open.SpecLaws
import KE.OsHead
import KE.OsGo
import TtAns
import TtBetSpec
import PyProof.StationsW
import PyProof.ExcInit
import PyProof.InstStore
import PyProof.InstStoreFacts
import PyProof.Rows.CatchOwn
import OpenK.KMake
import PyProof.ExcBaseAll.Exception
import PyProof.ExcAttrAll.Exception
import PyWqaqcl
import PySem.Challenge.RW_betwords_s02_means
section
set_option Elab.async false
section
set_option autoImplicit false
set_option linter.all false
set_option maxRecDepth 100000
set_option maxHeartbeats 0
namespace L2
open PySem PySem.Spec PyProof.Rows
def inClass (s:Stmt)(j:Nat):Stmt:=match s with
 | .ClassDef _ _ _ body _ _ _ _ _ _ _=>body.getD j (.Pass ⟨0,0,0,0⟩)
 | _=>.Pass ⟨0,0,0,0⟩
def defArgs (s:Stmt):Arguments:=match s with
 | .FunctionDef _ a _ _ _ _ _ _ _ _=>a
 | _=>{ posonlyargs:=[],args:=[],vararg:=none,kwonlyargs:=[],kw_defaults:=[],kwarg:=none,defaults:=[] }
def defBody (s:Stmt):List Stmt:=match s with
 | .FunctionDef _ _ b _ _ _ _ _ _ _=>b
 | _=>[]
def defScope (s:Stmt):Scope:=match s with
 | .FunctionDef _ _ _ _ _ _ sc _ _ _=>sc
 | _=>{ kind:=.function,names:=[],isGenerator:=false,isCoroutine:=false }
end L2
end
section
set_option autoImplicit false
set_option linter.all false
set_option maxRecDepth 100000
set_option maxHeartbeats 0
namespace Bw
open PySem L2
def top (i:Nat):Stmt:=PySem.Challenge.pw_betwords_s02_means.main.body.getD i (.Pass ⟨0,0,0,0⟩)
abbrev f_sign_of:Stmt:=top 5
abbrev f_text_of:Stmt:=top 6
abbrev f_is_name:Stmt:=top 7
abbrev f_number_of:Stmt:=top 8
abbrev m_Pool_init:Stmt:=inClass (top 17) 0
abbrev f_read_card:Stmt:=top 18
abbrev f_is_day:Stmt:=top 19
abbrev f_read_race:Stmt:=top 20
abbrev f_read_pools:Stmt:=top 21
abbrev f_read_pool:Stmt:=top 22
abbrev f_has_pool_form:Stmt:=top 23
abbrev f_are_terms_good:Stmt:=top 24
abbrev f_fields_of:Stmt:=top 25
abbrev f_count_on:Stmt:=top 27
abbrev f_count_box:Stmt:=top 28
abbrev f_count_key:Stmt:=top 29
abbrev f_product_of:Stmt:=top 30
abbrev f_rows_among:Stmt:=top 31
abbrev f_picks_among:Stmt:=top 32
abbrev f_count_orders:Stmt:=top 33
abbrev f_picks_of:Stmt:=top 34
abbrev m_Fault_init:Stmt:=inClass (top 51) 0
abbrev m_Bet_init:Stmt:=inClass (top 52) 0
abbrev m_Bet_cost:Stmt:=inClass (top 52) 1
abbrev m_Words_init:Stmt:=inClass (top 53) 0
abbrev m_Words_take:Stmt:=inClass (top 53) 1
abbrev m_Words_take_one_of:Stmt:=inClass (top 53) 2
abbrev m_Words_finish:Stmt:=inClass (top 53) 3
abbrev f_read_bet:Stmt:=top 54
abbrev f_check_line:Stmt:=top 55
abbrev f_read_words:Stmt:=top 56
abbrev f_take_pool:Stmt:=top 57
abbrev f_take_stake:Stmt:=top 58
abbrev f_take_how:Stmt:=top 59
abbrev f_take_sets:Stmt:=top 60
abbrev f_take_on:Stmt:=top 61
abbrev f_take_box:Stmt:=top 62
abbrev f_take_key:Stmt:=top 63
abbrev f_take_set:Stmt:=top 64
abbrev f_count_of:Stmt:=top 65
abbrev f_means:Stmt:=top 72
abbrev f_look_at:Stmt:=top 73
end Bw
end
section
set_option autoImplicit false
set_option linter.all false
set_option maxRecDepth 100000
set_option maxHeartbeats 0
namespace Bw
open PySem L2
abbrev kS (s:String)(t:Nat):Value:=.str (Str.ofString s) t
abbrev kE (P:Params)(s:String)(t:Nat)(v:Value):DictEntry:=⟨PyData.keyHash P (Str.ofString s),.str (Str.ofString s) t,v⟩
abbrev kF (x q:String)(st:Stmt)(m:Value)(c:Nat):Obj:=⟨.type "function",none,.func (PySem.W.fnOf (Str.ofString x) (Str.ofString q) (defArgs st) (defBody st) (defScope st) .none .none .none m none (.ref c) .none),#[]⟩
abbrev kC (x q:String)(t l a g c:Nat)(b:Bool)(z d:Nat)(u v w y:Value)(k:Nat):Obj:=⟨.type "code",none,.fields #[kS x t,kS q (t+1),kS "/claim/cut.py" (t+2),.int l 0,.int a 0,.int 0 0,.int 0 0,.int g 0,.ref c,.bool b,.int z 0,.ref d,u,v,w,y,.int k 0,.int l 0,kS "/claim/cut.py" (k+1)],#[]⟩
abbrev kT (l:List Value)(n:Nat):Obj:=⟨.type "tuple",none,.seq l.toArray n,#[]⟩
abbrev kD (l:List DictEntry)(n:Nat):Obj:=⟨.type "dict",none,.dict l.toArray n,#[]⟩
noncomputable def kTop (P:Params):PySem.W.Frag:=(nat_lit 3,kD [kE P "__name__" 165 (kS "betwords.desk" 727),kE P "__doc__" 166 .none,kE P "__package__" 167 .none,kE P "__loader__" 168 (.builtin "__main__.__loader__#opaque"),kE P "__spec__" 169 .none,kE P "__annotations__" 170 (.ref 6),kE P "__builtins__" 171 (.ref 4),kE P "__file__" 173 (kS "/claim/cut.py" 172),kE P "__cached__" 174 .none,kE P "LETTERS" 190 (kS "abcdefghijklmnopqrstuvwxyz" 189),kE P "DIGITS" 192 (kS "0123456789" 191),kE P "MOST_NAME" 194 (.int 12 193),kE P "MOST_DIGITS" 196 (.int 7 195),kE P "sign_of" 203 (.ref 21),kE P "text_of" 209 (.ref 26),kE P "is_name" 215 (.ref 31),kE P "number_of" 222 (.ref 38),kE P "MOST_RACES" 226 (.int 16 225),kE P "MOST_POOLS" 228 (.int 64 227),kE P "MOST_COUPLES" 230 (.int 8 229),kE P "MOST_RUNNERS" 232 (.int 24 231),kE P "SIZES" 249 (.ref 39),kE P "FIXED" 264 (.ref 51),kE P "POOL_WORDS" 266 (.int 16 265),kE P "Pool" 301 (.ref 68),kE P "read_card" 307 (.ref 77),kE P "is_day" 314 (.ref 84),kE P "read_race" 320 (.ref 89),kE P "read_pools" 332 (.ref 96),kE P "read_pool" 345 (.ref 103),kE P "has_pool_form" 351 (.ref 108),kE P "are_terms_good" 360 (.ref 115),kE P "fields_of" 366 (.ref 120),kE P "count_on" 374 (.ref 125),kE P "count_box" 383 (.ref 132),kE P "count_key" 394 (.ref 139),kE P "product_of" 403 (.ref 146),kE P "rows_among" 411 (.ref 153),kE P "picks_among" 419 (.ref 160),kE P "count_orders" 425 (.ref 165),kE P "picks_of" 437 (.ref 172),kE P "NOT_ENDED" 441 (.int 1 440),kE P "BAD_BYTE" 443 (.int 2 442),kE P "BAD_WORD" 445 (.int 3 444),kE P "BAD_NUMBER" 447 (.int 4 446),kE P "NO_POOL" 449 (.int 5 448),kE P "NO_COMBINATION" 451 (.int 6 450),kE P "TOO_DEAR" 453 (.int 7 452),kE P "MORE_BYTES" 455 (.int 8 454),kE P "LINE_END" 457 (.int 10 456),kE P "BLANK" 459 (.int 32 458),kE P "MOST_STAKE" 461 (.int 1000000 460),kE P "MOST_COST" 463 (.int 2147483647 462),kE P "ON" 465 (.int 0 464),kE P "BOX" 467 (.int 1 466),kE P "WAYS" 471 (.ref 173),kE P "Fault" 502 (.ref 190),kE P "Bet" 548 (.ref 217),kE P "Words" 605 (.ref 259),kE P "read_bet" 616 (.ref 270),kE P "check_line" 625 (.ref 277),kE P "read_words" 641 (.ref 284),kE P "take_pool" 652 (.ref 291),kE P "take_stake" 661 (.ref 298),kE P "take_how" 669 (.ref 305),kE P "take_sets" 679 (.ref 312),kE P "take_on" 689 (.ref 319),kE P "take_box" 699 (.ref 326),kE P "take_key" 705 (.ref 331),kE P "take_set" 716 (.ref 338),kE P "count_of" 726 (.ref 345),kE P "TOO_LONG" 731 (.int (-2) 730),kE P "FAULTY_BET" 734 (.int (-6) 733),kE P "NO_CARD" 737 (.int (-8) 736),kE P "MOST_CARD" 739 (.int 65536 738),kE P "MOST_BET" 741 (.int 4096 740),kE P "means" 753 (.ref 352),kE P "look_at" 764 (.ref 359)] 78) ::
 (nat_lit 6,kD [] 0) ::
 (nat_lit 20,kC "sign_of" "sign_of" 197 6 1 3 15 true 181 16 .none (.ref 17) (.ref 18) (.ref 19) 201) ::
 (nat_lit 21,kF "sign_of" "sign_of" f_sign_of (kS "betwords.words" 187) 20) ::
 (nat_lit 25,kC "text_of" "text_of" 204 20 1 3 22 true 181 23 .none .none .none (.ref 24) 207) ::
 (nat_lit 26,kF "text_of" "text_of" f_text_of (kS "betwords.words" 187) 25) ::
 (nat_lit 30,kC "is_name" "is_name" 210 22 1 3 27 true 181 28 .none .none .none (.ref 29) 213) ::
 (nat_lit 31,kF "is_name" "is_name" f_is_name (kS "betwords.words" 187) 30) ::
 (nat_lit 37,kC "number_of" "number_of" 216 26 1 3 32 true 181 33 .none (.ref 34) (.ref 35) (.ref 36) 220) ::
 (nat_lit 38,kF "number_of" "number_of" f_number_of (kS "betwords.words" 187) 37) ::
 (nat_lit 39,kD [kE P "place" 233 (.ref 40),kE P "order" 236 (.ref 41),kE P "any" 239 (.ref 42),kE P "legs" 242 (.ref 43)] 4) ::
 (nat_lit 40,kT [.int 1 234,.int 4 235] 0) ::
 (nat_lit 41,kT [.int 2 237,.int 4 238] 0) ::
 (nat_lit 42,kT [.int 2 240,.int 3 241] 0) ::
 (nat_lit 43,kT [.int 2 243,.int 6 244] 0) ::
 (nat_lit 44,kT [.int 0 250,kS "pool" 251] 0) ::
 (nat_lit 45,kT [.int 4 252,kS "from" 253] 0) ::
 (nat_lit 46,kT [.int 6 254,kS "take" 255] 0) ::
 (nat_lit 47,kT [.int 8 256,kS "break" 257] 0) ::
 (nat_lit 48,kT [.int 10 258,kS "least" 259] 0) ::
 (nat_lit 49,kT [.int 12 260,kS "unit" 261] 0) ::
 (nat_lit 50,kT [.int 14 262,kS "none" 263] 0) ::
 (nat_lit 51,kT [.ref 44,.ref 45,.ref 46,.ref 47,.ref 48,.ref 49,.ref 50] 0) ::
 (nat_lit 64,kC "__init__" "Pool.__init__" 279 42 5 3 59 true 181 60 .none (.ref 61) (.ref 62) (.ref 63) 287) ::
 (nat_lit 65,kF "__init__" "Pool.__init__" m_Pool_init (kS "betwords.cards" 223) 64) ::
 (nat_lit 66,kT [kS "fields" 290,kS "kind" 291,kS "name" 292,kS "unit" 293] 0) ::
 (nat_lit 67,kD [kE P "__module__" 274 (kS "betwords.cards" 223),kE P "__firstlineno__" 278 (.int 40 277),kE P "__init__" 289 (.ref 65),kE P "__static_attributes__" 294 (.ref 66),kE P "__dict__" 296 (.ref 69),kE P "__weakref__" 298 (.ref 70),kE P "__doc__" 299 .none] 4) ::
 (nat_lit 68,⟨.type "type",none,.cls ⟨"Pool",[.type "object"],[.ref 68,.type "object"],67,"Pool",true,[],[],false,none,false⟩,#[none,none,some (kS "Pool" 267),some (kS "Pool" 275),some (.builtin "object.__new__"),some (.bool true)]⟩) ::
 (nat_lit 76,kC "read_card" "read_card" 302 47 1 3 73 true 181 74 .none .none .none (.ref 75) 305) ::
 (nat_lit 77,kF "read_card" "read_card" f_read_card (kS "betwords.cards" 223) 76) ::
 (nat_lit 83,kC "is_day" "is_day" 308 61 1 3 78 true 181 79 .none (.ref 80) (.ref 81) (.ref 82) 312) ::
 (nat_lit 84,kF "is_day" "is_day" f_is_day (kS "betwords.cards" 223) 83) ::
 (nat_lit 88,kC "read_race" "read_race" 315 63 1 3 85 true 181 86 .none .none .none (.ref 87) 318) ::
 (nat_lit 89,kF "read_race" "read_race" f_read_race (kS "betwords.cards" 223) 88) ::
 (nat_lit 95,kC "read_pools" "read_pools" 321 82 2 3 90 true 181 91 .none (.ref 92) (.ref 93) (.ref 94) 330) ::
 (nat_lit 96,kF "read_pools" "read_pools" f_read_pools (kS "betwords.cards" 223) 95) ::
 (nat_lit 102,kC "read_pool" "read_pool" 333 94 2 3 97 true 181 98 .none (.ref 99) (.ref 100) (.ref 101) 343) ::
 (nat_lit 103,kF "read_pool" "read_pool" f_read_pool (kS "betwords.cards" 223) 102) ::
 (nat_lit 107,kC "has_pool_form" "has_pool_form" 346 107 1 3 104 true 181 105 .none .none .none (.ref 106) 349) ::
 (nat_lit 108,kF "has_pool_form" "has_pool_form" f_has_pool_form (kS "betwords.cards" 223) 107) ::
 (nat_lit 114,kC "are_terms_good" "are_terms_good" 352 113 1 3 109 true 181 110 .none (.ref 111) (.ref 112) (.ref 113) 358) ::
 (nat_lit 115,kF "are_terms_good" "are_terms_good" f_are_terms_good (kS "betwords.cards" 223) 114) ::
 (nat_lit 119,kC "fields_of" "fields_of" 361 123 4 3 116 true 181 117 .none .none .none (.ref 118) 364) ::
 (nat_lit 120,kF "fields_of" "fields_of" f_fields_of (kS "betwords.cards" 223) 119) ::
 (nat_lit 124,kC "count_on" "count_on" 369 135 2 3 121 true 181 122 .none .none .none (.ref 123) 372) ::
 (nat_lit 125,kF "count_on" "count_on" f_count_on (kS "betwords.counts" 367) 124) ::
 (nat_lit 131,kC "count_box" "count_box" 375 141 3 3 126 true 181 127 .none (.ref 128) (.ref 129) (.ref 130) 381) ::
 (nat_lit 132,kF "count_box" "count_box" f_count_box (kS "betwords.counts" 367) 131) ::
 (nat_lit 138,kC "count_key" "count_key" 384 145 4 3 133 true 181 134 .none (.ref 135) (.ref 136) (.ref 137) 392) ::
 (nat_lit 139,kF "count_key" "count_key" f_count_key (kS "betwords.counts" 367) 138) ::
 (nat_lit 145,kC "product_of" "product_of" 395 150 1 3 140 true 181 141 .none (.ref 142) (.ref 143) (.ref 144) 401) ::
 (nat_lit 146,kF "product_of" "product_of" f_product_of (kS "betwords.counts" 367) 145) ::
 (nat_lit 152,kC "rows_among" "rows_among" 404 155 2 3 147 true 181 148 .none (.ref 149) (.ref 150) (.ref 151) 409) ::
 (nat_lit 153,kF "rows_among" "rows_among" f_rows_among (kS "betwords.counts" 367) 152) ::
 (nat_lit 159,kC "picks_among" "picks_among" 412 157 2 3 154 true 181 155 .none (.ref 156) (.ref 157) (.ref 158) 417) ::
 (nat_lit 160,kF "picks_among" "picks_among" f_picks_among (kS "betwords.counts" 367) 159) ::
 (nat_lit 164,kC "count_orders" "count_orders" 420 159 1 3 161 true 181 162 .none .none .none (.ref 163) 423) ::
 (nat_lit 165,kF "count_orders" "count_orders" f_count_orders (kS "betwords.counts" 367) 164) ::
 (nat_lit 171,kC "picks_of" "picks_of" 426 167 1 3 166 true 181 167 .none (.ref 168) (.ref 169) (.ref 170) 435) ::
 (nat_lit 172,kF "picks_of" "picks_of" f_picks_of (kS "betwords.counts" 367) 171) ::
 (nat_lit 173,kT [kS "on" 468,kS "box" 469,kS "key" 470] 0) ::
 (nat_lit 186,kC "__init__" "Fault.__init__" 484 195 3 3 181 true 181 182 .none (.ref 183) (.ref 184) (.ref 185) 490) ::
 (nat_lit 187,kF "__init__" "Fault.__init__" m_Fault_init (kS "betwords.bets" 438) 186) ::
 (nat_lit 188,kT [kS "kind" 493,kS "place" 494] 0) ::
 (nat_lit 189,kD [kE P "__module__" 479 (kS "betwords.bets" 438),kE P "__firstlineno__" 483 (.int 193 482),kE P "__init__" 492 (.ref 187),kE P "__static_attributes__" 495 (.ref 188),kE P "__weakref__" 497 (.ref 191),kE P "__doc__" 498 .none] 3) ::
 (nat_lit 190,⟨.type "type",none,.cls ⟨"Fault",[.type "Exception"],[.ref 190,.type "Exception",.type "BaseException",.type "object"],189,"Fault",true,[],[],false,none,false⟩,#[some (.ref 174),none,some (kS "Fault" 472),some (kS "Fault" 480),some (.builtin "Exception.__new__"),some (.bool true)]⟩) ::
 (nat_lit 206,kC "__init__" "Bet.__init__" 515 200 7 3 201 true 181 202 .none (.ref 203) (.ref 204) (.ref 205) 525) ::
 (nat_lit 207,kF "__init__" "Bet.__init__" m_Bet_init (kS "betwords.bets" 438) 206) ::
 (nat_lit 213,kC "cost" "Bet.cost" 528 208 1 3 208 true 181 209 .none (.ref 210) (.ref 211) (.ref 212) 532) ::
 (nat_lit 214,kF "cost" "Bet.cost" m_Bet_cost (kS "betwords.bets" 438) 213) ::
 (nat_lit 215,kT [kS "how" 535,kS "many" 536,kS "pool" 537,kS "pool_number" 538,kS "sets" 539,kS "stake" 540] 0) ::
 (nat_lit 216,kD [kE P "__module__" 510 (kS "betwords.bets" 438),kE P "__firstlineno__" 514 (.int 198 513),kE P "__init__" 527 (.ref 207),kE P "cost" 534 (.ref 214),kE P "__static_attributes__" 541 (.ref 215),kE P "__dict__" 543 (.ref 218),kE P "__weakref__" 545 (.ref 219),kE P "__doc__" 546 .none] 4) ::
 (nat_lit 217,⟨.type "type",none,.cls ⟨"Bet",[.type "object"],[.ref 217,.type "object"],216,"Bet",true,[],[],false,none,false⟩,#[none,none,some (kS "Bet" 503),some (kS "Bet" 511),some (.builtin "object.__new__"),some (.bool true)]⟩) ::
 (nat_lit 234,kC "__init__" "Words.__init__" 561 212 2 3 229 true 181 230 .none (.ref 231) (.ref 232) (.ref 233) 566) ::
 (nat_lit 235,kF "__init__" "Words.__init__" m_Words_init (kS "betwords.bets" 438) 234) ::
 (nat_lit 241,kC "take" "Words.take" 569 219 1 3 236 true 181 237 .none (.ref 238) (.ref 239) (.ref 240) 574) ::
 (nat_lit 242,kF "take" "Words.take" m_Words_take (kS "betwords.bets" 438) 241) ::
 (nat_lit 248,kC "take_one_of" "Words.take_one_of" 577 228 2 3 243 true 181 244 .none (.ref 245) (.ref 246) (.ref 247) 583) ::
 (nat_lit 249,kF "take_one_of" "Words.take_one_of" m_Words_take_one_of (kS "betwords.bets" 438) 248) ::
 (nat_lit 255,kC "finish" "Words.finish" 586 234 1 3 250 true 181 251 .none (.ref 252) (.ref 253) (.ref 254) 590) ::
 (nat_lit 256,kF "finish" "Words.finish" m_Words_finish (kS "betwords.bets" 438) 255) ::
 (nat_lit 257,kT [kS "line_end" 593,kS "met" 594,kS "next_place" 595,kS "place" 596,kS "words" 597] 0) ::
 (nat_lit 258,kD [kE P "__module__" 556 (kS "betwords.bets" 438),kE P "__firstlineno__" 560 (.int 210 559),kE P "__init__" 568 (.ref 235),kE P "take" 576 (.ref 242),kE P "take_one_of" 585 (.ref 249),kE P "finish" 592 (.ref 256),kE P "__static_attributes__" 598 (.ref 257),kE P "__dict__" 600 (.ref 260),kE P "__weakref__" 602 (.ref 261),kE P "__doc__" 603 .none] 4) ::
 (nat_lit 259,⟨.type "type",none,.cls ⟨"Words",[.type "object"],[.ref 259,.type "object"],258,"Words",true,[],[],false,none,false⟩,#[none,none,some (kS "Words" 549),some (kS "Words" 557),some (.builtin "object.__new__"),some (.bool true)]⟩) ::
 (nat_lit 269,kC "read_bet" "read_bet" 606 237 2 3 264 true 181 265 .none (.ref 266) (.ref 267) (.ref 268) 614) ::
 (nat_lit 270,kF "read_bet" "read_bet" f_read_bet (kS "betwords.bets" 438) 269) ::
 (nat_lit 276,kC "check_line" "check_line" 617 247 1 3 271 true 181 272 .none (.ref 273) (.ref 274) (.ref 275) 623) ::
 (nat_lit 277,kF "check_line" "check_line" f_check_line (kS "betwords.bets" 438) 276) ::
 (nat_lit 283,kC "read_words" "read_words" 626 255 2 3 278 true 181 279 .none (.ref 280) (.ref 281) (.ref 282) 639) ::
 (nat_lit 284,kF "read_words" "read_words" f_read_words (kS "betwords.bets" 438) 283) ::
 (nat_lit 290,kC "take_pool" "take_pool" 642 272 2 3 285 true 181 286 .none (.ref 287) (.ref 288) (.ref 289) 650) ::
 (nat_lit 291,kF "take_pool" "take_pool" f_take_pool (kS "betwords.bets" 438) 290) ::
 (nat_lit 297,kC "take_stake" "take_stake" 653 278 2 3 292 true 181 293 .none (.ref 294) (.ref 295) (.ref 296) 659) ::
 (nat_lit 298,kF "take_stake" "take_stake" f_take_stake (kS "betwords.bets" 438) 297) ::
 (nat_lit 304,kC "take_how" "take_how" 662 283 2 3 299 true 181 300 .none (.ref 301) (.ref 302) (.ref 303) 667) ::
 (nat_lit 305,kF "take_how" "take_how" f_take_how (kS "betwords.bets" 438) 304) ::
 (nat_lit 311,kC "take_sets" "take_sets" 670 288 3 3 306 true 181 307 .none (.ref 308) (.ref 309) (.ref 310) 677) ::
 (nat_lit 312,kF "take_sets" "take_sets" f_take_sets (kS "betwords.bets" 438) 311) ::
 (nat_lit 318,kC "take_on" "take_on" 680 295 2 3 313 true 181 314 .none (.ref 315) (.ref 316) (.ref 317) 687) ::
 (nat_lit 319,kF "take_on" "take_on" f_take_on (kS "betwords.bets" 438) 318) ::
 (nat_lit 325,kC "take_box" "take_box" 690 302 3 3 320 true 181 321 .none (.ref 322) (.ref 323) (.ref 324) 697) ::
 (nat_lit 326,kF "take_box" "take_box" f_take_box (kS "betwords.bets" 438) 325) ::
 (nat_lit 330,kC "take_key" "take_key" 700 307 3 3 327 true 181 328 .none .none .none (.ref 329) 703) ::
 (nat_lit 331,kF "take_key" "take_key" f_take_key (kS "betwords.bets" 438) 330) ::
 (nat_lit 337,kC "take_set" "take_set" 706 316 2 3 332 true 181 333 .none (.ref 334) (.ref 335) (.ref 336) 714) ::
 (nat_lit 338,kF "take_set" "take_set" f_take_set (kS "betwords.bets" 438) 337) ::
 (nat_lit 344,kC "count_of" "count_of" 717 324 3 3 339 true 181 340 .none (.ref 341) (.ref 342) (.ref 343) 724) ::
 (nat_lit 345,kF "count_of" "count_of" f_count_of (kS "betwords.bets" 438) 344) ::
 (nat_lit 351,kC "means" "means" 742 337 2 3 346 true 181 347 .none (.ref 348) (.ref 349) (.ref 350) 751) ::
 (nat_lit 352,kF "means" "means" f_means (kS "betwords.desk" 727) 351) ::
 (nat_lit 358,kC "look_at" "look_at" 754 346 2 3 353 true 181 354 .none (.ref 355) (.ref 356) (.ref 357) 762) ::
 (nat_lit 359,kF "look_at" "look_at" f_look_at (kS "betwords.desk" 727) 358)::[]
def kAs:List Nat:=[3,6,20,21,25,26,30,31,37,38,39,40,41,42,43,44,45,46,47,48,49,50,51,64,65,66,67,68,76,77,83,84,88,89,95,96,102,103,107,108,114,115,119,120,124,125,131,132,138,139,145,146,152,153,159,160,164,165,171,172,173,186,187,188,189,190,206,207,213,214,215,216,217,234,235,241,242,248,249,255,256,257,258,259,269,270,276,277,283,284,290,291,297,298,304,305,311,312,318,319,325,326,330,331,337,338,344,345,351,352,358,359]
def kKeys:List Str:=List.map Str.ofString ["LETTERS","DIGITS","MOST_NAME","MOST_DIGITS","sign_of","text_of","is_name","number_of","MOST_RACES","MOST_POOLS","MOST_COUPLES","MOST_RUNNERS","SIZES","FIXED","POOL_WORDS","Pool","read_card","is_day","read_race","read_pools","read_pool","has_pool_form","are_terms_good","fields_of","count_on","count_box","count_key","product_of","rows_among","picks_among","count_orders","picks_of","NOT_ENDED","BAD_BYTE","BAD_WORD","BAD_NUMBER","NO_POOL","NO_COMBINATION","TOO_DEAR","MORE_BYTES","LINE_END","BLANK","MOST_STAKE","MOST_COST","ON","BOX","WAYS","Fault","Bet","Words","read_bet","check_line","read_words","take_pool","take_stake","take_how","take_sets","take_on","take_box","take_key","take_set","count_of","TOO_LONG","FAULTY_BET","NO_CARD","MOST_CARD","MOST_BET","means","look_at"]
end Bw
end
section
set_option autoImplicit false
set_option linter.all false
set_option maxRecDepth 100000
set_option maxHeartbeats 0
namespace Bw
open PySem PyProof.Rows L2
theorem kOk (P:Params):kAs=(kTop P).map (·.1):=by kernel_rfl
def qV:Program:={ PySem.Challenge.pw_betwords_s02_means with main:={ PySem.Challenge.pw_betwords_s02_means.main with body:=[f_means] } }
def lV:List Str:=kKeys.filter fun k=>k != "means"
def xV (s:Shared):Bool:=PySem.W.xlAt qV [] s&&PySem.W.recOk [] s
def dV:DefRec:=match f_means with
 | .FunctionDef n a b _ _ _ c _ _ p=>⟨n,a,b,c,p⟩
 | _=>⟨"",defArgs f_means,[],defScope f_means,⟨0,0,0,0⟩⟩
theorem hlF (w:World):(PySem.W.openEnds treeTable PySem.Challenge.pw_betwords_s02_means (w.withFollow "special-get-raises" false) 5200).map (fun s=>(PySem.W.openSeen qV lV (importedModules PySem.Challenge.pw_betwords_s02_means.main.body) xV true s,(PySem.W.kHook Bw.kTop Bw.kAs Bw.kOk).obs s))=some (PySem.W.openGood qV lV,(PySem.W.kHook Bw.kTop Bw.kAs Bw.kOk).val (w.withFollow "special-get-raises" false)):=by kernel_rfl
theorem hlT (w:World):(PySem.W.openEnds treeTable PySem.Challenge.pw_betwords_s02_means (w.withFollow "special-get-raises" true) 5200).map (fun s=>(PySem.W.openSeen qV lV (importedModules PySem.Challenge.pw_betwords_s02_means.main.body) xV true s,(PySem.W.kHook Bw.kTop Bw.kAs Bw.kOk).obs s))=some (PySem.W.openGood qV lV,(PySem.W.kHook Bw.kTop Bw.kAs Bw.kOk).val (w.withFollow "special-get-raises" true)):=by kernel_rfl
theorem hl:PySem.W.LeftO PySem.Challenge.pw_betwords_s02_means qV lV xV (PySem.W.kHook Bw.kTop Bw.kAs Bw.kOk).obs (PySem.W.kHook Bw.kTop Bw.kAs Bw.kOk).val 5200:=PySem.W.byRow2 "special-get-raises" hlF hlT
end Bw
end
section
set_option autoImplicit false
set_option linter.all false
namespace Bw
open Tote
theorem sum_map_add {α:Type}(f g:α->Nat):∀ l:List α,(l.map fun x=>f x+g x).sum=(l.map f).sum+(l.map g).sum
 | []=>rfl
 | x::l=>by
  simp only [List.map_cons,List.sum_cons,sum_map_add f g l];omega
theorem sum_map_congr {α:Type}{f g:α->Nat}:∀ {l:List α},(∀ x∈l,f x=g x)->(l.map f).sum=(l.map g).sum
 | [],_=>rfl
 | x::l,h=>by
  simp only [List.map_cons,List.sum_cons]
  rw [h x (by simp),sum_map_congr fun y hy=>h y (by simp [hy])]
theorem sum_map_const {α:Type}(c:Nat):∀ l:List α,(l.map fun _=>c).sum=l.length*c
 | []=>by simp
 | x::l=>by
  simp only [List.map_cons,List.sum_cons,sum_map_const c l,List.length_cons,Nat.add_mul];omega
theorem length_flatMap' {α β:Type}(f:α->List β):∀ l:List α,(l.flatMap f).length=(l.map fun x=>(f x).length).sum
 | []=>rfl
 | x::l=>by simp [List.flatMap_cons,length_flatMap' f l]
theorem filter_flatMap' {α β:Type}(p:β->Bool)(f:α->List β):∀ l:List α,(l.flatMap f).filter p=l.flatMap fun x=>(f x).filter p
 | []=>rfl
 | x::l=>by simp [List.flatMap_cons,filter_flatMap' p f l]
theorem sum_map_ite {α:Type}(p:α->Bool)(c d:Nat):∀ l:List α,(l.map fun x=>if p x=true then c else d).sum=(l.filter p).length*c+(l.filter fun x=>!p x).length*d
 | []=>by simp
 | x::l=>by
  have ih:=sum_map_ite p c d l
  simp only [List.map_cons,List.sum_cons,List.filter_cons]
  by_cases h:p x=true
  · simp only [h,if_true,Bool.not_true,Bool.false_eq_true,if_false,List.length_cons,Nat.add_mul,ih];omega
  · have h':p x=false:=by simpa using h
    simp only [h',Bool.false_eq_true,if_false,Bool.not_false,if_true,List.length_cons,Nat.add_mul,ih];omega
def rowsN:Nat->Nat->Nat->Nat
 | 0,a,_=>if a=0 then 1 else 0
 | k+1,a,b=>a*rowsN k (a - 1) b+b*rowsN k a (b - 1)
section
variable (A u:List Nat)
def inA (had:List Nat):Nat->Bool:=fun x=>!had.contains x&&A.contains x
def inB (had:List Nat):Nat->Bool:=fun x=>!had.contains x&&!A.contains x
def okRow (had r:List Nat):Bool:=A.all fun a=>had.contains a||r.contains a
end
theorem filter_len_erase {p q:Nat->Bool}{x:Nat}:∀ {u:List Nat},u.Nodup->x∈u->p x=true->(∀ y,q y=(p y&&y != x))->(u.filter q).length+1=(u.filter p).length
 | [],_,h,_,_=>by simp at h
 | y::u,nd,h,hp,hq=>by
  obtain ⟨h1,h2⟩:=List.nodup_cons.mp nd
  by_cases e:y=x
  · subst e
    have q0:q y=false:=by rw [hq];simp
    have same:u.filter q=u.filter p:=by
     apply List.filter_congr
     intro z hz
     have:z≠y:=fun e=>h1 (e ▸ hz)
     rw [hq];simp [this]
    rw [List.filter_cons,List.filter_cons,q0,hp]
    simp [same]
  · have hx:x∈u:=by
     rcases List.mem_cons.mp h with z|z
     · exact absurd z.symm e
     · exact z
    have ih:=filter_len_erase (p:=p) (q:=q) h2 hx hp hq
    have hy:q y=p y:=by rw [hq];simp [e]
    rw [List.filter_cons,List.filter_cons,hy]
    by_cases c:p y=true
    · simp only [c,if_true,List.length_cons];omega
    · simp only [c,Bool.false_eq_true,if_false];exact ih
theorem filter_len_same {p q:Nat->Bool}{u:List Nat}(h:∀ y∈u,q y=p y):(u.filter q).length=(u.filter p).length:=by
 rw [List.filter_congr h]
theorem apart_count (A u:List Nat)(nd:u.Nodup)(hA:∀ a∈A,a∈u):∀ (k:Nat) (had:List Nat),
  ((apartRows (List.replicate k u) had).filter (okRow A had)).length=rowsN k (u.filter (inA A had)).length (u.filter (inB A had)).length
 | 0,had=>by
  show (([[]]:List (List Nat)).filter (okRow A had)).length=_
  have key:okRow A had []=decide ((u.filter (inA A had)).length=0):=by
   rw [Bool.eq_iff_iff,decide_eq_true_iff,List.length_eq_zero_iff,List.filter_eq_nil_iff]
   unfold okRow inA
   rw [List.all_eq_true]
   constructor
   · intro h y _ c
     simp only [Bool.and_eq_true,Bool.not_eq_true',List.contains_eq_mem,decide_eq_true_eq] at c
     have:=h y c.2
     simp only [List.contains_eq_mem,List.not_mem_nil,decide_false,Bool.or_false,decide_eq_true_eq] at this
     have c1:=c.1
     simp [this] at c1
   · intro h a ha
     have:=h a (hA a ha)
     simp only [Bool.and_eq_true,Bool.not_eq_true',List.contains_eq_mem,decide_eq_true_eq,ha,and_true,decide_eq_false_iff_not,Decidable.not_not] at this
     simp [this]
  by_cases c:(u.filter (inA A had)).length=0
  · simp [List.filter_cons,key,c,rowsN]
  · simp [List.filter_cons,key,c,rowsN]
 | k+1,had=>by
  have ih:=apart_count A u nd hA k
  rw [List.replicate_succ]
  show (((u.filter fun x=>!had.contains x).flatMap fun x=>(apartRows (List.replicate k u) (x::had)).map fun r=>x::r).filter (okRow A had)).length=_
  rw [filter_flatMap',length_flatMap']
  have step:∀ x∈(u.filter fun x=>!had.contains x),(((apartRows (List.replicate k u) (x::had)).map fun r=>x::r).filter (okRow A had)).length
    = if A.contains x=true then rowsN k ((u.filter (inA A had)).length - 1) (u.filter (inB A had)).length else rowsN k (u.filter (inA A had)).length ((u.filter (inB A had)).length - 1):=by
   intro x hx
   obtain ⟨hxu,hxh⟩:=List.mem_filter.mp hx
   have hxh':¬ x∈had:=by simpa using hxh
   rw [List.filter_map,List.length_map]
   have e:((apartRows (List.replicate k u) (x::had)).filter ((okRow A had) ∘ fun r=>x::r))=(apartRows (List.replicate k u) (x::had)).filter (okRow A (x::had)):=by
    apply List.filter_congr
    intro r _
    show okRow A had (x::r)=okRow A (x::had) r
    unfold okRow
    congr 1
    funext a
    simp only [List.contains_eq_mem,List.mem_cons]
    by_cases c1:a∈had <;> by_cases c2:a=x <;> by_cases c3:a∈r <;> simp [c1,c2,c3]
   rw [e,ih (x::had)]
   by_cases c:A.contains x=true
   · rw [if_pos c]
     have e1:(u.filter (inA A (x::had))).length+1=(u.filter (inA A had)).length:=by
      refine filter_len_erase nd hxu ?_ ?_
      · unfold inA;rw [c];simp [hxh']
      · intro y
        unfold inA
        simp only [List.contains_eq_mem,List.mem_cons]
        by_cases c1:y∈had <;> by_cases c2:y=x <;> by_cases c3:y∈A <;> simp [c1,c2,c3]
     have e2:(u.filter (inB A (x::had))).length=(u.filter (inB A had)).length:=by
      refine filter_len_same fun y _=>?_
      unfold inB
      have cx:x∈A:=by simpa using c
      simp only [List.contains_eq_mem,List.mem_cons]
      by_cases c1:y∈had <;> by_cases c2:y=x <;> by_cases c3:y∈A <;> simp_all
     rw [e2,← e1,Nat.add_sub_cancel]
   · have c':A.contains x=false:=by simpa using c
     rw [if_neg c]
     have e1:(u.filter (inB A (x::had))).length+1=(u.filter (inB A had)).length:=by
      refine filter_len_erase nd hxu ?_ ?_
      · unfold inB;rw [c'];simp [hxh']
      · intro y
        unfold inB
        simp only [List.contains_eq_mem,List.mem_cons]
        by_cases c1:y∈had <;> by_cases c2:y=x <;> by_cases c3:y∈A <;> simp [c1,c2,c3]
     have e2:(u.filter (inA A (x::had))).length=(u.filter (inA A had)).length:=by
      refine filter_len_same fun y _=>?_
      unfold inA
      have cx:¬ x∈A:=by simpa using c
      simp only [List.contains_eq_mem,List.mem_cons]
      by_cases c1:y∈had <;> by_cases c2:y=x <;> by_cases c3:y∈A <;> simp_all
     rw [e2,← e1,Nat.add_sub_cancel]
  rw [sum_map_congr step,sum_map_ite,List.filter_filter,List.filter_filter]
  have f1:(u.filter fun a=>A.contains a&&!had.contains a).length=(u.filter (inA A had)).length:=filter_len_same fun y _=>by unfold inA;rw [Bool.and_comm]
  have f2:(u.filter fun a=>!A.contains a&&!had.contains a).length=(u.filter (inB A had)).length:=filter_len_same fun y _=>by unfold inB;rw [Bool.and_comm]
  rw [f1,f2]
  rfl
def binom:Nat->Nat->Nat
 | _,0=>1
 | 0,_+1=>0
 | n+1,k+1=>binom n k+binom n (k+1)
theorem rising_sub:∀ (k:Nat) (l r:List Nat),r∈risingRows k l->r.Sublist l
 | 0,_,r,h=>by
  have:r=[]:=by simpa [risingRows] using h
  subst this
  exact List.nil_sublist _
 | k+1,[],r,h=>by simp [risingRows] at h
 | k+1,x::l,r,h=>by
  rw [risingRows,List.mem_append] at h
  rcases h with h|h
  · obtain ⟨q,hq,rfl⟩:=List.mem_map.mp h
    exact (rising_sub k l q hq).cons₂ x
  · exact (rising_sub (k+1) l r h).cons x
def coversL (A l r:List Nat):Bool:=l.all fun y=>!A.contains y||r.contains y
theorem rising_count (A:List Nat):∀ (l:List Nat),l.Nodup->∀ k,((risingRows k l).filter (coversL A l)).length
  = if (l.filter A.contains).length<=k then binom (l.filter fun y=>!A.contains y).length (k - (l.filter A.contains).length) else 0
 | [],_,0=>rfl
 | [],_,k+1=>by
  show 0=_
  simp [binom]
 | x::l,nd,0=>by
  show ((([[]]:List (List Nat))).filter (coversL A (x::l))).length=_
  have key:coversL A (x::l) []=decide (((x::l).filter A.contains).length<=0):=by
   rw [Bool.eq_iff_iff,decide_eq_true_iff,Nat.le_zero,List.length_eq_zero_iff,List.filter_eq_nil_iff]
   unfold coversL
   rw [List.all_eq_true]
   refine ⟨fun h y hy c=>?_,fun h y hy=>?_⟩
   · have:=h y hy
     rw [c] at this
     simp at this
   · have:=h y hy
     simp only [Bool.not_eq_true] at this
     rw [this]
     rfl
  by_cases c:((x::l).filter A.contains).length<=0
  · rw [if_pos c]
    rw [List.filter_cons,key,decide_eq_true c]
    have:0 - ((x::l).filter A.contains).length=0:=by omega
    rw [this]
    simp [binom]
  · rw [if_neg c,List.filter_cons,key,decide_eq_false c]
    rfl
 | x::l,nd,k+1=>by
  obtain ⟨hx,nd'⟩:=List.nodup_cons.mp nd
  have ih:=rising_count A l nd'
  rw [risingRows,List.filter_append,List.length_append,List.filter_map,List.length_map]
  have e1:((risingRows k l).filter ((coversL A (x::l)) ∘ fun r=>x::r))=(risingRows k l).filter (coversL A l):=by
   apply List.filter_congr
   intro r _
   show coversL A (x::l) (x::r)=coversL A l r
   unfold coversL
   rw [List.all_cons]
   have:(x::r).contains x=true:=by simp
   rw [this,Bool.or_true,Bool.true_and]
   rw [Bool.eq_iff_iff,List.all_eq_true,List.all_eq_true]
   refine forall_congr' fun y=>forall_congr' fun hy=>?_
   have ne:y≠x:=fun e=>hx (e ▸ hy)
   simp [ne]
  have e2:((risingRows (k+1) l).filter (coversL A (x::l)))=if A.contains x=true then [] else (risingRows (k+1) l).filter (coversL A l):=by
   by_cases c:A.contains x=true
   · rw [if_pos c,List.filter_eq_nil_iff]
     intro r hr h
     have nx:¬ x∈r:=fun m=>hx ((rising_sub _ _ _ hr).subset m)
     unfold coversL at h
     rw [List.all_cons,c] at h
     simp [nx] at h
   · rw [if_neg c]
     apply List.filter_congr
     intro r _
     unfold coversL
     have c':A.contains x=false:=by simpa using c
     rw [List.all_cons,c']
     simp
  rw [e1,e2,ih k]
  by_cases c:A.contains x=true
  · rw [if_pos c]
    have f1:((x::l).filter A.contains).length=(l.filter A.contains).length+1:=by rw [List.filter_cons,if_pos c];rfl
    have f2:((x::l).filter fun y=>!A.contains y)=l.filter fun y=>!A.contains y:=by rw [List.filter_cons,if_neg (by rw [c];simp)]
    rw [f1,f2]
    by_cases d:(l.filter A.contains).length<=k
    · rw [if_pos d,if_pos (by omega)]
      have:k+1 - ((l.filter A.contains).length+1)=k - (l.filter A.contains).length:=by omega
      rw [this]
      rfl
    · rw [if_neg d,if_neg (by omega)]
      rfl
  · have c':A.contains x=false:=by simpa using c
    rw [if_neg c,ih (k+1)]
    have f1:((x::l).filter A.contains)=l.filter A.contains:=by rw [List.filter_cons,if_neg c]
    have f2:((x::l).filter fun y=>!A.contains y).length=(l.filter fun y=>!A.contains y).length+1:=by rw [List.filter_cons,if_pos (by rw [c'];rfl)];rfl
    rw [f1,f2]
    by_cases d:(l.filter A.contains).length<=k
    · rw [if_pos d,if_pos (by omega),if_pos (by omega)]
      have:k+1 - (l.filter A.contains).length=(k - (l.filter A.contains).length)+1:=by omega
      rw [this]
      rfl
    · rw [if_neg d]
      by_cases d2:(l.filter A.contains).length<=k+1
      · rw [if_pos d2,if_pos d2]
        have:k+1 - (l.filter A.contains).length=0:=by omega
        rw [this]
        simp [binom]
      · rw [if_neg d2,if_neg d2]
def rowsAmong (n k:Nat):Nat:=product ((List.range k).map fun i=>n - k+1+i)
def picksAmong (n k:Nat):Nat:=rowsAmong n k / rowsAmong k k
set_option maxRecDepth 100000 in
theorem binom_small:∀ n < 25,∀ k < 4,k<=n->binom n k=picksAmong n k:=by decide +kernel
set_option maxRecDepth 100000 in
theorem rowsN_box:∀ n < 25,∀ k < 5,k<=n->rowsN k 0 n=rowsAmong n k:=by decide +kernel
set_option maxRecDepth 100000 in
theorem rowsN_key:∀ b < 25,∀ k < 5,∀ a < 5,a<=k->k - a<=b->rowsN k a b=picksAmong b (k - a)*rowsAmong k k:=by decide +kernel
def cntA:List (List Nat)->(Nat->Bool)->Nat
 | [],_=>1
 | s::ss,p=>((s.filter p).map fun y=>cntA ss fun z=>p z&&z != y).sum
theorem cntA_congr:∀ (ss:List (List Nat)) {p q:Nat->Bool},(∀ s∈ss,∀ y∈s,p y=q y)->cntA ss p=cntA ss q
 | [],_,_,_=>rfl
 | s::ss,p,q,h=>by
  unfold cntA
  have e:s.filter p=s.filter q:=List.filter_congr fun y hy=>h s (by simp) y hy
  rw [e]
  refine sum_map_congr fun y _=>cntA_congr ss fun t ht z hz=>?_
  rw [h t (by simp [ht]) z hz]
theorem apart_len:∀ (ss:List (List Nat)) (had:List Nat),(apartRows ss had).length=cntA ss fun z=>!had.contains z
 | [],_=>rfl
 | s::ss,had=>by
  unfold cntA
  rw [apartRows,length_flatMap']
  refine sum_map_congr fun y _=>?_
  rw [List.length_map,apart_len ss (y::had)]
  refine cntA_congr ss fun t _ z _=>?_
  simp only [List.contains_eq_mem,List.mem_cons]
  by_cases c1:z∈had <;> by_cases c2:z=y <;> simp [c1,c2]
def outs (x:Nat):List (List Nat)->List (List (List Nat))
 | []=>[]
 | s::ss=>(if s.contains x=true then [ss] else [])++(outs x ss).map fun r=>s::r
theorem sum_flat_swap {α β:Type}(f:α->β->Nat):∀ (l:List α) (m:List β),(l.map fun x=>(m.map fun y=>f x y).sum).sum=(m.map fun y=>(l.map fun x=>f x y).sum).sum
 | [],m=>by
  simp only [List.map_nil,List.sum_nil]
  rw [sum_map_const 0 m]
  simp
 | x::l,m=>by
  simp only [List.map_cons,List.sum_cons]
  rw [sum_flat_swap f l m,← sum_map_add]
theorem filter_one {x:Nat}:∀ {s:List Nat},s.Nodup->s.filter (fun y=>y==x)=if s.contains x=true then [x] else []
 | [],_=>rfl
 | y::s,nd=>by
  obtain ⟨h1,h2⟩:=List.nodup_cons.mp nd
  have ih:=filter_one (x:=x) h2
  by_cases e:y=x
  · subst e
    have:s.filter (fun z=>z==y)=[]:=List.filter_eq_nil_iff.mpr fun z hz c=>h1 ((beq_iff_eq.mp c) ▸ hz)
    simp [this]
  · have e':¬ x=y:=fun z=>e z.symm
    rw [List.filter_cons,if_neg (by simp [e]),ih]
    simp [e']
theorem sum_filter_or {f:Nat->Nat}{p q:Nat->Bool}(hd:∀ y,p y=true->q y=false):∀ l:List Nat,((l.filter fun y=>p y||q y).map f).sum=((l.filter p).map f).sum+((l.filter q).map f).sum
 | []=>rfl
 | y::l=>by
  have ih:=sum_filter_or (f:=f) hd l
  rw [List.filter_cons,List.filter_cons,List.filter_cons]
  by_cases c:p y=true
  · have:=hd y c
    simp only [c,this,Bool.or_false,if_true,Bool.false_eq_true,if_false,List.map_cons,List.sum_cons,ih];omega
  · have c':p y=false:=by simpa using c
    by_cases c2:q y=true
    · simp only [c',c2,Bool.or_true,if_true,Bool.false_eq_true,if_false,List.map_cons,List.sum_cons,ih];omega
    · have c2':q y=false:=by simpa using c2
      simp only [c',c2',Bool.or_false,Bool.false_eq_true,if_false,ih]
theorem cntA_more (x:Nat):∀ (ss:List (List Nat)) (p:Nat->Bool),(∀ s∈ss,s.Nodup)->p x=false ->
  cntA ss (fun z=>p z||z==x)=cntA ss p+((outs x ss).map fun r=>cntA r p).sum
 | [],_,_,_=>rfl
 | s::ss,p,nd,hx=>by
  have nds:s.Nodup:=nd s (by simp)
  have ndr:∀ t∈ss,t.Nodup:=fun t ht=>nd t (by simp [ht])
  have dis:∀ y,p y=true->(y==x)=false:=fun y hy=>by
   by_cases e:y=x
   · rw [e,hx] at hy;cases hy
   · simp [e]
  show ((s.filter fun z=>p z||z==x).map fun y=>cntA ss fun z=>(p z||z==x)&&z != y).sum=_
  rw [sum_filter_or (q:=fun y=>y==x) dis,filter_one nds]
  have e1:((s.filter p).map fun y=>cntA ss fun z=>(p z||z==x)&&z != y).sum
    = ((s.filter p).map fun y=>cntA ss (fun z=>p z&&z != y)+((outs x ss).map fun r=>cntA r fun z=>p z&&z != y).sum).sum:=by
   refine sum_map_congr fun y hy=>?_
   have py:p y=true:=(List.mem_filter.mp hy).2
   have ne:x≠y:=fun e=>by rw [e,py] at hx;cases hx
   rw [← cntA_more x ss (fun z=>p z&&z != y) ndr (by simp [hx])]
   refine cntA_congr ss fun t _ z _=>?_
   show ((p z||z==x)&&z != y)=(p z&&z != y||z==x)
   cases hpz:p z <;> by_cases c:z=x <;> by_cases d:z=y <;> simp_all
  rw [e1,sum_map_add,sum_flat_swap (fun y r=>cntA r fun z=>p z&&z != y)]
  have e2:(((if s.contains x=true then [x] else []:List Nat)).map fun y=>cntA ss fun z=>(p z||z==x)&&z != y).sum
    = (((if s.contains x=true then [ss] else []:List (List (List Nat)))).map fun r=>cntA r p).sum:=by
   by_cases c:s.contains x=true
   · rw [if_pos c,if_pos c]
     simp only [List.map_cons,List.map_nil,List.sum_cons,List.sum_nil,Nat.add_zero]
     refine cntA_congr ss fun t _ z _=>?_
     show ((p z||z==x)&&z != x)=p z
     cases hpz:p z <;> by_cases d:z=x <;> simp_all
   · rw [if_neg c,if_neg c];rfl
  rw [e2]
  show _=cntA (s::ss) p+(((if s.contains x=true then [ss] else [])++(outs x ss).map fun r=>s::r).map fun r=>cntA r p).sum
  rw [List.map_append,List.sum_append,List.map_map]
  show ((s.filter p).map fun y=>cntA ss fun z=>p z&&z != y).sum+((outs x ss).map fun r=>((s.filter p).map fun y=>cntA r fun z=>p z&&z != y).sum).sum+_
   = ((s.filter p).map fun y=>cntA ss fun z=>p z&&z != y).sum+(_+((outs x ss).map fun r=>((s.filter p).map fun y=>cntA r fun z=>p z&&z != y).sum).sum)
  omega
def sel:Nat->List (List Nat)->List (List Nat)
 | _,[]=>[]
 | m,s::ss=>(if m % 2=1 then [s] else [])++sel (m / 2) ss
def bitsOf (x:Nat):Nat->List (List Nat)->List Nat
 | _,[]=>[]
 | b,s::ss=>(if s.contains x=true then [b] else [])++bitsOf x (2*b) ss
theorem bits_double (x:Nat):∀ (ss:List (List Nat)) (b:Nat),bitsOf x (2*b) ss=(bitsOf x b ss).map fun c=>2*c
 | [],_=>rfl
 | s::ss,b=>by
  unfold bitsOf
  rw [List.map_append,bits_double x ss (2*b)]
  congr 1
  by_cases c:s.contains x=true
  · simp only [if_pos c];rfl
  · simp only [if_neg c];rfl
def hasBit (m b:Nat):Bool:=m / b % 2==1
theorem sel_cons (m:Nat)(s:List Nat)(ss:List (List Nat)):sel m (s::ss)=(if m % 2=1 then [s] else [])++sel (m / 2) ss:=rfl
theorem sel_zero:∀ ss:List (List Nat),sel 0 ss=[]
 | []=>rfl
 | s::ss=>by
  unfold sel
  rw [sel_zero ss]
  rfl
theorem outs_sel (x:Nat):∀ (ss:List (List Nat)) (m:Nat),outs x (sel m ss)=((bitsOf x 1 ss).filter (hasBit m)).map fun b=>sel (m - b) ss
 | [],_=>rfl
 | s::ss,m=>by
  have ih:=outs_sel x ss (m / 2)
  have e1:bitsOf x 1 (s::ss)=(if s.contains x=true then [1] else [])++(bitsOf x 1 ss).map fun c=>2*c:=by
   show (if s.contains x=true then [1] else [])++bitsOf x (2*1) ss=_
   rw [bits_double]
  have f1:∀ c,hasBit m (2*c)=hasBit (m / 2) c:=fun c=>by
   unfold hasBit
   rw [Nat.div_div_eq_div_mul]
  have e2:(((bitsOf x 1 ss).map fun c=>2*c).filter (hasBit m))=((bitsOf x 1 ss).filter (hasBit (m / 2))).map fun c=>2*c:=by
   rw [List.filter_map]
   congr 1
   exact List.filter_congr fun c _=>f1 c
  rw [e1,List.filter_append,List.map_append,e2,List.map_map]
  have big:∀ c∈(bitsOf x 1 ss).filter (hasBit (m / 2)),c<=m / 2:=fun c hc=>by
   have h:=(List.mem_filter.mp hc).2
   unfold hasBit at h
   have h':m / 2 / c % 2=1:=by simpa using h
   by_cases z:c<=m / 2
   · exact z
   · rw [Nat.div_eq_of_lt (by omega)] at h';simp at h'
  have e3:((bitsOf x 1 ss).filter (hasBit (m / 2))).map ((fun b=>sel (m - b) (s::ss)) ∘ fun c=>2*c)
    = ((bitsOf x 1 ss).filter (hasBit (m / 2))).map fun c=>(if m % 2=1 then [s] else [])++sel (m / 2 - c) ss:=by
   refine List.map_congr_left fun c hc=>?_
   have:=big c hc
   show (if (m - 2*c) % 2=1 then [s] else [])++sel ((m - 2*c) / 2) ss=_
   have a1:(m - 2*c) % 2=m % 2:=by omega
   have a2:(m - 2*c) / 2=m / 2 - c:=by omega
   rw [a1,a2]
  rw [e3,sel_cons]
  by_cases odd:m % 2=1
  · simp only [if_pos odd,List.singleton_append]
    have hb1:hasBit m 1=true:=by unfold hasBit;simp [odd]
    rw [outs,ih,List.map_map]
    congr 1
    by_cases c:s.contains x=true
    · simp only [if_pos c,List.filter_cons,hb1,if_true,List.filter_nil,List.map_cons,List.map_nil]
      have a1:¬ (m - 1) % 2=1:=by omega
      have a2:(m - 1) / 2=m / 2:=by omega
      rw [sel_cons,if_neg a1,a2]
      rfl
    · simp only [if_neg c];rfl
  · have hb1:hasBit m 1=false:=by unfold hasBit;simp [odd]
    simp only [if_neg odd,List.nil_append]
    rw [ih]
    by_cases c:s.contains x=true
    · simp only [if_pos c,List.filter_cons,hb1,Bool.false_eq_true,if_false,List.filter_nil,List.map_nil,List.nil_append]
    · simp only [if_neg c,List.filter_nil,List.map_nil,List.nil_append]
theorem sel_mem:∀ {ss:List (List Nat)} {m:Nat} {s:List Nat},s∈sel m ss->s∈ss
 | [],_,_,h=>by simp [sel] at h
 | t::ss,m,s,h=>by
  unfold sel at h
  rcases List.mem_append.mp h with h|h
  · by_cases c:m % 2=1
    · rw [if_pos c] at h
      simp at h
      simp [h]
    · rw [if_neg c] at h;simp at h
  · exact List.mem_cons_of_mem _ (sel_mem h)
theorem sel_full:∀ ss:List (List Nat),sel (2 ^ ss.length - 1) ss=ss
 | []=>rfl
 | s::ss=>by
  have hp:0 < 2 ^ ss.length:=Nat.two_pow_pos _
  have e:2 ^ (s::ss).length - 1=2*(2 ^ ss.length - 1)+1:=by
   rw [List.length_cons,Nat.pow_succ];omega
  unfold sel
  rw [e]
  have a1:(2*(2 ^ ss.length - 1)+1) % 2=1:=by omega
  have a2:(2*(2 ^ ss.length - 1)+1) / 2=2 ^ ss.length - 1:=by omega
  rw [if_pos a1,a2,sel_full ss]
  rfl
theorem ways_turn (x m:Nat)(ss:List (List Nat))(p:Nat->Bool)(nd:∀ s∈ss,s.Nodup)(hx:p x=false) :
  cntA (sel m ss) (fun z=>p z||z==x)=cntA (sel m ss) p+(((bitsOf x 1 ss).filter (hasBit m)).map fun b=>cntA (sel (m - b) ss) p).sum:=by
 rw [cntA_more x (sel m ss) p (fun s hs=>nd s (sel_mem hs)) hx,outs_sel,List.map_map]
 rfl
abbrev Rises (l:List Nat):Prop:=l.Pairwise (· < ·)
theorem rises_iff:∀ l:List Nat,risesN l=true↔Rises l
 | []=>by simp [risesN]
 | [x]=>by simp [risesN]
 | x::y::l=>by
  have ih:=rises_iff (y::l)
  rw [risesN,Bool.and_eq_true,decide_eq_true_iff,ih]
  constructor
  · rintro ⟨h1,h2⟩
    refine List.pairwise_cons.mpr ⟨fun z hz=>?_,h2⟩
    rcases List.mem_cons.mp hz with rfl|hz
    · exact h1
    · exact Nat.lt_trans h1 ((List.pairwise_cons.mp h2).1 z hz)
  · intro h
    obtain ⟨h1,h2⟩:=List.pairwise_cons.mp h
    exact ⟨h1 y (by simp),h2⟩
theorem Rises.nodup {l:List Nat}(h:Rises l):l.Nodup:=List.Pairwise.imp (fun h=>Nat.ne_of_lt h) h
theorem len_le_of_sub {α:Type} [DecidableEq α]:∀ {l m:List α},l.Nodup->(∀ x∈l,x∈m)->l.length<=m.length
 | [],_,_,_=>Nat.zero_le _
 | x::l,m,nd,h=>by
  obtain ⟨h1,h2⟩:=List.nodup_cons.mp nd
  have hx:x∈m:=h x (by simp)
  have ih:=len_le_of_sub (l:=l) (m:=m.erase x) h2 fun y hy=>by
   have:y≠x:=fun e=>h1 (e ▸ hy)
   exact (List.mem_erase_of_ne this).mpr (h y (by simp [hy]))
  have e:=List.length_erase_of_mem hx
  have:0 < m.length:=List.length_pos_of_mem hx
  rw [List.length_cons]
  omega
theorem len_eq_of_same {α:Type} [DecidableEq α] {l m:List α}(h1:l.Nodup)(h2:m.Nodup)(h:∀ x,x∈l↔x∈m):l.length=m.length :=
 Nat.le_antisymm (len_le_of_sub h1 fun x hx=>(h x).mp hx) (len_le_of_sub h2 fun x hx=>(h x).mpr hx)
def insS (n:Nat):List Nat->List Nat
 | []=>[n]
 | x::r=>if n < x then n::x::r else x::insS n r
theorem mem_insS {n y:Nat}:∀ {l:List Nat},y∈insS n l↔y=n∨y∈l
 | []=>by simp [insS]
 | x::r=>by
  unfold insS
  by_cases c:n < x
  · rw [if_pos c];simp
  · rw [if_neg c,List.mem_cons,mem_insS (l:=r),List.mem_cons]
    constructor
    · rintro (h|h|h) <;> simp [h]
    · rintro (h|h|h) <;> simp [h]
theorem rises_insS {n:Nat}:∀ {l:List Nat},Rises l->¬ n∈l->Rises (insS n l)
 | [],_,_=>by simp [insS]
 | x::r,h,hn=>by
  obtain ⟨h1,h2⟩:=List.pairwise_cons.mp h
  unfold insS
  by_cases c:n < x
  · rw [if_pos c]
    refine List.pairwise_cons.mpr ⟨fun z hz=>?_,h⟩
    rcases List.mem_cons.mp hz with rfl|hz
    · exact c
    · exact Nat.lt_trans c (h1 z hz)
  · rw [if_neg c]
    have ne:n≠x:=fun e=>hn (by simp [e])
    refine List.pairwise_cons.mpr ⟨fun z hz=>?_,rises_insS h2 fun m=>hn (by simp [m])⟩
    rcases mem_insS.mp hz with rfl|hz
    · omega
    · exact h1 z hz
theorem insS_erase {n:Nat}:∀ {l:List Nat},Rises l->n∈l->insS n (l.erase n)=l
 | [],_,h=>by simp at h
 | x::r,h,hn=>by
  obtain ⟨h1,h2⟩:=List.pairwise_cons.mp h
  by_cases e:x=n
  · subst e
    rw [List.erase_cons_head]
    cases r with
    | nil=>rfl
    | cons y r=>unfold insS;rw [if_pos (h1 y (by simp))]
  · have hn':n∈r:=by
     rcases List.mem_cons.mp hn with z|z
     · exact absurd z.symm e
     · exact z
    rw [List.erase_cons_tail (by simpa using e)]
    have:=h1 n hn'
    unfold insS
    rw [if_neg (by omega),insS_erase h2 hn']
theorem erase_insS {n:Nat}:∀ {l:List Nat},¬ n∈l->(insS n l).erase n=l
 | [],_=>by simp [insS]
 | x::r,h=>by
  have ne:x≠n:=fun e=>h (by simp [e])
  unfold insS
  by_cases c:n < x
  · rw [if_pos c,List.erase_cons_head]
  · rw [if_neg c,List.erase_cons_tail (by simpa using ne),erase_insS fun m=>h (by simp [m])]
def insKey (K:List (List Nat))(k:List Nat):List (List Nat):=if K.contains k=true then K else K++[k]
def addPick (pick:List Nat)(K:List (List Nat))(n:Nat):List (List Nat):=if pick.contains n=true then K else insKey K (insS n pick)
def addAll (s:List Nat)(K:List (List Nat))(pick:List Nat):List (List Nat):=s.foldl (addPick pick) K
def stepPicks (picks:List (List Nat))(s:List Nat):List (List Nat):=picks.foldl (addAll s) []
def picksOf (ss:List (List Nat)):List (List Nat):=ss.foldl stepPicks [[]]
theorem mem_insKey {K:List (List Nat)}{k r:List Nat}:r∈insKey K k↔r∈K∨r=k:=by
 unfold insKey
 by_cases c:K.contains k=true
 · rw [if_pos c]
   have c':k∈K:=by simpa using c
   exact ⟨.inl,fun h=>h.elim id fun e=>e ▸ c'⟩
 · rw [if_neg c];simp
theorem nodup_insKey {K:List (List Nat)}{k:List Nat}(h:K.Nodup):(insKey K k).Nodup:=by
 unfold insKey
 by_cases c:K.contains k=true
 · rw [if_pos c];exact h
 · rw [if_neg c]
   have c':¬ k∈K:=by simpa using c
   refine List.nodup_append.mpr ⟨h,by simp,fun a ha b hb=>?_⟩
   have:b=k:=by simpa using hb
   subst this
   exact fun e=>c' (e ▸ ha)
theorem mem_addAll {pick r:List Nat}:∀ {s:List Nat} {K:List (List Nat)},r∈addAll s K pick↔r∈K∨∃ n∈s,¬ n∈pick/\r=insS n pick
 | [],K=>by simp [addAll]
 | n::s,K=>by
  show r∈addAll s (addPick pick K n) pick↔_
  rw [mem_addAll (s:=s)]
  unfold addPick
  by_cases c:pick.contains n=true
  · rw [if_pos c]
    have c':n∈pick:=by simpa using c
    constructor
    · rintro (h|⟨m,hm,h1,h2⟩)
      · exact .inl h
      · exact .inr ⟨m,by simp [hm],h1,h2⟩
    · rintro (h|⟨m,hm,h1,h2⟩)
      · exact .inl h
      · rcases List.mem_cons.mp hm with rfl|hm
        · exact absurd c' h1
        · exact .inr ⟨m,hm,h1,h2⟩
  · rw [if_neg c,mem_insKey]
    have c':¬ n∈pick:=by simpa using c
    constructor
    · rintro ((h|h)|⟨m,hm,h1,h2⟩)
      · exact .inl h
      · exact .inr ⟨n,by simp,c',h⟩
      · exact .inr ⟨m,by simp [hm],h1,h2⟩
    · rintro (h|⟨m,hm,h1,h2⟩)
      · exact .inl (.inl h)
      · rcases List.mem_cons.mp hm with rfl|hm
        · exact .inl (.inr h2)
        · exact .inr ⟨m,hm,h1,h2⟩
theorem nodup_addAll {pick:List Nat}:∀ {s:List Nat} {K:List (List Nat)},K.Nodup->(addAll s K pick).Nodup
 | [],_,h=>h
 | n::s,K,h=>by
  show (addAll s (addPick pick K n) pick).Nodup
  refine nodup_addAll (s:=s) ?_
  unfold addPick
  by_cases c:pick.contains n=true
  · rw [if_pos c];exact h
  · rw [if_neg c];exact nodup_insKey h
theorem mem_fold {s r:List Nat}:∀ {picks K:List (List Nat)},r∈picks.foldl (addAll s) K↔r∈K∨∃ pick∈picks,∃ n∈s,¬ n∈pick/\r=insS n pick
 | [],K=>by simp
 | p::ps,K=>by
  rw [List.foldl_cons,mem_fold (picks:=ps),mem_addAll]
  constructor
  · rintro ((h|h)|⟨q,hq,h⟩)
    · exact .inl h
    · exact .inr ⟨p,by simp,h⟩
    · exact .inr ⟨q,by simp [hq],h⟩
  · rintro (h|⟨q,hq,h⟩)
    · exact .inl (.inl h)
    · rcases List.mem_cons.mp hq with rfl|hq
      · exact .inl (.inr h)
      · exact .inr ⟨q,hq,h⟩
theorem nodup_fold {s:List Nat}:∀ {picks K:List (List Nat)},K.Nodup->(picks.foldl (addAll s) K).Nodup
 | [],_,h=>h
 | p::ps,K,h=>by
  rw [List.foldl_cons]
  exact nodup_fold (picks:=ps) (nodup_addAll h)
theorem snoc_ind {α:Type}{P:List α->Prop}(h0:P [])(h1:∀ l a,P l->P (l++[a]))(l:List α):P l:=by
 have:∀ m:List α,P m.reverse:=fun m=>by
  induction m with
  | nil=>exact h0
  | cons a m ih=>rw [List.reverse_cons];exact h1 _ a ih
 have h:=this l.reverse
 rwa [List.reverse_reverse] at h
theorem fills_cons {row s:List Nat}{t:List (List Nat)}:fillsSets row (s::t)=true↔∃ x∈row,x∈s/\fillsSets (row.erase x) t=true:=by
 show (row.any fun (x:Nat)=>s.contains x&&fillsSets (row.erase x) t)=true↔_
 rw [List.any_eq_true]
 constructor
 · rintro ⟨x,hx,h⟩
   rw [Bool.and_eq_true] at h
   exact ⟨x,hx,by simpa using h.1,h.2⟩
 · rintro ⟨x,hx,h1,h2⟩
   exact ⟨x,hx,by rw [Bool.and_eq_true];exact ⟨by simpa using h1,h2⟩⟩
theorem fills_nil {row:List Nat}:fillsSets row []=true↔row=[]:=by
 show row.isEmpty=true↔_
 exact List.isEmpty_iff
theorem mem_erase_swap {x y:Nat}{l:List Nat}(hy:y∈l)(hx:x∈l.erase y):x∈l/\y∈l.erase x:=by
 refine ⟨List.mem_of_mem_erase hx,?_⟩
 by_cases e:y=x
 · subst e;exact hx
 · exact (List.mem_erase_of_ne e).mpr hy
theorem fills_snoc {s:List Nat}:∀ {ss:List (List Nat)} {row:List Nat},fillsSets row (ss++[s])=true↔∃ x∈row,x∈s/\fillsSets (row.erase x) ss=true
 | [],row=>by rw [List.nil_append,fills_cons]
 | t::ss,row=>by
  rw [List.cons_append,fills_cons]
  constructor
  · rintro ⟨y,hy,hyt,h⟩
    obtain ⟨x,hx,hxs,h⟩:=fills_snoc.mp h
    obtain ⟨a,b⟩:=mem_erase_swap hy hx
    exact ⟨x,a,hxs,fills_cons.mpr ⟨y,b,hyt,by rw [List.erase_comm];exact h⟩⟩
  · rintro ⟨x,hx,hxs,h⟩
    obtain ⟨y,hy,hyt,h⟩:=fills_cons.mp h
    obtain ⟨a,b⟩:=mem_erase_swap hx hy
    exact ⟨y,a,hyt,fills_snoc.mpr ⟨x,b,hxs,by rw [List.erase_comm];exact h⟩⟩
theorem Rises.erase {l:List Nat}(n:Nat)(h:Rises l):Rises (l.erase n):=List.Pairwise.sublist List.erase_sublist h
theorem nodup_not_erase {n:Nat}{l:List Nat}(h:l.Nodup):¬ n∈l.erase n:=fun m=>by
 have:=(h.mem_erase_iff).mp m
 exact this.1 rfl
theorem picks_snoc (ss:List (List Nat))(s:List Nat):picksOf (ss++[s])=stepPicks (picksOf ss) s:=by
 unfold picksOf
 rw [List.foldl_append]
 rfl
theorem mem_picks (ss:List (List Nat)):∀ r,r∈picksOf ss↔Rises r/\fillsSets r ss=true:=by
 refine snoc_ind (P:=fun ss=>∀ r,r∈picksOf ss↔Rises r/\fillsSets r ss=true) ?_ ?_ ss
 · intro r
   show r∈([[]]:List (List Nat))↔_
   rw [fills_nil,List.mem_singleton]
   constructor
   · rintro rfl
     exact ⟨List.Pairwise.nil,rfl⟩
   · exact fun h=>h.2
 · intro ss s ih r
   rw [picks_snoc]
   unfold stepPicks
   rw [mem_fold,fills_snoc]
   constructor
   · rintro (h|⟨p,hp,n,hn,h1,rfl⟩)
     · simp at h
     · obtain ⟨rp,fp⟩:=(ih p).mp hp
       exact ⟨rises_insS rp h1,n,mem_insS.mpr (.inl rfl),hn,by rw [erase_insS h1];exact fp⟩
   · rintro ⟨hr,n,hn,hs,h⟩
     exact .inr ⟨r.erase n,(ih _).mpr ⟨hr.erase n,h⟩,n,hs,nodup_not_erase hr.nodup,(insS_erase hr hn).symm⟩
theorem nodup_picks (ss:List (List Nat)):(picksOf ss).Nodup:=by
 refine snoc_ind (P:=fun ss=>(picksOf ss).Nodup) ?_ ?_ ss
 · show ([[]]:List (List Nat)).Nodup
   simp
 · intro ss s _
   rw [picks_snoc]
   exact nodup_fold List.nodup_nil
theorem fills_len:∀ {ss:List (List Nat)} {row:List Nat},fillsSets row ss=true->row.length=ss.length/\∀ x∈row,∃ s∈ss,x∈s
 | [],row,h=>by
  have:=fills_nil.mp h
  subst this
  exact ⟨rfl,fun x hx=>by simp at hx⟩
 | t::ss,row,h=>by
  obtain ⟨y,hy,hyt,h⟩:=fills_cons.mp h
  obtain ⟨h1,h2⟩:=fills_len h
  have e:=List.length_erase_of_mem hy
  have:0 < row.length:=List.length_pos_of_mem hy
  refine ⟨by rw [List.length_cons];omega,fun x hx=>?_⟩
  by_cases c:x=y
  · subst c;exact ⟨t,by simp,hyt⟩
  · obtain ⟨s,hs,hxs⟩:=h2 x ((List.mem_erase_of_ne c).mpr hx)
    exact ⟨s,by simp [hs],hxs⟩
theorem mem_rising:∀ {k:Nat} {l r:List Nat},r.Sublist l->r.length=k->r∈risingRows k l
 | 0,l,r,_,h=>by
  have:r=[]:=List.length_eq_zero_iff.mp h
  subst this
  simp [risingRows]
 | k+1,_,_,.slnil,h=>by simp at h
 | k+1,x::l,r,.cons _ h',h=>by
  rw [risingRows,List.mem_append]
  exact .inr (mem_rising h' h)
 | k+1,x::l,_::r,.cons_cons _ h',h=>by
  rw [risingRows,List.mem_append]
  exact .inl (List.mem_map.mpr ⟨r,mem_rising h' (by simpa using h),rfl⟩)
theorem rising_len:∀ (k:Nat) (l r:List Nat),r∈risingRows k l->r.length=k
 | 0,_,r,h=>by
  have:r=[]:=by simpa [risingRows] using h
  subst this
  rfl
 | k+1,[],r,h=>by simp [risingRows] at h
 | k+1,x::l,r,h=>by
  rw [risingRows,List.mem_append] at h
  rcases h with h|h
  · obtain ⟨q,hq,rfl⟩:=List.mem_map.mp h
    rw [List.length_cons,rising_len k l q hq]
  · exact rising_len (k+1) l r h
theorem nodup_rising:∀ (k:Nat) (l:List Nat),l.Nodup->(risingRows k l).Nodup
 | 0,_,_=>by simp [risingRows]
 | k+1,[],_=>by simp [risingRows]
 | k+1,x::l,nd=>by
  obtain ⟨h1,h2⟩:=List.nodup_cons.mp nd
  rw [risingRows]
  refine List.nodup_append.mpr ⟨?_,nodup_rising (k+1) l h2,?_⟩
  · exact List.Pairwise.map _ (fun a b (h:a≠b) e=>h (by injection e)) (nodup_rising k l h2)
  · intro a ha b hb e
    obtain ⟨q,_,rfl⟩:=List.mem_map.mp ha
    subst e
    exact h1 ((rising_sub _ _ _ hb).subset (by simp))
theorem sub_of_rises:∀ {u r:List Nat},Rises u->Rises r->(∀ x∈r,x∈u)->r.Sublist u
 | _,[],_,_,_=>List.nil_sublist _
 | [],x::r,_,_,h=>by simpa using h x (by simp)
 | y::u,x::r,hu,hr,h=>by
  obtain ⟨u1,u2⟩:=List.pairwise_cons.mp hu
  obtain ⟨r1,r2⟩:=List.pairwise_cons.mp hr
  by_cases e:x=y
  · subst e
    refine (sub_of_rises u2 r2 fun z hz=>?_).cons_cons x
    rcases List.mem_cons.mp (h z (by simp [hz])) with q|q
    · have:=r1 z hz;omega
    · exact q
  · have hx:x∈u:=by
     rcases List.mem_cons.mp (h x (by simp)) with q|q
     · exact absurd q e
     · exact q
    refine (sub_of_rises u2 hr fun z hz=>?_).cons y
    have lt:=u1 x hx
    rcases List.mem_cons.mp (h z hz) with q|q
    · subst q
      rcases List.mem_cons.mp hz with q|q
      · exact absurd q.symm e
      · have:=r1 z q;omega
    · exact q
theorem mem_together {l:List (List Nat)}{x:Nat}:x∈together l↔x < 32/\∃ s∈l,x∈s:=by
 unfold together
 rw [List.mem_filter,List.mem_range,List.any_eq_true]
 constructor
 · rintro ⟨h,s,hs,hx⟩
   exact ⟨h,s,hs,by simpa using hx⟩
 · rintro ⟨h,s,hs,hx⟩
   exact ⟨h,s,hs,by simpa using hx⟩
theorem rises_together (l:List (List Nat)):Rises (together l):=List.Pairwise.filter _ List.pairwise_lt_range
structure GoodSet (heads s:List Nat):Prop where
 rise:Rises s
 sub:∀ x∈s,x∈heads
structure GoodHeads (heads:List Nat):Prop where
 rise:Rises heads
 lo:∀ x∈heads,1<=x
 hi:∀ x∈heads,x<=24
theorem rises_le:∀ {l:List Nat} {n:Nat},Rises l->(∀ x∈l,1<=x/\x<=n)->l.length<=n:=fun {l n} h hb=>by
 have:=len_le_of_sub (m:=(List.range n).map (·+1)) h.nodup fun x hx=>by
  obtain ⟨a,b⟩:=hb x hx
  exact List.mem_map.mpr ⟨x - 1,List.mem_range.mpr (by omega),by omega⟩
 simpa using this
theorem GoodSet.len {heads s:List Nat}(g:GoodSet heads s)(h:GoodHeads heads):s.length<=24 :=
 rises_le g.rise fun x hx=>⟨h.lo x (g.sub x hx),h.hi x (g.sub x hx)⟩
def upTo24 (z:Nat):Bool:=decide (1<=z)&&decide (z<=24)
def countM (kind:Kind)(how:How)(k:Nat)(sets:List (List Nat)):Nat :=
 match how with
 | .on=>match kind with
  | .order=>cntA sets upTo24
  | .any=>(picksOf sets).length
  | _=>product (sets.map List.length)
 | .box=>match kind with
  | .order=>rowsAmong (sets.headD []).length k
  | _=>picksAmong (sets.headD []).length k
 | .key=>match kind with
  | .order=>picksAmong (sets.getD 1 []).length (k - (sets.headD []).length)*rowsAmong k k
  | _=>picksAmong (sets.getD 1 []).length (k - (sets.headD []).length)
theorem apart_mem:∀ (ss:List (List Nat)) (had r:List Nat),r∈apartRows ss had->r.length=ss.length/\r.Nodup/\(∀ x∈r,¬ x∈had/\∃ s∈ss,x∈s)
 | [],_,r,h=>by
  have:r=[]:=by simpa [apartRows] using h
  subst this
  simp
 | s::ss,had,r,h=>by
  rw [apartRows,List.mem_flatMap] at h
  obtain ⟨x,hx,h⟩:=h
  obtain ⟨q,hq,rfl⟩:=List.mem_map.mp h
  obtain ⟨hxs,hxh⟩:=List.mem_filter.mp hx
  have hxh':¬ x∈had:=by simpa using hxh
  obtain ⟨a,b,c⟩:=apart_mem ss (x::had) q hq
  refine ⟨by rw [List.length_cons,a,List.length_cons],List.nodup_cons.mpr ⟨fun m=>(c x m).1 (by simp),b⟩,fun y hy=>?_⟩
  rcases List.mem_cons.mp hy with rfl|hy
  · exact ⟨hxh',s,by simp,hxs⟩
  · obtain ⟨c1,t,ht,hyt⟩:=c y hy
    exact ⟨fun m=>c1 (by simp [m]),t,by simp [ht],hyt⟩
section
variable {C:Card}{b:Bet}{p:Pool}
theorem sets_one (hl:p.kind≠.legs):(C.sets p).headD []=C.headsOf p.race:=by
 unfold Card.sets Pool.legs
 rw [if_neg hl]
 rfl
theorem combo_order {row:List Nat}(hk:p.kind=.order):C.isCombo p row=(row.length==p.k&&(decide row.Nodup&&row.all fun x=>(C.headsOf p.race).contains x)):=by
 unfold Card.isCombo
 rw [hk]
 simp only [sets_one (C:=C) (p:=p) (by rw [hk];decide)]
theorem combo_any {row:List Nat}(hk:p.kind=.any):C.isCombo p row=(row.length==p.k&&(risesN row&&row.all fun x=>(C.headsOf p.race).contains x)):=by
 unfold Card.isCombo
 rw [hk]
 simp only [sets_one (C:=C) (p:=p) (by rw [hk];decide)]
structure BetOk (C:Card)(b:Bet)(p:Pool):Prop where
 pool:C.pool b.pool=p
 heads:p.kind≠.legs->GoodHeads (C.headsOf p.race)
 k:p.kind≠.legs->p.kind≠.place->2<=p.k/\p.k<=mostK p.kind
 good:p.kind≠.legs->∀ s∈b.sets,GoodSet (C.headsOf p.race) s
 place:p.kind=.place->b.how=.on/\b.sets.length=1
 legs:p.kind=.legs->b.how=.on
 on:p.kind≠.legs->p.kind≠.place->b.how=.on->b.sets.length=p.k
 box:b.how=.box->∃ s,b.sets=[s]/\p.k<=s.length
 key:b.how=.key->∃ s t,b.sets=[s,t]/\s.length < p.k/\(∀ x∈t,¬ x∈s)/\p.k<=s.length+t.length
theorem count_in {A u:List Nat}(ru:Rises u)(rA:A.Nodup)(h:∀ x,x∈A->x∈u):(u.filter A.contains).length=A.length:=by
 refine len_eq_of_same (ru.nodup.filter _) rA fun x=>?_
 rw [List.mem_filter]
 simp only [List.contains_eq_mem,decide_eq_true_eq]
 exact ⟨fun z=>z.2,fun z=>⟨h x z,z⟩⟩
theorem order_rows (hk:p.kind=.order){A u:List Nat}(ru:Rises u)(hu:∀ x∈u,x∈C.headsOf p.race)(hA:∀ x∈A,x∈u){f:List Nat->Bool}
  (hf:∀ r,(∀ x∈r,x∈u)->f r=(C.isCombo p r&&A.all fun x=>r.contains x)) :
  ((apartRows (List.replicate p.k u) []).filter f).length=rowsN p.k (u.filter A.contains).length (u.filter fun y=>!A.contains y).length:=by
 have e:=apart_count A u ru.nodup hA p.k []
 have e1:u.filter (inA A [])=u.filter A.contains:=List.filter_congr fun y _=>by unfold inA;simp
 have e2:(u.filter (inB A []))=u.filter fun y=>!A.contains y:=List.filter_congr fun y _=>by unfold inB;simp
 rw [e1,e2] at e
 rw [← e]
 congr 1
 refine List.filter_congr fun r hr=>?_
 obtain ⟨h1,h2,h3⟩:=apart_mem _ _ _ hr
 have sub:∀ x∈r,x∈u:=fun x hx=>by
  obtain ⟨_,s,hs,hxs⟩:=h3 x hx
  rw [List.eq_of_mem_replicate hs] at hxs
  exact hxs
 rw [hf r sub,combo_order hk]
 have a1:(r.length==p.k)=true:=by simpa using h1
 have a2:(r.all fun x=>(C.headsOf p.race).contains x)=true:=by
  rw [List.all_eq_true]
  intro x hx
  simpa using hu x (sub x hx)
 rw [a1,a2,decide_eq_true h2]
 unfold okRow
 simp
theorem any_rows (hk:p.kind=.any){A u:List Nat}(ru:Rises u)(hu:∀ x∈u,x∈C.headsOf p.race)(hA:∀ x∈A,x∈u){f:List Nat->Bool}
  (hf:∀ r,(∀ x∈r,x∈u)->f r=(C.isCombo p r&&A.all fun x=>r.contains x)) :
  ((risingRows p.k u).filter f).length=if (u.filter A.contains).length<=p.k then binom (u.filter fun y=>!A.contains y).length (p.k - (u.filter A.contains).length) else 0:=by
 rw [← rising_count A u ru.nodup p.k]
 congr 1
 refine List.filter_congr fun r hr=>?_
 have hs:=rising_sub _ _ _ hr
 have sub:∀ x∈r,x∈u:=fun x hx=>hs.subset hx
 have rr:Rises r:=List.Pairwise.sublist hs ru
 rw [hf r sub,combo_any hk]
 have a1:(r.length==p.k)=true:=by simpa using rising_len _ _ _ hr
 have a2:(r.all fun x=>(C.headsOf p.race).contains x)=true:=by
  rw [List.all_eq_true]
  intro x hx
  simpa using hu x (sub x hx)
 rw [a1,a2,(rises_iff r).mpr rr]
 unfold coversL
 rw [Bool.true_and,Bool.true_and,Bool.true_and,Bool.eq_iff_iff,List.all_eq_true,List.all_eq_true]
 constructor
 · intro h y _
   by_cases c:y∈A
   · have:=h y c
     simp only [List.contains_eq_mem,decide_eq_true_eq] at this
     simp [this]
   · simp [c]
 · intro h y hy
   have:=h y (hA y hy)
   simpa [hy] using this
theorem together_sub {l:List (List Nat)}{heads:List Nat}(h:∀ s∈l,GoodSet heads s):∀ x∈together l,x∈heads:=fun x hx=>by
 obtain ⟨_,s,hs,hxs⟩:=mem_together.mp hx
 exact (h s hs).sub x hxs
theorem sub_together {l:List (List Nat)}{heads s:List Nat}(gh:GoodHeads heads)(h:∀ s∈l,GoodSet heads s)(hs:s∈l):∀ x∈s,x∈together l:=fun x hx =>
 mem_together.mpr ⟨Nat.lt_of_le_of_lt (gh.hi x ((h s hs).sub x hx)) (by decide),s,hs,hx⟩
theorem filter_not_nil (u:List Nat):(u.filter fun y=>!([]:List Nat).contains y)=u:=by
 apply List.filter_eq_self.mpr
 intro a _
 simp
theorem filter_nil_c (u:List Nat):(u.filter ([]:List Nat).contains)=[]:=by
 apply List.filter_eq_nil_iff.mpr
 intro a _
 simp
theorem len_together1 {s heads:List Nat}(gh:GoodHeads heads)(g:GoodSet heads s):(together [s]).length=s.length:=by
 refine len_eq_of_same (rises_together _).nodup g.rise.nodup fun x=>?_
 rw [mem_together]
 constructor
 · rintro ⟨_,t,ht,hx⟩
   have:t=s:=by simpa using ht
   exact this ▸ hx
 · intro hx
   exact ⟨Nat.lt_of_le_of_lt (gh.hi x (g.sub x hx)) (by decide),s,by simp,hx⟩
theorem len_together2 {A B heads:List Nat}(gh:GoodHeads heads)(gA:GoodSet heads A)(gB:GoodSet heads B)(dis:∀ x∈B,¬ x∈A) :
  ((together [A,B]).filter A.contains).length=A.length/\((together [A,B]).filter fun y=>!A.contains y).length=B.length:=by
 have good:∀ s∈[A,B],GoodSet heads s:=fun s hs=>by
  rcases List.mem_cons.mp hs with rfl|hs
  · exact gA
  · have:s=B:=by simpa using hs
    exact this ▸ gB
 refine ⟨count_in (rises_together _) gA.rise.nodup (sub_together gh good (by simp)),?_⟩
 refine len_eq_of_same ((rises_together _).nodup.filter _) gB.rise.nodup fun x=>?_
 rw [List.mem_filter,mem_together]
 simp only [List.contains_eq_mem,Bool.not_eq_true',decide_eq_false_iff_not]
 constructor
 · rintro ⟨⟨_,t,ht,hx⟩,hn⟩
   rcases List.mem_cons.mp ht with rfl|ht
   · exact absurd hx hn
   · have:t=B:=by simpa using ht
     exact this ▸ hx
 · intro hx
   exact ⟨⟨Nat.lt_of_le_of_lt (gh.hi x (gB.sub x hx)) (by decide),B,by simp,hx⟩,dis x hx⟩
theorem manyOf_count (v:BetOk C b p):C.manyOf b=countM p.kind b.how p.k b.sets:=by
 have hp:=v.pool
 unfold Card.manyOf Card.rows
 rw [hp]
 dsimp only
 cases hk:p.kind with
 | legs =>
  rw [if_pos rfl]
  unfold countM
  rw [v.legs hk]
 | place =>
  obtain ⟨h1,h2⟩:=v.place hk
  rw [if_neg (by decide)]
  unfold countM
  rw [h1]
  match hs:b.sets,h2 with
  | [s],_=>simp [product]
 | order =>
  rw [if_neg (by decide)]
  have nl:p.kind≠.legs:=by rw [hk];decide
  have np:p.kind≠.place:=by rw [hk];decide
  have gh:=v.heads nl
  obtain ⟨k2,k4⟩:=v.k nl np
  have k4:p.k<=4:=by rw [hk] at k4;exact k4
  cases hh:b.how with
  | on =>
   show (apartRows b.sets []).length=cntA b.sets upTo24
   rw [apart_len]
   refine cntA_congr _ fun s hs y hy=>?_
   have hy':=(v.good nl s hs).sub y hy
   have:=gh.lo y hy'
   have:=gh.hi y hy'
   unfold upTo24
   simp [*]
  | box =>
   obtain ⟨s,hs,hl⟩:=v.box hh
   have g:GoodSet (C.headsOf p.race) s:=v.good nl s (by rw [hs];simp)
   have good:∀ t∈[s],GoodSet (C.headsOf p.race) t:=fun t ht=>by
    have:t=s:=by simpa using ht
    exact this ▸ g
   show ((apartRows (List.replicate p.k (together b.sets)) []).filter (C.has b)).length=rowsAmong (b.sets.headD []).length p.k
   rw [hs]
   rw [order_rows (A:=[]) hk (rises_together _) (together_sub good) (by simp) ?_]
   · rw [filter_nil_c,filter_not_nil,len_together1 gh g]
     exact rowsN_box s.length (by have:=g.len gh;omega) p.k (by omega) hl
   · intro r hr
     unfold Card.has
     rw [hp,hh,hs]
     have:(r.all fun x=>([s].headD []).contains x)=true:=by
      rw [List.all_eq_true]
      intro x hx
      obtain ⟨_,t,ht,hxt⟩:=mem_together.mp (hr x hx)
      have:t=s:=by simpa using ht
      subst this
      simpa using hxt
     simp only [this,List.all_nil]
  | key =>
   obtain ⟨s,t,hs,hl,dis,hkl⟩:=v.key hh
   have gs:GoodSet (C.headsOf p.race) s:=v.good nl s (by rw [hs];simp)
   have gt:GoodSet (C.headsOf p.race) t:=v.good nl t (by rw [hs];simp)
   have good:∀ q∈[s,t],GoodSet (C.headsOf p.race) q:=fun q hq=>v.good nl q (by rw [hs];exact hq)
   show ((apartRows (List.replicate p.k (together b.sets)) []).filter (C.has b)).length=picksAmong (b.sets.getD 1 []).length (p.k - (b.sets.headD []).length)*rowsAmong p.k p.k
   rw [hs]
   rw [order_rows (A:=s) hk (rises_together _) (together_sub good) (sub_together gh good (by simp)) ?_]
   · obtain ⟨e1,e2⟩:=len_together2 gh gs gt dis
     rw [e1,e2]
     exact rowsN_key t.length (by have:=gt.len gh;omega) p.k (by omega) s.length (by omega) (by omega) (by omega)
   · intro r hr
     unfold Card.has
     rw [hp,hh,hs]
     have:(r.all fun x=>s.contains x||t.contains x)=true:=by
      rw [List.all_eq_true]
      intro x hx
      obtain ⟨_,q,hq,hxq⟩:=mem_together.mp (hr x hx)
      rcases List.mem_cons.mp hq with rfl|hq
      · simp [hxq]
      · have:q=t:=by simpa using hq
        subst this
        simp [hxq]
     show (C.isCombo p r&&((s.all fun x=>r.contains x)&&r.all fun x=>s.contains x||t.contains x))=_
     rw [this,Bool.and_true]
 | any =>
  rw [if_neg (by decide)]
  have nl:p.kind≠.legs:=by rw [hk];decide
  have np:p.kind≠.place:=by rw [hk];decide
  have gh:=v.heads nl
  obtain ⟨k2,k3⟩:=v.k nl np
  have k3:p.k<=3:=by rw [hk] at k3;exact k3
  cases hh:b.how with
  | on =>
   show ((risingRows p.k (together b.sets)).filter (C.has b)).length=(picksOf b.sets).length
   have hlen:=v.on nl np hh
   refine len_eq_of_same ((nodup_rising _ _ (rises_together _).nodup).filter _) (nodup_picks _) fun r=>?_
   rw [List.mem_filter,mem_picks]
   have has_eq:C.has b r=(C.isCombo p r&&fillsSets r b.sets):=by
    unfold Card.has
    rw [hp,hh]
    show (C.isCombo p r&&if p.kind=.any then _ else _)=_
    rw [if_pos hk]
   rw [has_eq,combo_any hk]
   constructor
   · rintro ⟨h1,h2⟩
     simp only [Bool.and_eq_true] at h2
     exact ⟨(rises_iff r).mp h2.1.2.1,h2.2⟩
   · rintro ⟨h1,h2⟩
     obtain ⟨l1,l2⟩:=fills_len h2
     have inu:∀ x∈r,x∈together b.sets:=fun x hx=>by
      obtain ⟨s,hs,hxs⟩:=l2 x hx
      exact sub_together gh (v.good nl) hs x hxs
     refine ⟨mem_rising (sub_of_rises (rises_together _) h1 inu) (by rw [l1,hlen]),?_⟩
     simp only [Bool.and_eq_true]
     refine ⟨⟨by simp [l1,hlen],(rises_iff r).mpr h1,?_⟩,h2⟩
     rw [List.all_eq_true]
     intro x hx
     simpa using together_sub (v.good nl) x (inu x hx)
  | box =>
   obtain ⟨s,hs,hl⟩:=v.box hh
   have g:GoodSet (C.headsOf p.race) s:=v.good nl s (by rw [hs];simp)
   have good:∀ t∈[s],GoodSet (C.headsOf p.race) t:=fun t ht=>by
    have:t=s:=by simpa using ht
    exact this ▸ g
   show ((risingRows p.k (together b.sets)).filter (C.has b)).length=picksAmong (b.sets.headD []).length p.k
   rw [hs]
   rw [any_rows (A:=[]) hk (rises_together _) (together_sub good) (by simp) ?_]
   · rw [filter_nil_c,filter_not_nil,len_together1 gh g]
     rw [if_pos (show ([]:List Nat).length<=p.k from Nat.zero_le _)]
     exact binom_small s.length (by have:=g.len gh;omega) p.k (by omega) hl
   · intro r hr
     unfold Card.has
     rw [hp,hh,hs]
     have:(r.all fun x=>([s].headD []).contains x)=true:=by
      rw [List.all_eq_true]
      intro x hx
      obtain ⟨_,t,ht,hxt⟩:=mem_together.mp (hr x hx)
      have:t=s:=by simpa using ht
      subst this
      simpa using hxt
     simp only [this,List.all_nil]
  | key =>
   obtain ⟨s,t,hs,hl,dis,hkl⟩:=v.key hh
   have gs:GoodSet (C.headsOf p.race) s:=v.good nl s (by rw [hs];simp)
   have gt:GoodSet (C.headsOf p.race) t:=v.good nl t (by rw [hs];simp)
   have good:∀ q∈[s,t],GoodSet (C.headsOf p.race) q:=fun q hq=>v.good nl q (by rw [hs];exact hq)
   show ((risingRows p.k (together b.sets)).filter (C.has b)).length=picksAmong (b.sets.getD 1 []).length (p.k - (b.sets.headD []).length)
   rw [hs]
   rw [any_rows (A:=s) hk (rises_together _) (together_sub good) (sub_together gh good (by simp)) ?_]
   · obtain ⟨e1,e2⟩:=len_together2 gh gs gt dis
     rw [e1,e2,if_pos (by omega)]
     exact binom_small t.length (by have:=gt.len gh;omega) (p.k - s.length) (by omega) (by omega)
   · intro r hr
     unfold Card.has
     rw [hp,hh,hs]
     have:(r.all fun x=>s.contains x||t.contains x)=true:=by
      rw [List.all_eq_true]
      intro x hx
      obtain ⟨_,q,hq,hxq⟩:=mem_together.mp (hr x hx)
      rcases List.mem_cons.mp hq with rfl|hq
      · simp [hxq]
      · have:q=t:=by simpa using hq
        subst this
        simp [hxq]
     show (C.isCombo p r&&((s.all fun x=>r.contains x)&&r.all fun x=>s.contains x||t.contains x))=_
     rw [this,Bool.and_true]
end
abbrev W:=List Nat
def isLet (c:Nat):Bool:=decide (97<=c)&&decide (c<=122)
def isDig (c:Nat):Bool:=decide (48<=c)&&decide (c<=57)
def okS (c:Nat):Bool:=isLet c||isDig c||c==32||c==10||c==44||c==47
def sg (c:Nat):Nat:=if okS c=true then c else 63
def tx (w:Bytes):W:=w.map fun c=>sg c.toNat
def cd (s:String):W:=s.toList.map Char.toNat
theorem sg_ok {c d:Nat}(h:okS d=true):sg c=d↔c=d:=by
 unfold sg
 by_cases e:okS c=true
 · rw [if_pos e]
 · rw [if_neg e]
   constructor
   · intro q
     subst q
     exact absurd h (by decide)
   · rintro rfl
     exact absurd h e
theorem sg_let (c:Nat):isLet (sg c)=isLet c:=by
 unfold sg
 by_cases e:okS c=true
 · rw [if_pos e]
 · rw [if_neg e]
   have:isLet c=false:=by
    cases h:isLet c with
    | false=>rfl
    | true=>exact absurd (by unfold okS;rw [h];simp) e
   rw [this]
   decide
theorem sg_dig (c:Nat):isDig (sg c)=isDig c:=by
 unfold sg
 by_cases e:okS c=true
 · rw [if_pos e]
 · rw [if_neg e]
   have:isDig c=false:=by
    cases h:isDig c with
    | false=>rfl
    | true=>exact absurd (by unfold okS;rw [h];simp) e
   rw [this]
   decide
theorem sg_of_dig {c:Nat}(h:isDig c=true):sg c=c:=by
 unfold sg okS
 rw [h]
 simp
theorem tx_length (w:Bytes):(tx w).length=w.length:=by unfold tx;rw [List.length_map]
theorem tx_append (v w:Bytes):tx (v++w)=tx v++tx w:=by unfold tx;rw [List.map_append]
theorem tx_nil:tx []=[]:=rfl
theorem tx_cons (c:UInt8)(w:Bytes):tx (c::w)=sg c.toNat::tx w:=rfl
theorem u8_inj {a b:UInt8}(h:a.toNat=b.toNat):a=b:=UInt8.toNat_inj.mp h
theorem tx_eq {v:Bytes}:∀ {w:Bytes},(∀ c∈v,okS c.toNat=true)->(tx w=v.map UInt8.toNat↔w=v):=by
 induction v with
 | nil =>
  intro w _
  cases w with
  | nil=>simp [tx]
  | cons=>simp [tx]
 | cons d v ih =>
  intro w h
  cases w with
  | nil=>simp [tx]
  | cons c w =>
   have h1:=h d (by simp)
   have h2:=ih (w:=w) fun c hc=>h c (by simp [hc])
   rw [tx_cons,List.map_cons,List.cons.injEq,List.cons.injEq,sg_ok h1,h2]
   exact and_congr_left' ⟨u8_inj,fun e=>e ▸ rfl⟩
def plainT (s:String):Bool:=s.toList.all fun c=>okS c.toNat&&decide (c.toNat < 256)
theorem ascii_codes {s:String}(h:plainT s=true):(ascii s).map UInt8.toNat=cd s:=by
 unfold ascii cd
 rw [List.map_map]
 refine List.map_congr_left fun c hc=>?_
 have:=(List.all_eq_true.mp h) c hc
 rw [Bool.and_eq_true] at this
 have lt:c.toNat < 256:=of_decide_eq_true this.2
 show (UInt8.ofNat c.toNat).toNat=c.toNat
 rw [UInt8.toNat_ofNat']
 exact Nat.mod_eq_of_lt lt
theorem tx_lit {s:String}(w:Bytes)(h:plainT s=true):tx w=cd s↔w=ascii s:=by
 rw [← ascii_codes h]
 refine tx_eq fun c hc=>?_
 unfold ascii at hc
 obtain ⟨d,hd,rfl⟩:=List.mem_map.mp hc
 have:=(List.all_eq_true.mp h) d hd
 rw [Bool.and_eq_true] at this
 have lt:d.toNat < 256:=of_decide_eq_true this.2
 rw [UInt8.toNat_ofNat',Nat.mod_eq_of_lt lt]
 exact this.1
def nameM (w:W):Bool:=decide (1<=w.length)&&decide (w.length<=12)&&isLet (w.headD 0)&&w.all fun c=>isLet c||isDig c
theorem name_tx (w:Bytes):nameM (tx w)=isName w:=by
 unfold nameM isName
 rw [tx_length]
 have e1:((tx w).all fun c=>isLet c||isDig c)=w.all fun c=>isSmall c||isDigit c:=by
  unfold tx
  rw [List.all_map]
  congr 1
  funext c
  show (isLet (sg c.toNat)||isDig (sg c.toNat))=_
  rw [sg_let,sg_dig]
  rfl
 rw [e1]
 cases w with
 | nil=>rfl
 | cons c r =>
  have e2:isLet ((tx (c::r)).headD 0)=(((c::r).head?.map isSmall).getD false):=by
   show isLet (sg c.toNat)=isSmall c
   rw [sg_let]
   rfl
  rw [e2]
  unfold NAME
  generalize decide (1<=(c::r).length)=a
  generalize decide ((c::r).length<=12)=b
  generalize ((c::r).head?.map isSmall).getD false=d
  generalize ((c::r).all fun c=>isSmall c||isDigit c)=f
  cases a <;> cases b <;> cases d <;> cases f <;> rfl
def valD (w:W):Nat:=w.foldl (fun n c=>10*n+(c - 48)) 0
def numM (w:W):Int :=
 if 7 < w.length∨w=[]∨w.all isDig=false then -1 else if w.headD 0=48/\w≠[48] then -1 else (valD w:Int)
theorem fold_ge:∀ (w:Bytes) (n m:Nat),m<=n->m*10 ^ w.length<=w.foldl (fun (n:Nat) (c:UInt8)=>10*n+(c.toNat - 48)) n
 | [],n,m,h=>by simpa using h
 | c::w,n,m,h=>by
  have:=fold_ge w (10*n+(c.toNat - 48)) (10*m) (by omega)
  rw [List.foldl_cons,List.length_cons,Nat.pow_succ]
  have e:m*(10 ^ w.length*10)=10*m*10 ^ w.length:=by
   rw [Nat.mul_comm (10 ^ w.length) 10,← Nat.mul_assoc,Nat.mul_comm m 10]
  omega
theorem numberOf_big {w:Bytes}{n:Nat}(h:numberOf w=some n)(hl:7 < w.length):10000000<=n:=by
 unfold numberOf at h
 split at h
 · cases h
 · rename_i hc
   have hc':¬ (w.isEmpty=true)/\¬ (w.all isDigit=false)/\¬ (w.head?=some 48/\w≠[48]):=⟨fun z=>hc (.inl z),fun z=>hc (.inr (.inl z)),fun z=>hc (.inr (.inr z))⟩
   injection h with h
   subst h
   match w,hl with
   | c::r,hl =>
    have hd:isDigit c=true:=by
     have:(c::r).all isDigit=true:=by simpa using hc'.2.1
     rw [List.all_cons,Bool.and_eq_true] at this
     exact this.1
    have c0:c≠48:=fun e=>hc'.2.2 ⟨by rw [e];rfl,fun q=>by rw [q] at hl;simp at hl⟩
    unfold isDigit at hd
    rw [Bool.and_eq_true,decide_eq_true_iff,decide_eq_true_iff] at hd
    have h1:48<=c.toNat:=hd.1
    have h2:c.toNat≠48:=fun e=>c0 (u8_inj e)
    have:=fold_ge r (10*0+(c.toNat - 48)) 1 (by omega)
    rw [List.foldl_cons]
    have p:10 ^ 7<=10 ^ r.length:=Nat.pow_le_pow_right (by decide) (by simp at hl;omega)
    have p7:(10:Nat) ^ 7=10000000:=by decide
    omega
theorem fold_tx:∀ (w:Bytes) (n:Nat),w.all isDigit=true->(tx w).foldl (fun n c=>10*n+(c - 48)) n=w.foldl (fun (n:Nat) (c:UInt8)=>10*n+(c.toNat - 48)) n
 | [],_,_=>rfl
 | c::w,n,h=>by
  rw [List.all_cons,Bool.and_eq_true] at h
  have:sg c.toNat=c.toNat:=sg_of_dig h.1
  rw [tx_cons,List.foldl_cons,List.foldl_cons,this]
  exact fold_tx w _ h.2
theorem all_dig_tx (w:Bytes):(tx w).all isDig=w.all isDigit:=by
 unfold tx
 rw [List.all_map]
 congr 1
 funext c
 exact sg_dig c.toNat
theorem num_tx (w:Bytes):numM (tx w)=if 7 < w.length then -1 else match numberOf w with
  | none=>-1
  | some n=>(n:Int):=by
 unfold numM numberOf
 rw [tx_length,all_dig_tx]
 by_cases h7:7 < w.length
 · rw [if_pos h7,if_pos (.inl h7)]
 · rw [if_neg h7]
   by_cases c1:w=[]
   · subst c1;rfl
   · have e1:¬ tx w=[]:=fun z=>c1 (by
      have:=congrArg List.length z
      rw [tx_length] at this
      exact List.length_eq_zero_iff.mp this)
     have e1':¬ w.isEmpty=true:=fun z=>c1 (List.isEmpty_iff.mp z)
     by_cases c2:w.all isDigit=false
     · rw [if_pos (.inr (.inr c2)),if_pos (.inr (.inl c2))]
     · rw [if_neg (fun z=>z.elim h7 fun z=>z.elim e1 c2)]
       have c2':w.all isDigit=true:=by simpa using c2
       have k:((tx w).headD 0=48/\tx w≠[48])↔(w.head?=some 48/\w≠[48]):=by
        have a:tx w=[48]↔w=[48]:=tx_eq (v:=[48]) (w:=w) (by decide)
        match w,c1 with
        | c::r,_ =>
         have b:(tx (c::r)).headD 0=48↔(c::r).head?=some 48:=by
          show sg c.toNat=48↔some c=some 48
          rw [sg_ok (by decide)]
          constructor
          · intro e
            rw [u8_inj (show c.toNat=(48:UInt8).toNat from e)]
          · intro e
            injection e with e
            rw [e]
            rfl
         rw [b]
         exact and_congr_right fun _=>not_congr a
       by_cases c3:w.head?=some 48/\w≠[48]
       · rw [if_pos (k.mpr c3),if_pos (.inr (.inr c3))]
       · rw [if_neg (fun z=>c3 (k.mp z)),if_neg (fun z=>z.elim e1' fun z=>z.elim c2 c3)]
         show ((valD (tx w):Nat):Int)=_
         unfold valD
         rw [fold_tx w 0 c2']
theorem num_in {w:Bytes}{lo hi:Nat}(hh:hi < 10000000):((lo:Int)<=numM (tx w)/\numM (tx w)<=(hi:Int))↔∃ n,numberOf w=some n/\lo<=n/\n<=hi/\numM (tx w)=(n:Int):=by
 rw [num_tx]
 by_cases h7:7 < w.length
 · rw [if_pos h7]
   constructor
   · rintro ⟨a,_⟩;omega
   · rintro ⟨n,e,_,b,_⟩
     have:=numberOf_big e h7
     omega
 · rw [if_neg h7]
   cases e:numberOf w with
   | none =>
    constructor
    · rintro ⟨a,_⟩
      have a':(lo:Int)<=-1:=a
      omega
    · rintro ⟨n,e,_⟩;cases e
   | some n =>
    constructor
    · rintro ⟨a,b⟩
      have a':(lo:Int)<=n:=a
      have b':(n:Int)<=hi:=b
      exact ⟨n,rfl,by omega,by omega,rfl⟩
    · rintro ⟨m,e,a,b,_⟩
      injection e with e
      subst e
      show (lo:Int)<=n/\(n:Int)<=hi
      omega
theorem num_eq {w:Bytes}{m:Nat}(hm:m < 10000000):numM (tx w)=(m:Int)↔numberOf w=some m:=by
 constructor
 · intro e
   obtain ⟨n,h1,h2,h3,_⟩:=(num_in (w:=w) (lo:=m) (hi:=m) hm).mp ⟨by omega,by omega⟩
   have:n=m:=by omega
   subst this
   exact h1
 · intro e
   obtain ⟨a,b⟩:=(num_in (w:=w) (lo:=m) (hi:=m) hm).mpr ⟨m,e,Nat.le_refl _,Nat.le_refl _,by
    rw [num_tx]
    by_cases h7:7 < w.length
    · have:=numberOf_big e h7;omega
    · rw [if_neg h7,e]⟩
   omega
def splitC (c:Nat):W->W->List W
 | w,[]=>[w]
 | w,x::r=>if x=c then w::splitC c [] r else splitC c (w++[x]) r
theorem split_tx {c:UInt8}(hc:okS c.toNat=true):∀ (l w:Bytes),splitC c.toNat (tx w) (tx l)=(splitOn c w l).map tx
 | [],w=>rfl
 | x::r,w=>by
  rw [tx_cons]
  unfold splitC splitOn
  by_cases e:x=c
  · rw [if_pos ((sg_ok hc).mpr (by rw [e])),if_pos e,List.map_cons]
    have:=split_tx hc r []
    rw [tx_nil] at this
    rw [this]
  · rw [if_neg (fun z=>e (u8_inj ((sg_ok hc).mp z))),if_neg e]
    have:=split_tx hc r (w++[x])
    rw [tx_append] at this
    exact this
def Placed:Nat->List Word->Prop
 | _,[]=>True
 | p,w::r=>w.at_=p/\Placed (p+w.w.length+1) r
theorem words_of:∀ (l w:Bytes) (p q:Nat),w.length<=p->badByte w.isEmpty q l=none->(wordsFrom p w l).map (·.w)=splitOn 32 w l/\Placed (p - w.length) (wordsFrom p w l)
 | [],w,p,q,hl,h=>by
  unfold badByte at h
  by_cases e:w.isEmpty=true
  · rw [if_pos e] at h;cases h
  · unfold wordsFrom
    rw [if_neg e]
    exact ⟨rfl,rfl,trivial⟩
 | c::r,w,p,q,hl,h=>by
  unfold badByte at h
  by_cases c1:c < 32∨126 < c
  · rw [if_pos c1] at h;cases h
  · rw [if_neg c1] at h
    unfold wordsFrom splitOn
    by_cases c2:c=32
    · rw [if_pos c2] at h
      by_cases e:w.isEmpty=true
      · rw [if_pos e] at h;cases h
      · rw [if_neg e] at h
        by_cases e2:r.isEmpty=true
        · rw [if_pos e2] at h;cases h
        · rw [if_neg e2] at h
          obtain ⟨a,b⟩:=words_of r [] (p+1) (q+1) (Nat.zero_le _) h
          rw [if_pos c2,if_pos c2,List.map_cons,a]
          refine ⟨rfl,rfl,?_⟩
          have:p - w.length+w.length+1=p+1 - ([]:Bytes).length:=by simp;omega
          show Placed (p - w.length+w.length+1) _
          rw [this]
          exact b
    · rw [if_neg c2] at h
      have e:(w++[c]).isEmpty=false:=by simp
      rw [← e] at h
      obtain ⟨a,b⟩:=words_of r (w++[c]) (p+1) (q+1) (by simp;omega) h
      rw [if_neg c2,if_neg c2,a]
      refine ⟨rfl,?_⟩
      have:p - w.length=p+1 - (w++[c]).length:=by rw [List.length_append,List.length_singleton];omega
      rw [this]
      exact b
def plainW (w:Bytes):Prop:=w≠[]/\∀ c∈w,32 < c/\c<=126
theorem no_bad:∀ (l w:Bytes) (q:Nat),(∀ v∈splitOn 32 w l,plainW v)->(∀ c∈w,32 < c/\c<=126)->badByte w.isEmpty q l=none
 | [],w,q,h,_=>by
  have:=h w (by simp [splitOn])
  unfold badByte
  rw [if_neg (fun z=>this.1 (List.isEmpty_iff.mp z))]
 | c::r,w,q,h,hw=>by
  unfold splitOn at h
  unfold badByte
  by_cases c2:c=32
  · rw [if_pos c2] at h
    have pw:=h w (by simp)
    have e:¬ w.isEmpty=true:=fun z=>pw.1 (List.isEmpty_iff.mp z)
    rw [if_neg (by rw [c2];decide),if_pos c2,if_neg e]
    have hr:¬ r.isEmpty=true:=fun z=>by
     have:r=[]:=List.isEmpty_iff.mp z
     subst this
     have:=h [] (by simp [splitOn])
     exact this.1 rfl
    rw [if_neg hr]
    exact no_bad r [] (q+1) (fun v hv=>h v (by simp [hv])) (by simp)
  · rw [if_neg c2] at h
    have hc:32 < c/\c<=126:=by
     have first:∀ (l w:Bytes),∃ v∈splitOn 32 w l,∃ t,v=w++t:=fun l=>by
      induction l with
      | nil=>exact fun w=>⟨w,by simp [splitOn],[],by simp⟩
      | cons d l ih =>
       intro w
       unfold splitOn
       by_cases e:d=32
       · rw [if_pos e];exact ⟨w,by simp,[],by simp⟩
       · rw [if_neg e]
         obtain ⟨v,hv,t,rfl⟩:=ih (w++[d])
         exact ⟨_,hv,d::t,by simp⟩
     obtain ⟨v,hv,t,e⟩:=first r (w++[c])
     exact (h v hv).2 c (by rw [e];simp)
    have n1:¬ (c < 32∨126 < c):=by
     rintro (z|z)
     · exact absurd (Nat.lt_trans (show c.toNat < 32 from z) (show 32 < c.toNat from hc.1)) (Nat.lt_irrefl _)
     · exact absurd (Nat.lt_of_lt_of_le (show 126 < c.toNat from z) (show c.toNat<=126 from hc.2)) (Nat.lt_irrefl _)
    rw [if_neg n1,if_neg c2]
    have e:(w++[c]).isEmpty=false:=by simp
    rw [← e]
    exact no_bad r (w++[c]) (q+1) h fun d hd=>by
     rcases List.mem_append.mp hd with z|z
     · exact hw d z
     · have:d=c:=by simpa using z
       exact this ▸ hc
theorem bind_ok {ε α β:Type}{x:Except ε α}{f:α->Except ε β}{y:β}:(x >>= f)=.ok y↔∃ a,x=.ok a/\f a=.ok y:=by
 cases x with
 | error e=>exact ⟨fun h=>(nomatch h),fun ⟨_,h,_⟩=>(nomatch h)⟩
 | ok a=>exact ⟨fun h=>⟨a,rfl,h⟩,fun ⟨_,h,k⟩=>by cases h;exact k⟩
theorem next_ok {e:Nat}{l:List Word}{x:Word×List Word}:next e l=.ok x↔l=x.1::x.2:=by
 cases l with
 | nil=>exact ⟨fun h=>(nomatch h),fun h=>(nomatch h)⟩
 | cons w r =>
  constructor
  · intro h;injection h with h;rw [← h]
  · intro h;injection h with h1 h2;subst h1;subst h2;rfl
theorem must_ok {e:Nat}{s:String}{l r:List Word}:must e s l=.ok r↔∃ w,l=w::r/\w.w=ascii s:=by
 unfold must
 rw [bind_ok]
 constructor
 · rintro ⟨x,h,k⟩
   have h:=next_ok.mp h
   split at k
   · rename_i c
     injection k with k
     exact ⟨x.1,by rw [h,k],c⟩
   · cases k
 · rintro ⟨w,rfl,c⟩
   exact ⟨(w,r),rfl,by rw [if_pos c];rfl⟩
theorem number_ok {e lo hi:Nat}{l:List Word}{x:(Nat×Nat)×List Word}:number e lo hi l=.ok x↔∃ w,l=w::x.2/\numberOf w.w=some x.1.1/\lo<=x.1.1/\x.1.1<=hi/\x.1.2=w.at_:=by
 unfold number
 rw [bind_ok]
 constructor
 · rintro ⟨y,h,k⟩
   have h:=next_ok.mp h
   cases c:numberOf y.1.w with
   | none=>rw [c] at k;cases k
   | some n =>
    rw [c] at k
    dsimp only at k
    split at k
    · cases k
    · rename_i b
      injection k with k
      subst k
      exact ⟨y.1,h,c,by dsimp only;omega,by dsimp only;omega,rfl⟩
 · rintro ⟨w,rfl,c,h1,h2,h3⟩
   refine ⟨(w,x.2),rfl,?_⟩
   dsimp only
   rw [c]
   dsimp only
   rw [if_neg (by omega)]
   show Except.ok ((x.1.1,w.at_),x.2)=Except.ok x
   rw [← h3]
theorem holds_ok {b:Bool}{k p:Nat}{u:Unit}:holds b k p=.ok u↔b=true:=by
 unfold holds
 by_cases c:b=true
 · rw [if_pos c];exact ⟨fun _=>c,fun _=>rfl⟩
 · rw [if_neg c];exact ⟨fun h=>(nomatch h),fun h=>absurd h c⟩
theorem closed_ok {l:List Word}{u:Unit}:closed l=.ok u↔l=[]:=by
 cases l with
 | nil=>exact ⟨fun _=>rfl,fun _=>rfl⟩
 | cons=>exact ⟨fun h=>(nomatch h),fun h=>(nomatch h)⟩
theorem newName_ok {e:Nat}{had:List Bytes}{l:List Word}{x:Bytes×List Word}:newName e had l=.ok x↔∃ w,l=w::x.2/\isName w.w=true/\had.contains w.w=false/\x.1=w.w:=by
 unfold newName
 rw [bind_ok]
 constructor
 · rintro ⟨y,h,k⟩
   have h:=next_ok.mp h
   split at k
   · cases k
   · rename_i c1
     split at k
     · cases k
     · rename_i c2
       injection k with k
       subst k
       exact ⟨y.1,h,by simpa using c1,by simpa using c2,rfl⟩
 · rintro ⟨w,rfl,c1,c2,c3⟩
   refine ⟨(w,x.2),rfl,?_⟩
   dsimp only
   rw [if_neg (by rw [c1];decide),if_neg (by rw [c2];decide),← c3]
   rfl
theorem oneOf_ok {α:Type}{e:Nat}{t:List (α×String)}{l:List Word}{x:(α×Nat)×List Word} :
  oneOf e t l=.ok x↔∃ w y,l=w::x.2/\(t.find? fun (y:α×String)=>ascii y.2==w.w)=some y/\x.1=(y.1,w.at_):=by
 unfold oneOf
 rw [bind_ok]
 constructor
 · rintro ⟨y,h,k⟩
   have h:=next_ok.mp h
   cases c:(t.find? fun (z:α×String)=>ascii z.2==y.1.w) with
   | none=>rw [c] at k;cases k
   | some z =>
    rw [c] at k
    injection k with k
    subst k
    exact ⟨y.1,z,h,c,rfl⟩
 · rintro ⟨w,y,rfl,c,h3⟩
   refine ⟨(w,x.2),rfl,?_⟩
   dsimp only
   rw [c]
   show Except.ok ((y.1,w.at_),x.2)=Except.ok x
   rw [← h3]
def coupM (runners:Nat):List W->List Nat->List Nat->Option (List Nat)
 | [],_,ss=>some ss
 | c::a::b::r,fs,ss =>
  if c=cd "couple"/\1<=numM a/\numM a < numM b/\numM b<=(runners:Int)/\¬ (numM a).toNat∈ss/\¬ (numM b).toNat∈fs/\¬ (numM b).toNat∈ss
  then coupM runners r (fs++[(numM a).toNat]) (ss++[(numM b).toNat]) else none
 | _,_,_=>none
def interests (runners:Nat)(ss:List Nat):List Nat:=((List.range runners).map fun i=>i+1).filter fun n=>!ss.contains n
def raceM (ws:List W):Option (List Nat) :=
 match ws with
 | _::n::r=>if r.length % 3=0/\r.length<=24/\2<=numM n/\numM n<=24 then (coupM (numM n).toNat r [] []).map (interests (numM n).toNat) else none
 | _=>none
structure Had (had:List (Nat×Nat))(fs ss:List Nat):Prop where
 f:∀ x,(∃ y,(x,y)∈had)↔x∈fs
 s:∀ y,(∃ x,(x,y)∈had)↔y∈ss
 lt:∀ x y,(x,y)∈had->x < y
theorem mem_putB {c x:Nat×Nat}:∀ {l:List (Nat×Nat)},x∈putB c l↔x=c∨x∈l
 | []=>by simp [putB]
 | y::l=>by
  unfold putB
  by_cases h:c.2 < y.2
  · rw [if_pos h];simp
  · rw [if_neg h,List.mem_cons,mem_putB (l:=l),List.mem_cons]
    constructor
    · rintro (h|h|h) <;> simp [h]
    · rintro (h|h|h) <;> simp [h]
theorem Had.put {had:List (Nat×Nat)}{fs ss:List Nat}(h:Had had fs ss){a b:Nat}(lt:a < b):Had (putB (a,b) had) (fs++[a]) (ss++[b]) where
 f:=fun x=>by
  rw [List.mem_append,← h.f x]
  constructor
  · rintro ⟨y,hy⟩
    rcases mem_putB.mp hy with e|e
    · injection e with e1 e2;subst e1;exact .inr (by simp)
    · exact .inl ⟨y,e⟩
  · rintro (⟨y,hy⟩|e)
    · exact ⟨y,mem_putB.mpr (.inr hy)⟩
    · have:x=a:=by simpa using e
      subst this
      exact ⟨b,mem_putB.mpr (.inl rfl)⟩
 s:=fun y=>by
  rw [List.mem_append,← h.s y]
  constructor
  · rintro ⟨x,hx⟩
    rcases mem_putB.mp hx with e|e
    · injection e with e1 e2;subst e2;exact .inr (by simp)
    · exact .inl ⟨x,e⟩
  · rintro (⟨x,hx⟩|e)
    · exact ⟨x,mem_putB.mpr (.inr hx)⟩
    · have:y=b:=by simpa using e
      subst this
      exact ⟨a,mem_putB.mpr (.inl rfl)⟩
 lt:=fun x y hxy=>by
  rcases mem_putB.mp hxy with e|e
  · injection e with e1 e2;subst e1;subst e2;exact lt
  · exact h.lt x y e
theorem Had.any1 {had:List (Nat×Nat)}{fs ss:List Nat}(h:Had had fs ss)(a:Nat):(had.any fun x=>x.2==a)=true↔a∈ss:=by
 rw [List.any_eq_true,← h.s a]
 constructor
 · rintro ⟨⟨x,y⟩,hx,e⟩
   have:y=a:=by simpa using e
   subst this
   exact ⟨x,hx⟩
 · rintro ⟨x,hx⟩
   exact ⟨(x,a),hx,by simp⟩
theorem Had.any2 {had:List (Nat×Nat)}{fs ss:List Nat}(h:Had had fs ss)(b:Nat):(had.any fun x=>x.1==b||x.2==b)=true↔b∈fs∨b∈ss:=by
 rw [List.any_eq_true,← h.s b,← h.f b]
 constructor
 · rintro ⟨⟨x,y⟩,hx,e⟩
   have:x=b∨y=b:=by simpa using e
   rcases this with rfl|rfl
   · exact .inl ⟨y,hx⟩
   · exact .inr ⟨x,hx⟩
 · rintro (⟨y,hx⟩|⟨x,hx⟩)
   · exact ⟨(b,y),hx,by simp⟩
   · exact ⟨(x,b),hx,by simp⟩
def txs (l:List Word):List W:=l.map fun w=>tx w.w
theorem couple_step {e runners k:Nat}{had had':List (Nat×Nat)}{l:List Word}:l≠[]->(couplesIn e runners (k+1) had l=.ok had' ↔
  ∃ c a b r na nb,l=c::a::b::r/\c.w=ascii "couple"/\numberOf a.w=some na/\1<=na/\na<=runners/\(had.any fun x=>x.2==na)=false /\
   numberOf b.w=some nb/\1<=nb/\nb<=runners/\na < nb/\(had.any fun x=>x.1==nb||x.2==nb)=false/\couplesIn e runners k (putB (na,nb) had) r=.ok had'):=by
 intro hl
 have he:¬ l.isEmpty=true:=fun z=>hl (List.isEmpty_iff.mp z)
 have step:couplesIn e runners (k+1) had l=(do
  let m ← must e "couple" l
  let a ← number e 1 runners m
  let _ ← holds (!(had.any fun (x:Nat×Nat)=>x.2==a.1.1)) 4 a.1.2
  let b ← number e 1 runners a.2
  let _ ← holds (decide (a.1.1 < b.1.1)&&!(had.any fun (x:Nat×Nat)=>x.1==b.1.1||x.2==b.1.1)) 4 b.1.2
  couplesIn e runners k (putB (a.1.1,b.1.1) had) b.2):=if_neg he
 rw [step,bind_ok]
 constructor
 · rintro ⟨m,hm,h0⟩
   obtain ⟨c,hc0,hc⟩:=must_ok.mp hm
   obtain ⟨a,ha,h1⟩:=bind_ok.mp h0
   obtain ⟨wa,ha0,a1,a2,a3,a4⟩:=number_ok.mp ha
   obtain ⟨_,g1,h2⟩:=bind_ok.mp h1
   have g1:=holds_ok.mp g1
   obtain ⟨b,hb,h3⟩:=bind_ok.mp h2
   obtain ⟨wb,hb0,b1,b2,b3,b4⟩:=number_ok.mp hb
   obtain ⟨_,g2,h4⟩:=bind_ok.mp h3
   have g2:=holds_ok.mp g2
   rw [Bool.and_eq_true,decide_eq_true_iff] at g2
   exact ⟨c,wa,wb,b.2,a.1.1,b.1.1,by rw [hc0,ha0,hb0],hc,a1,a2,a3,by simpa using g1,b1,b2,b3,g2.1,by simpa using g2.2,h4⟩
 · rintro ⟨c,a,b,r,na,nb,rfl,hc,a1,a2,a3,a4,b1,b2,b3,b4,b5,h⟩
   refine ⟨_,must_ok.mpr ⟨c,rfl,hc⟩,?_⟩
   refine bind_ok.mpr ⟨((na,a.at_),b::r),number_ok.mpr ⟨a,rfl,a1,a2,a3,rfl⟩,?_⟩
   refine bind_ok.mpr ⟨(),holds_ok.mpr (by rw [a4];rfl),?_⟩
   refine bind_ok.mpr ⟨((nb,b.at_),r),number_ok.mpr ⟨b,rfl,b1,b2,b3,rfl⟩,?_⟩
   exact bind_ok.mpr ⟨(),holds_ok.mpr (by rw [b5,decide_eq_true b4];rfl),h⟩
theorem couples_iff {e runners:Nat}(hr:runners<=24):∀ (k:Nat) (had:List (Nat×Nat)) (fs ss:List Nat) (l:List Word),Had had fs ss ->
  (∀ had',couplesIn e runners k had l=.ok had'->l.length<=3*k/\∃ fs' ss',coupM runners (txs l) fs ss=some ss'/\Had had' fs' ss') /\
  (∀ ss',l.length<=3*k->coupM runners (txs l) fs ss=some ss'->∃ had',couplesIn e runners k had l=.ok had')
 | 0,had,fs,ss,l,hd=>by
  cases l with
  | nil=>exact ⟨fun had' h=>by injection h with h;subst h;exact ⟨Nat.le_refl _,fs,ss,rfl,hd⟩,fun _ _ _=>⟨had,rfl⟩⟩
  | cons w r =>
   constructor
   · intro had' h
     have h:(if w.w=ascii "couple" then Except.error ⟨6,w.at_⟩ else Except.error ⟨3,w.at_⟩:Except Fault (List (Nat×Nat)))=.ok had':=h
     by_cases c:w.w=ascii "couple"
     · rw [if_pos c] at h;cases h
     · rw [if_neg c] at h;cases h
   · intro _ h;simp at h
 | k+1,had,fs,ss,[],hd=>⟨fun had' h=>by
   have h:Except.ok had=Except.ok had':=h
   injection h with h;subst h;exact ⟨Nat.zero_le _,fs,ss,rfl,hd⟩,fun _ _ _=>⟨had,rfl⟩⟩
 | k+1,had,fs,ss,w::l,hd=>by
  constructor
  · intro had' h
    obtain ⟨c,a,b,r,na,nb,el,hc,a1,a2,a3,a4,b1,b2,b3,b4,b5,h⟩:=(couple_step (by simp)).mp h
    have hd2:=hd.put b4
    obtain ⟨hl,fs',ss',h1,h2⟩:=(couples_iff hr k _ _ _ r hd2).1 had' h
    rw [el]
    refine ⟨by simp only [List.length_cons];omega,fs',ss',?_,h2⟩
    show coupM runners (tx c.w::tx a.w::tx b.w::txs r) fs ss=_
    have ea:numM (tx a.w)=(na:Int):=(num_eq (by omega)).mpr a1
    have eb:numM (tx b.w)=(nb:Int):=(num_eq (by omega)).mpr b1
    unfold coupM
    rw [ea,eb,Int.toNat_natCast,Int.toNat_natCast]
    have n1:¬ na∈ss:=fun z=>by rw [(hd.any1 na).mpr z] at a4;cases a4
    have n2:¬ (nb∈fs∨nb∈ss):=fun z=>by rw [(hd.any2 nb).mpr z] at b5;cases b5
    rw [if_pos ⟨(tx_lit _ (by decide)).mpr hc,by omega,by omega,by omega,n1,fun z=>n2 (.inl z),fun z=>n2 (.inr z)⟩]
    exact h1
  · intro ss' hl h
    match l,hl,h with
    | [],_,h=>cases h
    | [_],_,h=>cases h
    | a::b::r,hl,h =>
     have h:coupM runners (tx w.w::tx a.w::tx b.w::txs r) fs ss=some ss':=h
     unfold coupM at h
     split at h
     · rename_i q
       obtain ⟨q1,q2,q3,q4,q5,q6,q7⟩:=q
       obtain ⟨na,a1,a2,a3,a4⟩:=(num_in (w:=a.w) (lo:=1) (hi:=24) (by decide)).mp ⟨q2,by omega⟩
       obtain ⟨nb,b1,b2,b3,b4⟩:=(num_in (w:=b.w) (lo:=1) (hi:=24) (by decide)).mp ⟨by omega,by omega⟩
       rw [a4,b4,Int.toNat_natCast,Int.toNat_natCast] at h
       rw [a4,Int.toNat_natCast] at q5
       rw [b4,Int.toNat_natCast] at q6 q7
       have lt:na < nb:=by omega
       obtain ⟨had',h'⟩:=(couples_iff hr k _ _ _ r (hd.put lt)).2 ss' (by simp only [List.length_cons] at hl;omega) h
       refine ⟨had',(couple_step (by simp)).mpr ⟨w,a,b,r,na,nb,rfl,(tx_lit _ (by decide)).mp q1,a1,a2,by omega,?_,b1,b2,by omega,lt,?_,h'⟩⟩
       · cases c:(had.any fun x=>x.2==na) with
         | false=>rfl
         | true=>exact absurd ((hd.any1 na).mp c) q5
       · cases c:(had.any fun x=>x.1==nb||x.2==nb) with
         | false=>rfl
         | true=>exact absurd ((hd.any2 nb).mp c) fun z=>z.elim q6 q7
     · cases h
theorem coup_len:∀ {runners:Nat} (l:List W) (fs ss ss':List Nat),coupM runners l fs ss=some ss'->l.length % 3=0
 | _,[],_,_,_,_=>rfl
 | _,[_],_,_,_,h=>by cases h
 | _,[_,_],_,_,_,h=>by cases h
 | runners,c::a::b::r,fs,ss,ss',h=>by
  unfold coupM at h
  split at h
  · have:=coup_len r _ _ _ h
    simp only [List.length_cons];omega
  · cases h
theorem heads_eq {n:Nat}{had:List (Nat×Nat)}{fs ss:List Nat}(hd:Had had fs ss):Race.heads ⟨n,had⟩=interests n ss:=by
 unfold Race.heads interests
 refine List.filter_congr fun x _=>?_
 unfold Race.head
 cases c:had.find? (fun c=>c.2==x) with
 | none =>
  have:¬ x∈ss:=fun z=>by
   obtain ⟨y,hy⟩:=(hd.s x).mpr z
   have:=List.find?_eq_none.mp c (y,x) hy
   simp at this
  simp [this]
 | some z =>
  obtain ⟨a,b⟩:=z
  have h1:=List.mem_of_find?_eq_some c
  have h2:=List.find?_some c
  have h2:b=x:=by simpa using h2
  subst h2
  have:=hd.lt a b h1
  have hb:b∈ss:=(hd.s b).mp ⟨a,h1⟩
  have e1:(a==b)=false:=by
   rw [beq_eq_false_iff_ne];omega
  simp [hb,e1]
theorem race_iff {e:Nat}{w:Word}{l:List Word}:(∀ r,raceIn e l=.ok r->raceM (txs (w::l))=some r.heads)/\(∀ hs,raceM (txs (w::l))=some hs->∃ r,raceIn e l=.ok r/\r.heads=hs):=by
 have nil:Had [] [] []:=⟨by simp,by simp,by simp⟩
 constructor
 · intro r h
   unfold raceIn at h
   obtain ⟨n,hn,h0⟩:=bind_ok.mp h
   obtain ⟨wn,hl0,a1,a2,a3,a4⟩:=number_ok.mp hn
   obtain ⟨c,hc,h1⟩:=bind_ok.mp h0
   injection h1 with h1
   subst h1
   rw [hl0]
   have a3:n.1.1<=24:=a3
   obtain ⟨hl,fs',ss',h1,h2⟩:=(couples_iff a3 8 [] [] [] n.2 nil).1 c hc
   have en:numM (tx wn.w)=(n.1.1:Int):=(num_eq (by omega)).mpr a1
   show raceM (tx w.w::tx wn.w::txs n.2)=_
   unfold raceM
   dsimp only
   rw [en,Int.toNat_natCast,h1]
   have:=coup_len _ _ _ _ h1
   have len:(txs n.2).length=n.2.length:=List.length_map ..
   rw [if_pos ⟨this,by omega,by omega,by omega⟩,heads_eq h2]
   rfl
 · intro hs h
   match l,h with
   | wn::l,h =>
    have h:raceM (tx w.w::tx wn.w::txs l)=some hs:=h
    unfold raceM at h
    dsimp only at h
    split at h
    · rename_i q
      obtain ⟨q1,q2,q3,q4⟩:=q
      obtain ⟨n,a1,a2,a3,a4⟩:=(num_in (w:=wn.w) (lo:=2) (hi:=24) (by decide)).mp ⟨q3,q4⟩
      rw [a4,Int.toNat_natCast] at h
      cases c:coupM n (txs l) [] [] with
      | none=>rw [c] at h;cases h
      | some ss =>
       rw [c] at h
       injection h with h
       have len:(txs l).length=l.length:=List.length_map ..
       obtain ⟨had,hh⟩:=(couples_iff (e:=e) (runners:=n) a3 8 [] [] [] l nil).2 ss (by omega) c
       obtain ⟨_,fs',ss',h1,h2⟩:=(couples_iff (e:=e) (runners:=n) a3 8 [] [] [] l nil).1 had hh
       rw [c] at h1
       injection h1 with h1
       subst h1
       refine ⟨⟨n,had⟩,?_,by rw [heads_eq h2];exact h⟩
       unfold raceIn
       refine bind_ok.mpr ⟨((n,wn.at_),l),number_ok.mpr ⟨wn,rfl,a1,a2,a3,rfl⟩,?_⟩
       exact bind_ok.mpr ⟨had,hh,rfl⟩
    · cases h
theorem interests_good {n:Nat}(hn:n<=24)(ss:List Nat):GoodHeads (interests n ss) where
 rise:=by
  refine List.Pairwise.filter _ (List.Pairwise.map _ (fun a b (h:a < b)=>?_) List.pairwise_lt_range)
  show a+1 < b+1
  omega
 lo:=fun x hx=>by
  obtain ⟨h,_⟩:=List.mem_filter.mp hx
  obtain ⟨i,_,rfl⟩:=List.mem_map.mp h
  omega
 hi:=fun x hx=>by
  obtain ⟨h,_⟩:=List.mem_filter.mp hx
  obtain ⟨i,hi,rfl⟩:=List.mem_map.mp h
  have:=List.mem_range.mp hi
  omega
theorem race_good {ws:List W}{hs:List Nat}(h:raceM ws=some hs):GoodHeads hs:=by
 unfold raceM at h
 split at h
 · rename_i w0 n r
   split at h
   · rename_i q
     cases c:coupM (numM n).toNat r [] [] with
     | none=>rw [c] at h;cases h
     | some ss =>
      rw [c] at h
      injection h with h
      subst h
      exact interests_good (by omega) _
   · cases h
 · cases h
structure PoolM where
 name:W
 kind:Kind
 fields:List (List Nat)
 unit:Nat
def kindS:Kind->String
 | .place=>"place"
 | .order=>"order"
 | .any=>"any"
 | .legs=>"legs"
def kindM (w:W):Option Kind :=
 if w=cd "place" then some .place else if w=cd "order" then some .order else if w=cd "any" then some .any else if w=cd "legs" then some .legs else none
def fieldsM (kind:Kind)(k rc:Nat)(races:List (List Nat)):List (List Nat) :=
 match kind with
 | .legs=>(races.drop (rc - 1)).take k
 | .place=>[races.getD (rc - 1) []]
 | _=>List.replicate k (races.getD (rc - 1) [])
def poolConds (races:List (List Nat))(kind:Kind)(p nm k fr rc tk t br b le m un u no z:W):Prop :=
 p=cd "pool"/\fr=cd "from"/\tk=cd "take"/\br=cd "break"/\le=cd "least"/\un=cd "unit"/\no=cd "none"/\nameM nm=true /\
 (0<=numM t/\numM t<=400)/\(1<=numM b/\numM b<=1000)/\(1<=numM u/\numM u<=10000)/\(numM m=0∨(numM u<=numM m/\numM m<=2*numM u)) /\
 ((z=cd "fewer"/\kind≠.place)∨z=cd "refund"∨z=cd "carry")/\((leastK kind:Int)<=numM k/\numM k<=(mostK kind:Int))/\(1<=numM rc/\numM rc<=(races.length:Int)) /\
 ((kind=.legs/\numM rc+numM k - 1<=(races.length:Int))∨(kind≠.legs/\numM k<=((races.getD (numM rc - 1).toNat []).length:Int)))
instance (races:List (List Nat))(kind:Kind)(p nm k fr rc tk t br b le m un u no z:W):Decidable (poolConds races kind p nm k fr rc tk t br b le m un u no z):=by
 unfold poolConds;infer_instance
def poolM (ws:List W)(races:List (List Nat)):Option PoolM :=
 match ws with
 | [p,nm,kd,k,fr,rc,tk,t,br,b,le,m,un,u,no,z] =>
  match kindM kd with
  | none=>none
  | some kind=>if poolConds races kind p nm k fr rc tk t br b le m un u no z then some ⟨nm,kind,fieldsM kind (numM k).toNat (numM rc).toNat races,(numM u).toNat⟩ else none
 | _=>none
def fieldsOf (C:Card)(p:Pool):List (List Nat):=if p.kind=.legs then C.sets p else List.replicate p.places (C.headsOf p.race)
def poolOf (C:Card)(p:Pool):PoolM:=⟨tx p.name,p.kind,fieldsOf C p,p.unit⟩
def rh (C:Card):List (List Nat):=C.races.map Race.heads
structure PoolOk (C:Card)(p:Pool):Prop where
 name:isName p.name=true
 klo:leastK p.kind<=p.k
 khi:p.k<=mostK p.kind
 rlo:1<=p.race
 rhi:p.race<=C.races.length
 legs:p.kind=.legs->p.race+p.k<=C.races.length+1
 few:p.kind≠.legs->p.k<=(C.headsOf p.race).length
 unit:1<=p.unit
 uhi:p.unit<=10000
theorem kinds_find {w:Bytes}{y:Kind×String}:(KINDS.find? fun (x:Kind×String)=>ascii x.2==w)=some y↔kindM (tx w)=some y.1/\y.2=kindS y.1:=by
 have a1:=tx_lit (s:="place") w (by decide)
 have a2:=tx_lit (s:="order") w (by decide)
 have a3:=tx_lit (s:="any") w (by decide)
 have a4:=tx_lit (s:="legs") w (by decide)
 unfold kindM KINDS
 obtain ⟨yk,ys⟩:=y
 simp only [List.find?_cons,List.find?_nil]
 by_cases c1:w=ascii "place"
 · have:(ascii "place"==w)=true:=by rw [c1];simp
   rw [this,if_pos (a1.mpr c1)]
   constructor
   · intro h;injection h with h;injection h with h1 h2;subst h1;subst h2;exact ⟨rfl,rfl⟩
   · rintro ⟨h1,h2⟩;injection h1 with h1;have h1:Kind.place=yk:=h1;subst h1;have h2:ys="place":=h2;subst h2;rfl
 · have e1:(ascii "place"==w)=false:=by rw [beq_eq_false_iff_ne];exact fun z=>c1 z.symm
   rw [e1,if_neg (fun z=>c1 (a1.mp z))]
   by_cases c2:w=ascii "order"
   · have:(ascii "order"==w)=true:=by rw [c2];simp
     rw [this,if_pos (a2.mpr c2)]
     constructor
     · intro h;injection h with h;injection h with h1 h2;subst h1;subst h2;exact ⟨rfl,rfl⟩
     · rintro ⟨h1,h2⟩;injection h1 with h1;have h1:Kind.order=yk:=h1;subst h1;have h2:ys="order":=h2;subst h2;rfl
   · have e2:(ascii "order"==w)=false:=by rw [beq_eq_false_iff_ne];exact fun z=>c2 z.symm
     rw [e2,if_neg (fun z=>c2 (a2.mp z))]
     by_cases c3:w=ascii "any"
     · have:(ascii "any"==w)=true:=by rw [c3];simp
       rw [this,if_pos (a3.mpr c3)]
       constructor
       · intro h;injection h with h;injection h with h1 h2;subst h1;subst h2;exact ⟨rfl,rfl⟩
       · rintro ⟨h1,h2⟩;injection h1 with h1;have h1:Kind.any=yk:=h1;subst h1;have h2:ys="any":=h2;subst h2;rfl
     · have e3:(ascii "any"==w)=false:=by rw [beq_eq_false_iff_ne];exact fun z=>c3 z.symm
       rw [e3,if_neg (fun z=>c3 (a3.mp z))]
       by_cases c4:w=ascii "legs"
       · have:(ascii "legs"==w)=true:=by rw [c4];simp
         rw [this,if_pos (a4.mpr c4)]
         constructor
         · intro h;injection h with h;injection h with h1 h2;subst h1;subst h2;exact ⟨rfl,rfl⟩
         · rintro ⟨h1,h2⟩;injection h1 with h1;have h1:Kind.legs=yk:=h1;subst h1;have h2:ys="legs":=h2;subst h2;rfl
       · have e4:(ascii "legs"==w)=false:=by rw [beq_eq_false_iff_ne];exact fun z=>c4 z.symm
         rw [e4,if_neg (fun z=>c4 (a4.mp z))]
         exact ⟨fun h=>(nomatch h),fun h=>(nomatch h.1)⟩
theorem nones_find {w:Bytes}{kind:Kind}:(∃ y,((if kind=.place then NONES.take 2 else NONES).find? fun (x:None_×String)=>ascii x.2==w)=some y) ↔
  ((tx w=cd "fewer"/\kind≠.place)∨tx w=cd "refund"∨tx w=cd "carry"):=by
 have a1:=tx_lit (s:="fewer") w (by decide)
 have a2:=tx_lit (s:="refund") w (by decide)
 have a3:=tx_lit (s:="carry") w (by decide)
 rw [a1,a2,a3,← Option.isSome_iff_exists,List.find?_isSome]
 constructor
 · rintro ⟨x,hx,e⟩
   have e:ascii x.2=w:=by simpa using e
   by_cases c:kind=.place
   · rw [if_pos c] at hx
     have hx:x=(.refund,"refund")∨x=(.carry,"carry"):=by simpa [NONES] using hx
     rcases hx with rfl|rfl
     · exact .inr (.inl e.symm)
     · exact .inr (.inr e.symm)
   · rw [if_neg c] at hx
     have hx:x=(.refund,"refund")∨x=(.carry,"carry")∨x=(.fewer,"fewer"):=by simpa [NONES] using hx
     rcases hx with rfl|rfl|rfl
     · exact .inr (.inl e.symm)
     · exact .inr (.inr e.symm)
     · exact .inl ⟨e.symm,c⟩
 · rintro (⟨e,c⟩|e|e)
   · exact ⟨(.fewer,"fewer"),by rw [if_neg c];simp [NONES],by simp [e]⟩
   · refine ⟨(.refund,"refund"),?_,by simp [e]⟩
     split <;> simp [NONES]
   · refine ⟨(.carry,"carry"),?_,by simp [e]⟩
     split <;> simp [NONES]
theorem heads_at (C:Card)(r:Nat)(_:1<=r):C.headsOf r=(rh C).getD (r - 1) []:=by
 unfold Card.headsOf rh
 rw [List.getD_eq_getElem?_getD,List.getElem?_map]
theorem legs_sets (C:Card)(p:Pool)(hk:p.kind=.legs)(h1:1<=p.race)(h2:p.race+p.k<=C.races.length+1):C.sets p=((rh C).drop (p.race - 1)).take p.k:=by
 unfold Card.sets Pool.legs
 rw [if_pos hk]
 have len:(rh C).length=C.races.length:=List.length_map ..
 apply List.ext_getElem?
 intro i
 rw [List.getElem?_map,List.getElem?_take,List.getElem?_drop]
 by_cases c:i < p.k
 · rw [List.getElem?_range c,if_pos c]
   show some (C.headsOf (p.race+i))=_
   rw [heads_at C _ (by omega),List.getD_eq_getElem?_getD]
   have e:p.race+i - 1=p.race - 1+i:=by omega
   rw [e]
   have lt:p.race - 1+i < (rh C).length:=by omega
   rw [List.getElem?_eq_getElem lt]
   rfl
 · rw [if_neg c,List.getElem?_eq_none (by simp;omega)]
   rfl
theorem fields_eq {C:Card}{p:Pool}(h:PoolOk C p):fieldsOf C p=fieldsM p.kind p.k p.race (rh C):=by
 unfold fieldsOf fieldsM
 cases hk:p.kind with
 | legs=>rw [if_pos rfl];exact legs_sets C p hk h.rlo (h.legs hk)
 | place =>
  rw [if_neg (by decide)]
  unfold Pool.places
  rw [if_pos hk,heads_at C _ h.rlo]
  rfl
 | order =>
  rw [if_neg (by decide)]
  unfold Pool.places
  rw [if_neg (by rw [hk];decide),heads_at C _ h.rlo]
 | any =>
  rw [if_neg (by decide)]
  unfold Pool.places
  rw [if_neg (by rw [hk];decide),heads_at C _ h.rlo]
theorem pool_fwd {e:Nat}{C:Card}{w:Word}{l:List Word}{p:Pool}(hC:C.races.length<=16)(hw:w.w=ascii "pool")(h:poolIn e C l=.ok p) :
  PoolOk C p/\(C.pools.map fun (p:Pool)=>p.name).contains p.name=false/\poolM (txs (w::l)) (rh C)=some (poolOf C p):=by
 unfold poolIn at h
 obtain ⟨n,x1,h1⟩:=bind_ok.mp h
 obtain ⟨wn,e1,nm1,nm2,nm3⟩:=newName_ok.mp x1
 obtain ⟨kd,x2,h2⟩:=bind_ok.mp h1
 obtain ⟨wk,yk,e2,kf,kx⟩:=oneOf_ok.mp x2
 obtain ⟨k,x3,h3⟩:=bind_ok.mp h2
 obtain ⟨wkk,e3,k1,k2,k3,k4⟩:=number_ok.mp x3
 obtain ⟨l4,x4,h4⟩:=bind_ok.mp h3
 obtain ⟨wfr,e4,f1⟩:=must_ok.mp x4
 obtain ⟨r,x5,h5⟩:=bind_ok.mp h4
 obtain ⟨wr,e5,r1,r2,r3,r4⟩:=number_ok.mp x5
 obtain ⟨_,x6,h6⟩:=bind_ok.mp h5
 have y6:=holds_ok.mp x6
 obtain ⟨_,x7,h7⟩:=bind_ok.mp h6
 have y7:=holds_ok.mp x7
 obtain ⟨l8,x8,h8⟩:=bind_ok.mp h7
 obtain ⟨wtk,e8,f8⟩:=must_ok.mp x8
 obtain ⟨t,x9,h9⟩:=bind_ok.mp h8
 obtain ⟨wt,e9,t1,t2,t3,t4⟩:=number_ok.mp x9
 obtain ⟨l10,x10,h10⟩:=bind_ok.mp h9
 obtain ⟨wbr,e10,f10⟩:=must_ok.mp x10
 obtain ⟨b,x11,h11⟩:=bind_ok.mp h10
 obtain ⟨wb,e11,b1,b2,b3,b4⟩:=number_ok.mp x11
 obtain ⟨l12,x12,h12⟩:=bind_ok.mp h11
 obtain ⟨wle,e12,f12⟩:=must_ok.mp x12
 obtain ⟨m,x13,h13⟩:=bind_ok.mp h12
 obtain ⟨wm,e13,m1,m2,m3,m4⟩:=number_ok.mp x13
 obtain ⟨l14,x14,h14⟩:=bind_ok.mp h13
 obtain ⟨wun,e14,f14⟩:=must_ok.mp x14
 obtain ⟨u,x15,h15⟩:=bind_ok.mp h14
 obtain ⟨wu,e15,u1,u2,u3,u4⟩:=number_ok.mp x15
 obtain ⟨_,x16,h16⟩:=bind_ok.mp h15
 have y16:=holds_ok.mp x16
 obtain ⟨l17,x17,h17⟩:=bind_ok.mp h16
 obtain ⟨wno,e17,f17⟩:=must_ok.mp x17
 obtain ⟨z,x18,h18⟩:=bind_ok.mp h17
 obtain ⟨wz,yz,e18,z1,z2⟩:=oneOf_ok.mp x18
 obtain ⟨_,x19,h19⟩:=bind_ok.mp h18
 have y19:=closed_ok.mp x19
 injection h19 with h19
 have kk:kd.1.1=yk.1:=by rw [kx]
 obtain ⟨km,_⟩:=kinds_find.mp kf
 rw [← kk] at km
 have hm6:mostK kd.1.1<=6:=by cases kd.1.1 <;> decide
 have ek:numM (tx wkk.w)=(k.1.1:Int):=(num_eq (by omega)).mpr k1
 have er:numM (tx wr.w)=(r.1.1:Int):=(num_eq (by omega)).mpr r1
 have et:numM (tx wt.w)=(t.1.1:Int):=(num_eq (by omega)).mpr t1
 have eb:numM (tx wb.w)=(b.1.1:Int):=(num_eq (by omega)).mpr b1
 have em:numM (tx wm.w)=(m.1.1:Int):=(num_eq (by omega)).mpr m1
 have eu:numM (tx wu.w)=(u.1.1:Int):=(num_eq (by omega)).mpr u1
 have lenr:(rh C).length=C.races.length:=List.length_map ..
 have d6:kd.1.1=.legs->r.1.1+k.1.1<=C.races.length+1:=fun q=>by
  rw [q] at y6
  simpa using y6
 have d7:kd.1.1≠.legs->k.1.1<=(C.headsOf r.1.1).length:=fun q=>by
  have q':(kd.1.1==Kind.legs)=false:=by rw [beq_eq_false_iff_ne];exact q
  rw [q',Bool.false_or] at y7
  unfold Card.headsOf
  cases c:C.races[r.1.1 - 1]? with
  | none=>rw [c] at y7;cases y7
  | some x =>
   rw [c] at y7
   simpa using y7
 have ok:PoolOk C p:=by
  subst h19
  exact ⟨by rw [nm3];exact nm1,k2,k3,r2,r3,d6,d7,u2,u3⟩
 refine ⟨ok,by subst h19;show List.contains _ n.1=false;rw [nm3];exact nm2,?_⟩
 have hl:txs (w::l)=[tx w.w,tx wn.w,tx wk.w,tx wkk.w,tx wfr.w,tx wr.w,tx wtk.w,tx wt.w,tx wbr.w,tx wb.w,tx wle.w,tx wm.w,tx wun.w,tx wu.w,tx wno.w,tx wz.w]:=by
  rw [e1,e2,e3,e4,e5,e8,e9,e10,e11,e12,e13,e14,e15,e17,e18,y19]
  rfl
 have hf:=fields_eq ok
 rw [hl]
 show (match kindM (tx wk.w) with
  | none=>none
  | some kind=>_)=_
 rw [km]
 dsimp only
 rw [if_pos ?_,ek,er,eu,Int.toNat_natCast,Int.toNat_natCast,Int.toNat_natCast]
 · unfold poolOf
   rw [hf]
   subst h19
   dsimp only
   rw [nm3]
 · refine ⟨(tx_lit _ (by decide)).mpr hw,(tx_lit _ (by decide)).mpr f1,(tx_lit _ (by decide)).mpr f8,(tx_lit _ (by decide)).mpr f10,(tx_lit _ (by decide)).mpr f12,(tx_lit _ (by decide)).mpr f14,(tx_lit _ (by decide)).mpr f17,
    by rw [name_tx];exact nm1,by rw [et];omega,by rw [eb];omega,by rw [eu];omega,?_,?_,by rw [ek];omega,by rw [er,lenr];omega,?_⟩
   · rw [em,eu]
     rw [Bool.or_eq_true] at y16
     rcases y16 with q|q
     · left
       have:m.1.1=0:=by simpa using q
       omega
     · right
       unfold inside at q
       rw [Bool.and_eq_true,decide_eq_true_iff,decide_eq_true_iff] at q
       omega
   · exact nones_find.mp ⟨yz,z1⟩
   · rw [er,ek,lenr]
     by_cases q:kd.1.1=.legs
     · left;exact ⟨q,by have:=d6 q;omega⟩
     · right
       refine ⟨q,?_⟩
       have:=d7 q
       rw [heads_at C _ r2] at this
       have e:((r.1.1:Int) - 1).toNat=r.1.1 - 1:=by omega
       rw [e]
       omega
theorem pool_bwd {e:Nat}{C:Card}{w:Word}{l:List Word}{q:PoolM}(hC:C.races.length<=16)(h:poolM (txs (w::l)) (rh C)=some q)(hn:(C.pools.map fun (p:Pool)=>tx p.name).contains q.name=false)
  (ok:∀ p∈C.pools,isName p.name=true) :
  ∃ p,poolIn e C l=.ok p:=by
 unfold poolM at h
 split at h
 · rename_i p nm kd k fr rc tk t br b le m un u no z hl
   have hl:tx w.w::txs l=_:=hl
   injection hl with hw0 hl
   match l,hl with
   | [wn,wk,wkk,wfr,wr,wtk,wt,wbr,wb,wle,wm,wun,wu,wno,wz],hl =>
    have hl:[tx wn.w,tx wk.w,tx wkk.w,tx wfr.w,tx wr.w,tx wtk.w,tx wt.w,tx wbr.w,tx wb.w,tx wle.w,tx wm.w,tx wun.w,tx wu.w,tx wno.w,tx wz.w]=[nm,kd,k,fr,rc,tk,t,br,b,le,m,un,u,no,z]:=hl
    simp only [List.cons.injEq,and_true] at hl
    obtain ⟨l1,l2,l3,l4,l5,l6,l7,l8,l9,l10,l11,l12,l13,l14,l15⟩:=hl
    subst l1;subst l2;subst l3;subst l4;subst l5;subst l6;subst l7;subst l8;subst l9;subst l10;subst l11;subst l12;subst l13;subst l14;subst l15
    cases km:kindM (tx wk.w) with
    | none=>rw [km] at h;cases h
    | some kind =>
     rw [km] at h
     dsimp only at h
     split at h
     · rename_i cs
       injection h with h
       obtain ⟨c1,c2,c3,c4,c5,c6,c7,c8,c9,c10,c11,c12,c13,c14,c15,c16⟩:=cs
       have hm6:mostK kind<=6:=by cases kind <;> decide
       have lenr:(rh C).length=C.races.length:=List.length_map ..
       obtain ⟨nt,t1,t2,t3,t4⟩:=(num_in (w:=wt.w) (lo:=0) (hi:=400) (by decide)).mp c9
       obtain ⟨nb,b1,b2,b3,b4⟩:=(num_in (w:=wb.w) (lo:=1) (hi:=1000) (by decide)).mp c10
       obtain ⟨nu,u1,u2,u3,u4⟩:=(num_in (w:=wu.w) (lo:=1) (hi:=10000) (by decide)).mp c11
       obtain ⟨nk,k1,k2,k3,k4⟩:=(num_in (w:=wkk.w) (lo:=leastK kind) (hi:=mostK kind) (by omega)).mp c14
       obtain ⟨nr,r1,r2,r3,r4⟩:=(num_in (w:=wr.w) (lo:=1) (hi:=(rh C).length) (by omega)).mp c15
       rw [u4] at c12
       obtain ⟨nmm,m1,m2,m3,m4⟩:=(num_in (w:=wm.w) (lo:=0) (hi:=20000) (by decide)).mp (by
        rcases c12 with z|⟨z1,z2⟩
        · rw [z];omega
        · omega)
       rw [m4] at c12
       rw [r4,k4,lenr] at c16
       obtain ⟨yz,hz⟩:=nones_find.mpr c13
       have hkf:(KINDS.find? fun (x:Kind×String)=>ascii x.2==wk.w)=some (kind,kindS kind):=kinds_find.mpr ⟨km,rfl⟩
       have nmn:(C.pools.map fun (p:Pool)=>p.name).contains wn.w=false:=by
        subst h
        cases c:(C.pools.map fun (p:Pool)=>p.name).contains wn.w with
        | false=>rfl
        | true =>
         exfalso
         have c:wn.w∈C.pools.map fun (p:Pool)=>p.name:=by simpa using c
         obtain ⟨p0,hp0,ep⟩:=List.mem_map.mp c
         have:tx wn.w∈C.pools.map fun (p:Pool)=>tx p.name:=List.mem_map.mpr ⟨p0,hp0,by rw [ep]⟩
         have hn':¬ tx wn.w∈C.pools.map fun (p:Pool)=>tx p.name:=by simpa using hn
         exact hn' this
       refine ⟨⟨wn.w,kind,nk,nr,yz.1,nt,nb,nmm,nu⟩,?_⟩
       unfold poolIn
       refine bind_ok.mpr ⟨(wn.w,_),newName_ok.mpr ⟨wn,rfl,by rw [← name_tx];exact c8,nmn,rfl⟩,?_⟩
       refine bind_ok.mpr ⟨((kind,wk.at_),_),oneOf_ok.mpr ⟨wk,_,rfl,hkf,rfl⟩,?_⟩
       refine bind_ok.mpr ⟨((nk,wkk.at_),_),number_ok.mpr ⟨wkk,rfl,k1,k2,k3,rfl⟩,?_⟩
       refine bind_ok.mpr ⟨_,must_ok.mpr ⟨wfr,rfl,(tx_lit _ (by decide)).mp c2⟩,?_⟩
       refine bind_ok.mpr ⟨((nr,wr.at_),_),number_ok.mpr ⟨wr,rfl,r1,r2,lenr ▸ r3,rfl⟩,?_⟩
       refine bind_ok.mpr ⟨(),holds_ok.mpr ?_,?_⟩
       · show (kind != Kind.legs||decide (nr+nk<=C.races.length+1))=true
         rcases c16 with ⟨z1,z2⟩|⟨z1,z2⟩
         · rw [Bool.or_eq_true];right
           exact decide_eq_true (by omega)
         · rw [Bool.or_eq_true];left
           simpa using z1
       refine bind_ok.mpr ⟨(),holds_ok.mpr ?_,?_⟩
       · show (kind==Kind.legs||((C.races[nr - 1]?).map fun (x:Race)=>decide (nk<=x.heads.length)).getD false)=true
         rw [Bool.or_eq_true]
         rcases c16 with ⟨z1,z2⟩|⟨z1,z2⟩
         · left;rw [z1];rfl
         · right
           have lt:nr - 1 < C.races.length:=by omega
           rw [List.getElem?_eq_getElem lt]
           show decide _=true
           refine decide_eq_true ?_
           have e:((nr:Int) - 1).toNat=nr - 1:=by omega
           rw [e] at z2
           unfold rh at z2
           rw [List.getD_eq_getElem?_getD,List.getElem?_map,List.getElem?_eq_getElem lt] at z2
           have z2:(nk:Int)<=((C.races[nr - 1]).heads.length:Int):=z2
           omega
       refine bind_ok.mpr ⟨_,must_ok.mpr ⟨wtk,rfl,(tx_lit _ (by decide)).mp c3⟩,?_⟩
       refine bind_ok.mpr ⟨((nt,wt.at_),_),number_ok.mpr ⟨wt,rfl,t1,t2,t3,rfl⟩,?_⟩
       refine bind_ok.mpr ⟨_,must_ok.mpr ⟨wbr,rfl,(tx_lit _ (by decide)).mp c4⟩,?_⟩
       refine bind_ok.mpr ⟨((nb,wb.at_),_),number_ok.mpr ⟨wb,rfl,b1,b2,b3,rfl⟩,?_⟩
       refine bind_ok.mpr ⟨_,must_ok.mpr ⟨wle,rfl,(tx_lit _ (by decide)).mp c5⟩,?_⟩
       refine bind_ok.mpr ⟨((nmm,wm.at_),_),number_ok.mpr ⟨wm,rfl,m1,m2,m3,rfl⟩,?_⟩
       refine bind_ok.mpr ⟨_,must_ok.mpr ⟨wun,rfl,(tx_lit _ (by decide)).mp c6⟩,?_⟩
       refine bind_ok.mpr ⟨((nu,wu.at_),_),number_ok.mpr ⟨wu,rfl,u1,u2,u3,rfl⟩,?_⟩
       refine bind_ok.mpr ⟨(),holds_ok.mpr ?_,?_⟩
       · show (nmm==0||inside nu (2*nu) nmm)=true
         rw [Bool.or_eq_true]
         rcases c12 with z|⟨z1,z2⟩
         · left
           have:nmm=0:=by omega
           rw [this];rfl
         · right
           unfold inside
           rw [Bool.and_eq_true,decide_eq_true_iff,decide_eq_true_iff]
           omega
       refine bind_ok.mpr ⟨_,must_ok.mpr ⟨wno,rfl,(tx_lit _ (by decide)).mp c7⟩,?_⟩
       refine bind_ok.mpr ⟨((yz.1,wz.at_),[]),oneOf_ok.mpr ⟨wz,yz,rfl,hz,rfl⟩,?_⟩
       exact bind_ok.mpr ⟨(),closed_ok.mpr rfl,rfl⟩
     · cases h
 · cases h
def dayM (ws:List W):Bool:=ws.length==2&&ws.getD 0 []==cd "day"&&nameM (ws.getD 1 [])
def poolRec (races:List (List Nat)):List PoolM->List (List W)->Option (List PoolM)
 | acc,[]=>some acc
 | acc,ws::ls=>match poolM ws races with
  | none=>none
  | some p=>if (acc.map (·.name)).contains p.name=true then none else poolRec races (acc++[p]) ls
def poolsM (lines:List (List W))(races:List (List Nat)):Option (List PoolM):=if 64 < lines.length then none else poolRec races [] lines
def isRaceL (ws:List W):Bool:=ws.headD []==cd "race"
def raceRec:List (List Nat)->List (List W)->Option (List PoolM)
 | acc,[]=>if acc=[] then none else some []
 | acc,ws::ls=>if isRaceL ws=true then (if 16<=acc.length then none else match raceM ws with
  | none=>none
  | some h=>raceRec (acc++[h]) ls) else if acc=[] then none else poolsM (ws::ls) acc
def linesM (t:W):List (List W):=(splitC 10 [] t.dropLast).map (splitC 32 [])
def cardM (t:W):Option (List PoolM) :=
 if t.getLast?=some 10 then match linesM t with
  | []=>none
  | d::ls=>if dayM d=true then raceRec [] ls else none
 else none
theorem raceRec_py:∀ (ls:List (List W)) (acc:List (List Nat)),acc.length<=16 ->
  raceRec acc ls=if 1<=acc.length+(ls.takeWhile isRaceL).length/\acc.length+(ls.takeWhile isRaceL).length<=16/\¬ none∈(ls.takeWhile isRaceL).map raceM then poolsM (ls.dropWhile isRaceL) (acc++((ls.takeWhile isRaceL).map raceM).filterMap id) else none
 | [],acc,h=>by
  show (if acc=[] then none else some [])=_
  by_cases c:acc=[]
  · subst c;rfl
  · rw [if_neg c,if_pos]
    · rfl
    · have:0 < acc.length:=List.length_pos_iff.mpr c
      exact ⟨by simp;omega,by simpa using h,by simp⟩
 | ws::ls,acc,h=>by
  show (if isRaceL ws=true then _ else _)=_
  by_cases c:isRaceL ws=true
  · rw [if_pos c,List.takeWhile_cons,List.dropWhile_cons,if_pos c,if_pos c]
    by_cases c2:16<=acc.length
    · rw [if_pos c2,if_neg]
      rintro ⟨_,z,_⟩
      rw [List.length_cons] at z
      omega
    · rw [if_neg c2]
      cases hr:raceM ws with
      | none =>
       dsimp only
       rw [if_neg]
       rintro ⟨_,_,z⟩
       exact z (by rw [List.map_cons,hr];simp)
      | some hs =>
       dsimp only
       rw [raceRec_py ls (acc++[hs]) (by rw [List.length_append,List.length_singleton];omega)]
       have e1:(acc++[hs]).length=acc.length+1:=by simp
       rw [e1,List.map_cons,hr,List.filterMap_cons,List.length_cons,List.append_assoc]
       have k:(1<=acc.length+1+(ls.takeWhile isRaceL).length/\acc.length+1+(ls.takeWhile isRaceL).length<=16/\¬ none∈(ls.takeWhile isRaceL).map raceM) ↔
         (1<=acc.length+((ls.takeWhile isRaceL).length+1)/\acc.length+((ls.takeWhile isRaceL).length+1)<=16/\¬ none∈some hs::(ls.takeWhile isRaceL).map raceM):=by
        have:(¬ none∈some hs::(ls.takeWhile isRaceL).map raceM)↔¬ none∈(ls.takeWhile isRaceL).map raceM:=by simp
        rw [this]
        constructor
        · rintro ⟨a,b,d⟩;exact ⟨by omega,by omega,d⟩
        · rintro ⟨a,b,d⟩;exact ⟨by omega,by omega,d⟩
       by_cases q:(1<=acc.length+1+(ls.takeWhile isRaceL).length/\acc.length+1+(ls.takeWhile isRaceL).length<=16/\¬ none∈(ls.takeWhile isRaceL).map raceM)
       · rw [if_pos q,if_pos (k.mp q)];rfl
       · rw [if_neg q,if_neg (fun z=>q (k.mpr z))]
  · rw [if_neg c,List.takeWhile_cons,List.dropWhile_cons,if_neg c,if_neg c]
    by_cases d:acc=[]
    · subst d;rfl
    · rw [if_neg d,if_pos]
      · simp
      · have:0 < acc.length:=List.length_pos_iff.mpr d
        exact ⟨by simp;omega,by simpa using h,by simp⟩
def goodM (w:W):Prop:=w≠[]/\∀ c∈w,(isLet c||isDig c)=true
theorem good_plain {v:Bytes}(h:goodM (tx v)):plainW v:=by
 refine ⟨fun e=>h.1 (by rw [e];rfl),fun c hc=>?_⟩
 have:=h.2 (sg c.toNat) (List.mem_map.mpr ⟨c,hc,rfl⟩)
 rw [sg_let,sg_dig] at this
 unfold isLet isDig at this
 simp only [Bool.or_eq_true,Bool.and_eq_true,decide_eq_true_eq] at this
 constructor
 · show 32 < c.toNat
   omega
 · show c.toNat<=126
   omega
theorem good_name {w:W}(h:nameM w=true):goodM w:=by
 unfold nameM at h
 simp only [Bool.and_eq_true,decide_eq_true_eq] at h
 refine ⟨fun e=>?_,fun c hc=>(List.all_eq_true.mp h.2) c hc⟩
 rw [e] at h
 simp at h
theorem good_num {w:W}(h:0<=numM w):goodM w:=by
 unfold numM at h
 split at h
 · omega
 · rename_i q
   have q1:¬ w=[]:=fun z=>q (.inr (.inl z))
   have q2:¬ w.all isDig=false:=fun z=>q (.inr (.inr z))
   refine ⟨q1,fun c hc=>?_⟩
   have q2:w.all isDig=true:=by simpa using q2
   rw [(List.all_eq_true.mp q2) c hc,Bool.or_true]
def goodB (w:W):Bool:=!w.isEmpty&&w.all fun c=>isLet c||isDig c
theorem good_of {w:W}(h:goodB w=true):goodM w:=by
 unfold goodB at h
 rw [Bool.and_eq_true] at h
 exact ⟨fun e=>by rw [e] at h;simp at h,fun c hc=>(List.all_eq_true.mp h.2) c hc⟩
theorem good_lit {w:W}{s:String}(e:w=cd s)(h:goodB (cd s)=true):goodM w:=e ▸ good_of h
theorem good_day {ws:List W}(h:dayM ws=true):∀ w∈ws,goodM w:=by
 unfold dayM at h
 simp only [Bool.and_eq_true,beq_iff_eq] at h
 match ws,h with
 | [a,b],h =>
  intro w hw
  rcases List.mem_cons.mp hw with rfl|hw
  · exact good_lit h.1.2 (by decide)
  · have:w=b:=by simpa using hw
    subst this
    exact good_name h.2
theorem good_coup:∀ {n:Nat} (l:List W) (fs ss ss':List Nat),coupM n l fs ss=some ss'->∀ w∈l,goodM w
 | _,[],_,_,_,_=>by simp
 | _,[_],_,_,_,h=>by cases h
 | _,[_,_],_,_,_,h=>by cases h
 | n,c::a::b::r,fs,ss,ss',h=>by
  unfold coupM at h
  split at h
  · rename_i q
    intro w hw
    rcases List.mem_cons.mp hw with rfl|hw
    · exact good_lit q.1 (by decide)
    · rcases List.mem_cons.mp hw with rfl|hw
      · exact good_num (by omega)
      · rcases List.mem_cons.mp hw with rfl|hw
        · exact good_num (by omega)
        · exact good_coup r _ _ _ h w hw
  · cases h
theorem good_race {ws:List W}{hs:List Nat}(h0:isRaceL ws=true)(h:raceM ws=some hs):∀ w∈ws,goodM w:=by
 unfold raceM at h
 split at h
 · rename_i w0 n r
   split at h
   · rename_i q
     cases c:coupM (numM n).toNat r [] [] with
     | none=>rw [c] at h;cases h
     | some ss =>
      intro w hw
      rcases List.mem_cons.mp hw with rfl|hw
      · unfold isRaceL at h0
        exact good_lit (beq_iff_eq.mp h0) (by decide)
      · rcases List.mem_cons.mp hw with rfl|hw
        · exact good_num (by omega)
        · exact good_coup r _ _ _ c w hw
   · cases h
 · cases h
theorem kind_good {w:W}{k:Kind}(h:kindM w=some k):goodM w:=by
 unfold kindM at h
 split at h
 · rename_i e;exact good_lit e (by decide)
 · split at h
   · rename_i e;exact good_lit e (by decide)
   · split at h
     · rename_i e;exact good_lit e (by decide)
     · split at h
       · rename_i e;exact good_lit e (by decide)
       · cases h
theorem good_pool {ws:List W}{races:List (List Nat)}{q:PoolM}(h:poolM ws races=some q):(∀ w∈ws,goodM w)/\ws.headD []=cd "pool":=by
 unfold poolM at h
 split at h
 · rename_i p nm kd k fr rc tk t br b le m un u no z
   cases km:kindM kd with
   | none=>rw [km] at h;cases h
   | some kind =>
    rw [km] at h
    dsimp only at h
    split at h
    · rename_i cs
      obtain ⟨c1,c2,c3,c4,c5,c6,c7,c8,c9,c10,c11,c12,c13,c14,c15,c16⟩:=cs
      have hm:0<=numM m:=by omega
      have gz:goodM z:=by
       rcases c13 with ⟨e,_⟩|e|e
       · exact good_lit e (by decide)
       · exact good_lit e (by decide)
       · exact good_lit e (by decide)
      refine ⟨fun w hw=>?_,c1⟩
      simp only [List.mem_cons,List.not_mem_nil,or_false] at hw
      rcases hw with rfl|rfl|rfl|rfl|rfl|rfl|rfl|rfl|rfl|rfl|rfl|rfl|rfl|rfl|rfl|rfl
      · exact good_lit c1 (by decide)
      · exact good_name c8
      · exact kind_good km
      · exact good_num (by omega)
      · exact good_lit c2 (by decide)
      · exact good_num (by omega)
      · exact good_lit c3 (by decide)
      · exact good_num (by omega)
      · exact good_lit c4 (by decide)
      · exact good_num (by omega)
      · exact good_lit c5 (by decide)
      · exact good_num hm
      · exact good_lit c6 (by decide)
      · exact good_num (by omega)
      · exact good_lit c7 (by decide)
      · exact gz
    · cases h
 · cases h
def lw (l:Bytes):List W:=splitC 32 [] (tx l)
theorem lw_eq (l:Bytes):lw l=(splitOn 32 [] l).map tx:=split_tx (c:=32) (by decide) l []
theorem good_nobad {l:Bytes}(h:∀ w∈lw l,goodM w):badByte true 0 l=none:=by
 refine no_bad l [] 0 (fun v hv=>good_plain (h (tx v) ?_)) (by simp)
 rw [lw_eq]
 exact List.mem_map.mpr ⟨v,hv,rfl⟩
theorem words_line {l:Bytes}(p:Nat)(h:badByte true 0 l=none):txs (wordsFrom p [] l)=lw l:=by
 obtain ⟨a,_⟩:=words_of l [] p 0 (Nat.zero_le _) h
 rw [lw_eq,← a,List.map_map]
 rfl
def foldL:Nat->Option Card->List Bytes->Except Fault (Option Card)
 | _,h,[]=>.ok h
 | p,h,l::ls=>match badByte true 0 l with
  | some i=>.error ⟨2,p+i⟩
  | none=>match lineIn h ⟨wordsFrom p [] l,p+l.length⟩ with
   | .error e=>.error e
   | .ok t=>foldL (p+l.length+1) t ls
def joinL (ls:List Bytes):Bytes:=ls.flatMap fun l=>l++[10]
theorem upTo_split {r:Bytes}:∀ {l:Bytes},¬ 10∈l->upTo (l++10::r)=some (l,r)
 | [],_=>by simp [upTo]
 | c::l,h=>by
  have hc:¬ c=10:=fun e=>h (by simp [e])
  show (if c=10 then some ([],l++10::r) else (upTo (l++10::r)).map fun (x:Bytes×Bytes)=>(c::x.1,x.2))=_
  rw [if_neg hc,upTo_split fun m=>h (by simp [m])]
  rfl
theorem upTo_some:∀ {b l r:Bytes},upTo b=some (l,r)->b=l++10::r/\¬ 10∈l
 | [],_,_,h=>by cases h
 | c::b,l,r,h=>by
  have h:(if c=10 then some ([],b) else (upTo b).map fun (x:Bytes×Bytes)=>(c::x.1,x.2))=some (l,r):=h
  by_cases e:c=10
  · rw [if_pos e] at h
    injection h with h
    injection h with h1 h2
    subst h1;subst h2;subst e
    exact ⟨rfl,by simp⟩
  · rw [if_neg e] at h
    cases q:upTo b with
    | none=>rw [q] at h;cases h
    | some x =>
     rw [q] at h
     injection h with h
     injection h with h1 h2
     obtain ⟨a1,a2⟩:=upTo_some (b:=b) (l:=x.1) (r:=x.2) q
     subst h1;subst h2
     exact ⟨by rw [List.cons_append,← a1],fun m=>by
      rcases List.mem_cons.mp m with z|z
      · exact e z.symm
      · exact a2 z⟩
theorem upTo_none:∀ {b:Bytes},upTo b=none->¬ 10∈b
 | [],_=>by simp
 | c::b,h=>by
  have h:(if c=10 then some ([],b) else (upTo b).map fun (x:Bytes×Bytes)=>(c::x.1,x.2))=none:=h
  by_cases e:c=10
  · rw [if_pos e] at h;cases h
  · rw [if_neg e] at h
    cases q:upTo b with
    | none =>
     have:=upTo_none q
     intro m
     rcases List.mem_cons.mp m with z|z
     · exact e z.symm
     · exact this z
    | some x=>rw [q] at h;cases h
theorem lines_fold:∀ (ls:List Bytes) (k p:Nat) (h:Option Card),(∀ l∈ls,¬ 10∈l)->(joinL ls).length < k->linesIn lineIn k p h (joinL ls)=foldL p h ls
 | [],0,_,_,_,hk=>by simp at hk
 | [],k+1,p,h,_,_=>rfl
 | l::ls,0,_,_,_,hk=>by simp at hk
 | l::ls,k+1,p,h,hn,hk=>by
  have e:joinL (l::ls)=l++10::joinL ls:=by
   unfold joinL
   rw [List.flatMap_cons,List.append_assoc]
   rfl
  rw [e] at hk ⊢
  have ne:¬ (l++10::joinL ls).isEmpty=true:=by simp
  show (if (l++10::joinL ls).isEmpty=true then Except.ok h else match upTo (l++10::joinL ls) with
   | none=>_
   | some (l,r)=>_)=_
  rw [if_neg ne,upTo_split (hn l (by simp))]
  dsimp only
  unfold foldL
  cases hb:badByte true 0 l with
  | some i=>rfl
  | none =>
   dsimp only
   cases hl:lineIn h ⟨wordsFrom p [] l,p+l.length⟩ with
   | error e=>rfl
   | ok t =>
    dsimp only
    exact lines_fold ls k (p+l.length+1) t (fun m hm=>hn m (by simp [hm])) (by simp only [List.length_append,List.length_cons] at hk;omega)
theorem lines_last:∀ (k p:Nat) (h h':Option Card) (b:Bytes),b.length < k->linesIn lineIn k p h b=.ok h'->b=[]∨b.getLast?=some 10
 | 0,_,_,_,_,hk,_=>by omega
 | k+1,p,h,h',b,hk,q=>by
  by_cases e:b=[]
  · exact .inl e
  · right
    have ne:¬ b.isEmpty=true:=fun z=>e (List.isEmpty_iff.mp z)
    rw [linesIn,if_neg ne] at q
    cases hu:upTo b with
    | none=>rw [hu] at q;cases q
    | some x =>
     obtain ⟨l,r⟩:=x
     rw [hu] at q
     dsimp only at q
     obtain ⟨hb,_⟩:=upTo_some hu
     cases hbad:badByte true 0 l with
     | some i=>rw [hbad] at q;cases q
     | none =>
      rw [hbad] at q
      dsimp only at q
      cases hl:lineIn h ⟨wordsFrom p [] l,p+l.length⟩ with
      | error e=>rw [hl] at q;cases q
      | ok t =>
       rw [hl] at q
       dsimp only at q
       have:=lines_last k _ t h' r (by rw [hb] at hk;simp only [List.length_append,List.length_cons] at hk;omega) q
       rw [hb]
       rcases this with z|z
       · subst z;simp
       · rw [List.getLast?_append]
         cases r with
         | nil=>simp at z
         | cons c r =>
          rw [List.getLast?_cons_cons,z]
          rfl
theorem join_split:∀ (b w:Bytes),joinL (splitOn 10 w b)=w++b++[10]
 | [],w=>by
  show joinL [w]=_
  unfold joinL
  simp
 | c::b,w=>by
  show joinL (if c=10 then w::splitOn 10 [] b else splitOn 10 (w++[c]) b)=_
  by_cases e:c=10
  · rw [if_pos e]
    have:=join_split b []
    unfold joinL at this ⊢
    rw [List.flatMap_cons,this,e]
    simp
  · rw [if_neg e,join_split b (w++[c])]
    simp
theorem split_no10:∀ (b w:Bytes),¬ 10∈w->∀ l∈splitOn 10 w b,¬ 10∈l
 | [],w,hw,l,hl=>by
  have:l=w:=by simpa [splitOn] using hl
  exact this ▸ hw
 | c::b,w,hw,l,hl=>by
  have hl:l∈(if c=10 then w::splitOn 10 [] b else splitOn 10 (w++[c]) b):=hl
  by_cases e:c=10
  · rw [if_pos e] at hl
    rcases List.mem_cons.mp hl with rfl|hl
    · exact hw
    · exact split_no10 b [] (by simp) l hl
  · rw [if_neg e] at hl
    refine split_no10 b (w++[c]) (fun m=>?_) l hl
    rcases List.mem_append.mp m with z|z
    · exact hw z
    · exact e (by simpa using (List.mem_singleton.mp z).symm)
structure CardOk (C:Card):Prop where
 few:C.races.length<=16
 heads:∀ r∈C.races,GoodHeads r.heads
 pools:∀ p∈C.pools,PoolOk C p
 np:C.pools.length<=64
theorem splitOn_ne (c:UInt8):∀ (l w:Bytes),splitOn c w l≠[]
 | [],_=>by simp [splitOn]
 | x::l,w=>by
  unfold splitOn
  by_cases e:x=c
  · rw [if_pos e];simp
  · rw [if_neg e];exact splitOn_ne c l _
theorem words_cons {l:Bytes}(p:Nat)(h:badByte true 0 l=none):∃ w r,wordsFrom p [] l=w::r/\lw l=tx w.w::txs r:=by
 have e:=words_line p h
 cases hw:wordsFrom p [] l with
 | nil =>
  exfalso
  rw [hw] at e
  have e:[]=lw l:=e
  rw [lw_eq] at e
  exact splitOn_ne 32 l [] (List.map_eq_nil_iff.mp e.symm)
 | cons w r=>exact ⟨w,r,rfl,by rw [← e,hw];rfl⟩
theorem poolOk_of {C D:Card}{p:Pool}(h:PoolOk C p)(e:D.races=C.races):PoolOk D p:=by
 have hh:D.headsOf=C.headsOf:=by
  funext r
  unfold Card.headsOf
  rw [e]
 exact ⟨h.name,h.klo,h.khi,h.rlo,by rw [e];exact h.rhi,by rw [e];exact h.legs,by rw [hh];exact h.few,h.unit,h.uhi⟩
theorem pools_fold:∀ (ls:List Bytes) (p:Nat) (C:Card),CardOk C->C.races≠[]->(C.pools=[]->∀ l∈ls.head?,isRaceL (lw l)=false) ->
  (∀ C',foldL p (some C) ls=.ok C'->∃ D,C'=some D/\CardOk D/\D.races=C.races/\C.pools.length+ls.length<=64/\poolRec (rh C) (C.pools.map (poolOf C)) (ls.map lw)=some (D.pools.map (poolOf D))) /\
  (∀ e,foldL p (some C) ls=.error e->64 < C.pools.length+ls.length∨poolRec (rh C) (C.pools.map (poolOf C)) (ls.map lw)=none)
 | [],p,C,ok,_,_=>⟨fun C' h=>by
   have h:Except.ok (some C)=Except.ok C':=h
   injection h with h
   subst h
   exact ⟨C,rfl,ok,rfl,ok.np,rfl⟩,fun e h=>nomatch h⟩
 | l::ls,p,C,ok,hr,hf=>by
  have none_of:poolM (lw l) (rh C)=none->poolRec (rh C) (C.pools.map (poolOf C)) ((l::ls).map lw)=none:=fun q=>by
   rw [List.map_cons]
   unfold poolRec
   rw [q]
  cases hb:badByte true 0 l with
  | some i =>
   have q:poolM (lw l) (rh C)=none:=by
    cases c:poolM (lw l) (rh C) with
    | none=>rfl
    | some z =>
     have:=good_nobad (good_pool c).1
     rw [hb] at this
     cases this
   have e0:foldL p (some C) (l::ls)=.error ⟨2,p+i⟩:=by
    unfold foldL
    rw [hb]
   rw [e0]
   exact ⟨fun _ h=>(nomatch h),fun _ _=>.inr (none_of q)⟩
  | none =>
   obtain ⟨w,r,hw,hlw⟩:=words_cons p hb
   have e0:foldL p (some C) (l::ls)=match lineIn (some C) ⟨w::r,p+l.length⟩ with
     | .error e=>.error e
     | .ok t=>foldL (p+l.length+1) t ls:=by
    conv=>lhs;unfold foldL
    rw [hb,hw]
    all_goals rfl
   have nr:¬ (w.w=ascii "race"/\C.pools=[]):=fun ⟨z1,z2⟩=>by
    have:=hf z2 l (by simp)
    unfold isRaceL at this
    rw [hlw] at this
    have:(tx w.w==cd "race")=false:=this
    rw [beq_eq_false_iff_ne] at this
    exact this ((tx_lit _ (by decide)).mpr z1)
   have e1:lineIn (some C) ⟨w::r,p+l.length⟩=if w.w=ascii "pool"/\C.races≠[] then (if POOLS<=C.pools.length then .error ⟨6,w.at_⟩ else withPool (p+l.length) C r) else .error ⟨3,w.at_⟩:=by
    show (if w.w=ascii "race"/\C.pools=[] then _ else _)=_
    rw [if_neg nr]
   rw [e1] at e0
   by_cases hp:w.w=ascii "pool"
   · rw [if_pos ⟨hp,hr⟩] at e0
     by_cases h64:POOLS<=C.pools.length
     · rw [if_pos h64] at e0
       rw [e0]
       have h64:64<=C.pools.length:=h64
       exact ⟨fun _ h=>(nomatch h),fun _ _=>.inl (by rw [List.length_cons];omega)⟩
     · rw [if_neg h64] at e0
       have h64:¬ 64<=C.pools.length:=h64
       unfold withPool at e0
       cases hi:poolIn (p+l.length) C r with
       | error e =>
        rw [hi] at e0
        have e0:foldL p (some C) (l::ls)=.error e:=e0
        rw [e0]
        refine ⟨fun _ h=>(nomatch h),fun _ _=>.inr ?_⟩
        cases c:poolM (lw l) (rh C) with
        | none=>exact none_of c
        | some q =>
         rw [List.map_cons]
         unfold poolRec
         rw [c]
         dsimp only
         cases d:((C.pools.map (poolOf C)).map (·.name)).contains q.name with
         | true=>rfl
         | false =>
          exfalso
          rw [hlw] at c
          have d':(C.pools.map fun (p:Pool)=>tx p.name).contains q.name=false:=by
           rw [List.map_map] at d
           exact d
          obtain ⟨z,hz⟩:=pool_bwd (e:=p+l.length) ok.few c d' (fun p hp=>(ok.pools p hp).name)
          rw [hi] at hz
          cases hz
       | ok q =>
        rw [hi] at e0
        have e0:foldL p (some C) (l::ls)=foldL (p+l.length+1) (some { C with pools:=C.pools++[q] }) ls:=e0
        obtain ⟨okq,hn,hm⟩:=pool_fwd (w:=w) ok.few hp hi
        rw [e0]
        have okD:CardOk { C with pools:=C.pools++[q] }:=⟨ok.few,ok.heads,fun x hx=>by
          have hx:x∈C.pools++[q]:=hx
          rcases List.mem_append.mp hx with z|z
          · exact poolOk_of (ok.pools x z) rfl
          · have:x=q:=by simpa using z
            subst this
            exact poolOk_of okq rfl,by show (C.pools++[q]).length<=64;rw [List.length_append,List.length_singleton];omega⟩
        have ih:=pools_fold ls (p+l.length+1) { C with pools:=C.pools++[q] } okD hr (fun z=>by
         have z:C.pools++[q]=[]:=z
         simp at z)
        have step:poolRec (rh C) (C.pools.map (poolOf C)) ((l::ls).map lw)=poolRec (rh C) ((C.pools++[q]).map (poolOf C)) (ls.map lw):=by
         rw [List.map_cons]
         conv=>lhs;unfold poolRec
         have hm':poolM (lw l) (rh C)=some (poolOf C q):=by rw [hlw];exact hm
         rw [hm']
         dsimp only
         have:((C.pools.map (poolOf C)).map (·.name)).contains (poolOf C q).name=false:=by
          rw [List.map_map]
          cases d:(C.pools.map ((fun (x:PoolM)=>x.name) ∘ poolOf C)).contains (poolOf C q).name with
          | false=>rfl
          | true =>
           exfalso
           have d:(poolOf C q).name∈C.pools.map ((fun (x:PoolM)=>x.name) ∘ poolOf C):=by simpa using d
           obtain ⟨x,hx,ex⟩:=List.mem_map.mp d
           have ex:tx x.name=tx q.name:=ex
           have nx:=(ok.pools x hx).name
           have:q.name=x.name:=by
            have key:∀ c∈x.name,okS c.toNat=true:=fun c hc=>by
             have gx:=good_name (by rw [name_tx];exact nx)
             have:=gx.2 (sg c.toNat) (List.mem_map.mpr ⟨c,hc,rfl⟩)
             rw [sg_let,sg_dig] at this
             unfold okS
             rw [this]
             rfl
            have own:tx x.name=x.name.map UInt8.toNat:=(tx_eq key).mpr rfl
            exact (tx_eq key).mp (by rw [← ex,own])
           have hn':¬ q.name∈C.pools.map fun (p:Pool)=>p.name:=by simpa using hn
           exact hn' (List.mem_map.mpr ⟨x,hx,this.symm⟩)
         rw [if_neg (by rw [this];decide),List.map_append]
         rfl
        have len:(C.pools++[q]).length=C.pools.length+1:=by simp
        rw [step]
        constructor
        · intro C' h
          obtain ⟨D,h1,h2,h3,h4,h5⟩:=ih.1 C' h
          refine ⟨D,h1,h2,h3,?_,h5⟩
          have h4:(C.pools++[q]).length+ls.length<=64:=h4
          rw [List.length_cons];omega
        · intro e h
          rcases ih.2 e h with z|z
          · left
            have z:64 < (C.pools++[q]).length+ls.length:=z
            rw [List.length_cons];omega
          · exact .inr z
   · rw [if_neg (fun z=>hp z.1)] at e0
     rw [e0]
     refine ⟨fun _ h=>(nomatch h),fun _ _=>.inr (none_of ?_)⟩
     cases c:poolM (lw l) (rh C) with
     | none=>rfl
     | some q =>
      exfalso
      have:=(good_pool c).2
      rw [hlw] at this
      exact hp ((tx_lit _ (by decide)).mp this)
theorem races_fold:∀ (ls:List Bytes) (p:Nat) (C:Card),CardOk C->C.pools=[] ->
  (∀ C',foldL p (some C) ls=.ok C'->∃ D,C'=some D/\((D.races=[]/\raceRec (rh C) (ls.map lw)=none)∨(D.races≠[]/\CardOk D/\raceRec (rh C) (ls.map lw)=some (D.pools.map (poolOf D))))) /\
  (∀ e,foldL p (some C) ls=.error e->raceRec (rh C) (ls.map lw)=none)
 | [],p,C,ok,hp=>⟨fun C' h=>by
   have h:Except.ok (some C)=Except.ok C':=h
   injection h with h
   subst h
   refine ⟨C,rfl,?_⟩
   by_cases c:C.races=[]
   · left
     refine ⟨c,?_⟩
     show (if rh C=[] then none else some [])=none
     rw [if_pos (by unfold rh;rw [c];rfl)]
   · right
     refine ⟨c,ok,?_⟩
     show (if rh C=[] then none else some [])=_
     rw [if_neg (fun (z:rh C=[])=>c (List.map_eq_nil_iff.mp z)),hp]
     rfl,fun e h=>nomatch h⟩
 | l::ls,p,C,ok,hp=>by
  have lenr:(rh C).length=C.races.length:=List.length_map ..
  by_cases isr:isRaceL (lw l)=true
  · have step:raceRec (rh C) ((l::ls).map lw)=if 16<=C.races.length then none else match raceM (lw l) with
      | none=>none
      | some h=>raceRec (rh C++[h]) (ls.map lw):=by
     rw [List.map_cons]
     show (if isRaceL (lw l)=true then (if 16<=(rh C).length then none else _) else _)=_
     rw [if_pos isr,lenr]
     all_goals rfl
    rw [step]
    cases hb:badByte true 0 l with
    | some i =>
     have q:raceM (lw l)=none:=by
      cases c:raceM (lw l) with
      | none=>rfl
      | some z =>
       have:=good_nobad (good_race isr c)
       rw [hb] at this
       cases this
     have e0:foldL p (some C) (l::ls)=.error ⟨2,p+i⟩:=by
      unfold foldL
      rw [hb]
     rw [e0,q]
     refine ⟨fun _ h=>(nomatch h),fun _ _=>?_⟩
     split <;> rfl
    | none =>
     obtain ⟨w,r,hw,hlw⟩:=words_cons p hb
     have wr:w.w=ascii "race":=by
      unfold isRaceL at isr
      rw [hlw] at isr
      exact (tx_lit _ (by decide)).mp (beq_iff_eq.mp isr)
     have e0:foldL p (some C) (l::ls)=match lineIn (some C) ⟨w::r,p+l.length⟩ with
       | .error e=>.error e
       | .ok t=>foldL (p+l.length+1) t ls:=by
      conv=>lhs;unfold foldL
      rw [hb,hw]
      all_goals rfl
     have e1:lineIn (some C) ⟨w::r,p+l.length⟩=if RACES<=C.races.length then .error ⟨6,w.at_⟩ else withRace (p+l.length) C r:=by
      show (if w.w=ascii "race"/\C.pools=[] then _ else _)=_
      rw [if_pos ⟨wr,hp⟩]
     rw [e1] at e0
     by_cases h16:RACES<=C.races.length
     · rw [if_pos h16] at e0
       rw [e0,if_pos (show 16<=C.races.length from h16)]
       exact ⟨fun _ h=>(nomatch h),fun _ _=>rfl⟩
     · rw [if_neg h16] at e0
       have h16:¬ 16<=C.races.length:=h16
       rw [if_neg h16]
       unfold withRace at e0
       cases hi:raceIn (p+l.length) r with
       | error e =>
        rw [hi] at e0
        have e0:foldL p (some C) (l::ls)=.error e:=e0
        rw [e0]
        refine ⟨fun _ h=>(nomatch h),fun _ _=>?_⟩
        cases c:raceM (lw l) with
        | none=>rfl
        | some hs =>
         exfalso
         rw [hlw] at c
         obtain ⟨q,hq,_⟩:=(race_iff (e:=p+l.length) (w:=w) (l:=r)).2 hs c
         rw [hi] at hq
         cases hq
       | ok q =>
        rw [hi] at e0
        have e0:foldL p (some C) (l::ls)=foldL (p+l.length+1) (some { C with races:=C.races++[q] }) ls:=e0
        have hm:=(race_iff (e:=p+l.length) (w:=w) (l:=r)).1 q hi
        have hm':raceM (lw l)=some q.heads:=by rw [hlw];exact hm
        rw [e0,hm']
        dsimp only
        have okD:CardOk { C with races:=C.races++[q] }:=⟨by show (C.races++[q]).length<=16;rw [List.length_append,List.length_singleton];omega,fun x hx=>by
          have hx:x∈C.races++[q]:=hx
          rcases List.mem_append.mp hx with z|z
          · exact ok.heads x z
          · have:x=q:=by simpa using z
            subst this
            exact race_good hm',fun x hx=>by
          have hx:x∈C.pools:=hx
          rw [hp] at hx
          simp at hx,ok.np⟩
        have ih:=races_fold ls (p+l.length+1) { C with races:=C.races++[q] } okD hp
        have e2:rh { C with races:=C.races++[q] }=rh C++[q.heads]:=by
         unfold rh
         rw [List.map_append]
         rfl
        rw [e2] at ih
        exact ih
  · have isr':isRaceL (lw l)=false:=by simpa using isr
    have step:raceRec (rh C) ((l::ls).map lw)=if rh C=[] then none else poolsM ((l::ls).map lw) (rh C):=by
     rw [List.map_cons]
     show (if isRaceL (lw l)=true then _ else _)=_
     rw [if_neg isr]
    rw [step]
    by_cases hr:C.races=[]
    · rw [if_pos (by unfold rh;rw [hr];rfl)]
      have e0:∃ e,foldL p (some C) (l::ls)=.error e:=by
       unfold foldL
       cases hb:badByte true 0 l with
       | some i=>exact ⟨_,rfl⟩
       | none =>
        obtain ⟨w,r,hw,hlw⟩:=words_cons p hb
        dsimp only
        rw [hw]
        have wr:¬ w.w=ascii "race":=fun z=>by
         apply isr
         unfold isRaceL
         rw [hlw]
         exact beq_iff_eq.mpr ((tx_lit _ (by decide)).mpr z)
        have e1:lineIn (some C) ⟨w::r,p+l.length⟩=.error ⟨3,w.at_⟩:=by
         show (if w.w=ascii "race"/\C.pools=[] then _ else if w.w=ascii "pool"/\C.races≠[] then _ else _)=_
         rw [if_neg (fun z=>wr z.1),if_neg (fun z=>z.2 hr)]
        rw [e1]
        exact ⟨_,rfl⟩
      obtain ⟨e,e0⟩:=e0
      rw [e0]
      exact ⟨fun _ h=>(nomatch h),fun _ _=>rfl⟩
    · rw [if_neg (fun (z:rh C=[])=>hr (List.map_eq_nil_iff.mp z))]
      have ih:=pools_fold (l::ls) p C ok hr (fun _ l' hl'=>by
       have:l'=l:=by simpa using hl'.symm
       subst this
       exact isr')
      rw [hp] at ih
      have len:((l::ls).map lw).length=(l::ls).length:=List.length_map ..
      unfold poolsM
      rw [len]
      constructor
      · intro C' h
        obtain ⟨D,h1,h2,h3,h4,h5⟩:=ih.1 C' h
        refine ⟨D,h1,.inr ⟨by rw [h3];exact hr,h2,?_⟩⟩
        rw [if_neg (by simp only [List.length_nil] at h4;omega)]
        exact h5
      · intro e h
        by_cases c:64 < (l::ls).length
        · rw [if_pos c]
        · rw [if_neg c]
          rcases ih.2 e h with z|z
          · simp only [List.length_nil] at z;omega
          · exact z
theorem tx_last:∀ (b:Bytes),(tx b).getLast?=some 10↔b.getLast?=some 10:=fun b=>by
 unfold tx
 rw [List.getLast?_map]
 cases b.getLast? with
 | none=>simp
 | some c =>
  show some (sg c.toNat)=some 10↔some c=some 10
  constructor
  · intro h
    injection h with h
    rw [u8_inj (show c.toNat=(10:UInt8).toNat from (sg_ok (by decide)).mp h)]
  · intro h
    injection h with h
    rw [h]
    rfl
theorem card_iff (b:Bytes):(∀ C,readCard b=.ok C->CardOk C/\C.races≠[]/\cardM (tx b)=some (C.pools.map (poolOf C)))/\(∀ e,readCard b=.error e->cardM (tx b)=none):=by
 by_cases hl:b.getLast?=some 10
 · obtain ⟨b',rfl⟩:∃ b',b=b'++[10]:=by
    have ne:b≠[]:=fun e=>by rw [e] at hl;simp at hl
    refine ⟨b.dropLast,?_⟩
    have:=List.dropLast_concat_getLast ne
    rw [List.getLast?_eq_some_getLast ne] at hl
    injection hl with hl
    rw [hl] at this
    exact this.symm
   have hj:joinL (splitOn 10 [] b')=b'++[10]:=by rw [join_split];simp
   have hfold:linesIn lineIn ((b'++[10]).length+1) 0 none (b'++[10])=foldL 0 none (splitOn 10 [] b'):=by
    rw [← hj]
    exact lines_fold _ _ _ _ (split_no10 b' [] (by simp)) (Nat.lt_succ_self _)
   have hlm:linesM (tx (b'++[10]))=(splitOn 10 [] b').map lw:=by
    unfold linesM
    have e:(tx (b'++[10])).dropLast=tx b':=by
     rw [tx_append]
     show (tx b'++[sg 10]).dropLast=_
     rw [List.dropLast_concat]
    have:=split_tx (c:=10) (by decide) b' []
    rw [tx_nil] at this
    rw [e]
    show (splitC (10:UInt8).toNat [] (tx b')).map _=_
    rw [this,List.map_map]
    rfl
   have hc:cardM (tx (b'++[10]))=match (splitOn 10 [] b').map lw with
     | []=>none
     | d::ls=>if dayM d=true then raceRec [] ls else none:=by
    unfold cardM
    rw [if_pos ((tx_last _).mpr hl),hlm]
    all_goals rfl
   rw [hc]
   unfold readCard
   rw [hfold]
   cases hs:splitOn 10 [] b' with
   | nil=>exact absurd hs (splitOn_ne 10 b' [])
   | cons l ls =>
    rw [List.map_cons]
    dsimp only
    have day:(dayM (lw l)=false/\∃ e,foldL 0 none (l::ls)=.error e)∨(dayM (lw l)=true/\∃ n,foldL 0 none (l::ls)=foldL (0+l.length+1) (some { noCard with name:=n }) ls):=by
     cases hb:badByte true 0 l with
     | some i =>
      left
      refine ⟨?_,⟨2,0+i⟩,by unfold foldL;rw [hb]⟩
      cases c:dayM (lw l) with
      | false=>rfl
      | true =>
       have:=good_nobad (good_day c)
       rw [hb] at this
       cases this
     | none =>
      obtain ⟨w,r,hw,hlw⟩:=words_cons 0 hb
      have e0:foldL 0 none (l::ls)=match lineIn none ⟨w::r,0+l.length⟩ with
        | .error e=>.error e
        | .ok t=>foldL (0+l.length+1) t ls:=by
       conv=>lhs;unfold foldL
       rw [hb,hw]
       all_goals rfl
      have e1:lineIn none ⟨w::r,0+l.length⟩=if w.w=ascii "day" then dayIn (0+l.length) r else .error ⟨3,w.at_⟩:=rfl
      rw [e1] at e0
      by_cases hd:w.w=ascii "day"
      · rw [if_pos hd] at e0
        cases hi:dayIn (0+l.length) r with
        | error e =>
         left
         rw [hi] at e0
         refine ⟨?_,e,e0⟩
         cases c:dayM (lw l) with
         | false=>rfl
         | true =>
          exfalso
          unfold dayM at c
          rw [hlw] at c
          simp only [Bool.and_eq_true,beq_iff_eq] at c
          match r,c,hi with
          | [wn],c,hi =>
           have nm:isName wn.w=true:=by rw [← name_tx];exact c.2
           have:dayIn (0+l.length) [wn]=.ok (some { noCard with name:=wn.w }):=by
            unfold dayIn
            refine bind_ok.mpr ⟨(wn.w,[]),newName_ok.mpr ⟨wn,rfl,nm,rfl,rfl⟩,?_⟩
            exact bind_ok.mpr ⟨(),closed_ok.mpr rfl,rfl⟩
           rw [this] at hi
           cases hi
          | [],c,_=>have:=c.1.1;simp [txs] at this
          | _::_::_,c,_=>have:=c.1.1;simp [txs] at this
        | ok t =>
         right
         rw [hi] at e0
         unfold dayIn at hi
         obtain ⟨n,x1,h1⟩:=bind_ok.mp hi
         obtain ⟨wn,er,n1,n2,n3⟩:=newName_ok.mp x1
         obtain ⟨_,x2,h2⟩:=bind_ok.mp h1
         have y2:=closed_ok.mp x2
         injection h2 with h2
         subst h2
         refine ⟨?_,n.1,e0⟩
         unfold dayM
         rw [hlw,er,y2]
         have a1:(tx w.w==cd "day")=true:=beq_iff_eq.mpr ((tx_lit _ (by decide)).mpr hd)
         show ((2==2)&&(tx w.w==cd "day")&&nameM (tx wn.w))=true
         rw [a1,name_tx,n1]
         rfl
      · rw [if_neg hd] at e0
        left
        refine ⟨?_,_,e0⟩
        cases c:dayM (lw l) with
        | false=>rfl
        | true =>
         exfalso
         unfold dayM at c
         rw [hlw] at c
         simp only [Bool.and_eq_true,beq_iff_eq] at c
         exact hd ((tx_lit _ (by decide)).mp c.1.2)
    rcases day with ⟨d,e,h⟩|⟨d,n,h⟩
    · rw [d,h]
      exact ⟨fun _ q=>(nomatch q),fun _ _=>rfl⟩
    · rw [if_pos d,h]
      have ok0:CardOk { noCard with name:=n }:=⟨Nat.zero_le _,fun r hr=>by
        have hr:r∈([]:List Race):=hr
        simp at hr,fun p hp=>by
        have hp:p∈([]:List Pool):=hp
        simp at hp,Nat.zero_le _⟩
      have ih:=races_fold ls (0+l.length+1) { noCard with name:=n } ok0 rfl
      have e2:rh { noCard with name:=n }=[]:=rfl
      rw [e2] at ih
      cases hf:foldL (0+l.length+1) (some { noCard with name:=n }) ls with
      | error e =>
       dsimp only
       exact ⟨fun _ q=>(nomatch q),fun _ _=>ih.2 e hf⟩
      | ok C' =>
       obtain ⟨D,rfl,q⟩:=ih.1 C' hf
       dsimp only
       rcases q with ⟨q1,q2⟩|⟨q1,q2,q3⟩
       · rw [if_pos q1]
         exact ⟨fun _ q=>(nomatch q),fun _ _=>q2⟩
       · rw [if_neg q1]
         exact ⟨fun C q=>by injection q with q;subst q;exact ⟨q2,q1,q3⟩,fun _ q=>nomatch q⟩
 · have hn:cardM (tx b)=none:=by
    unfold cardM
    rw [if_neg (fun z=>hl ((tx_last b).mp z))]
   rw [hn]
   refine ⟨fun C h=>?_,fun _ _=>rfl⟩
   exfalso
   unfold readCard at h
   cases q:linesIn lineIn (b.length+1) 0 none b with
   | error e=>rw [q] at h;cases h
   | ok h' =>
    rcases lines_last _ _ _ _ _ (Nat.lt_succ_self _) q with z|z
    · subst z
      have q':linesIn lineIn 1 0 none []=.ok h':=q
      have q':(Except.ok none:Except Fault (Option Card))=.ok h':=q'
      injection q' with q'
      subst q'
      rw [q] at h
      cases h
    · exact hl z
def Fits (fd acc:List Nat)(p:W):Prop:=∃ n:Nat,numM p=(n:Int)/\n∈fd/\∀ x,acc.getLast?=some x->x < n
theorem fits_iff {fd acc:List Nat}{p:W}:Fits fd acc p↔0<=numM p/\(numM p).toNat∈fd/\∀ x∈acc.getLast?,x < (numM p).toNat:=by
 constructor
 · rintro ⟨n,e,h1,h2⟩
   have en:(numM p).toNat=n:=by omega
   rw [en]
   exact ⟨by omega,h1,fun x hx=>h2 x hx⟩
 · rintro ⟨h0,h1,h2⟩
   exact ⟨_,by omega,h1,fun x hx=>h2 x hx⟩
instance {fd acc:List Nat}{p:W}:Decidable (Fits fd acc p):=decidable_of_iff _ fits_iff.symm
def setGo (fd:List Nat):List W->List Nat->Option (List Nat)
 | [],acc=>some acc
 | p::r,acc=>if Fits fd acc p then setGo fd r (acc++[(numM p).toNat]) else none
def setM (fd:List Nat)(w:W):Option (List Nat):=setGo fd (splitC 44 [] w) []
theorem rises_cons {x:Nat}{l:List Nat}:risesN (x::l)=true↔(∀ y,l.head?=some y->x < y)/\risesN l=true:=by
 cases l with
 | nil=>exact ⟨fun _=>⟨fun _ z=>(by cases z),rfl⟩,fun _=>rfl⟩
 | cons y r =>
  show (decide (x < y)&&risesN (y::r))=true↔_
  rw [Bool.and_eq_true,decide_eq_true_eq]
  exact ⟨fun ⟨a,b⟩=>⟨fun z e=>by injection e with e;omega,b⟩,fun ⟨a,b⟩=>⟨a y rfl,b⟩⟩
theorem mapM_some {α β:Type}{f:α->Option β}{x:α}{r:List α}{t:List β}:(x::r).mapM f=some t↔∃ b s,f x=some b/\r.mapM f=some s/\t=b::s:=by
 rw [List.mapM_cons]
 cases h:f x with
 | none =>
  constructor
  · intro z;cases z
  · rintro ⟨b,s,e,_⟩;cases e
 | some b =>
  cases h2:r.mapM f with
  | none =>
   constructor
   · intro z
     rw [show ((some b:Option β) >>= fun b=>(none:Option (List β)) >>= fun s=>pure (b::s))=none from rfl] at z
     cases z
   · rintro ⟨b,s,_,e,_⟩;cases e
  | some s =>
   constructor
   · intro z
     have z:some (b::s)=some t:=z
     injection z with z
     exact ⟨b,s,rfl,rfl,z.symm⟩
   · rintro ⟨b',s',e1,e2,rfl⟩
     injection e1 with e1
     injection e2 with e2
     subst e1 e2
     rfl
theorem setGo_iff {fd:List Nat}(hf:∀ x∈fd,x<=24):∀ (ps:List Bytes) (acc s:List Nat),setGo fd (ps.map tx) acc=some s↔∃ t,ps.mapM numberOf=some t/\s=acc++t/\(∀ x y,acc.getLast?=some x->t.head?=some y->x < y)/\risesN t=true/\∀ x∈t,x∈fd
 | [],acc,s=>by
  show some acc=some s↔_
  constructor
  · intro e
    injection e with e
    exact ⟨[],rfl,by simp [e],fun _ _ _ z=>(by cases z),rfl,fun _ z=>(by cases z)⟩
  · rintro ⟨t,e,rfl,_⟩
    have e:some []=some t:=e
    injection e with e
    subst e
    simp
 | p::r,acc,s=>by
  show (if Fits fd acc (tx p) then setGo fd (r.map tx) (acc++[(numM (tx p)).toNat]) else none)=some s↔_
  constructor
  · intro h
    split at h
    · rename_i hn
      obtain ⟨n,e1,e2,e3⟩:=hn
      have hn24:=hf n e2
      have e4:=(num_eq (w:=p) (m:=n) (by omega)).mp e1
      obtain ⟨t,a1,a2,a3,a4,a5⟩:=(setGo_iff hf r _ s).mp h
      have en:(numM (tx p)).toNat=n:=by omega
      rw [en] at a2 a3
      refine ⟨n::t,mapM_some.mpr ⟨n,t,e4,a1,rfl⟩,by rw [a2,List.append_assoc];rfl,fun x y hx hy=>?_,rises_cons.mpr ⟨fun y hy=>a3 n y (by rw [List.getLast?_append];rfl) hy,a4⟩,fun x hx=>?_⟩
      · injection hy with hy
        subst hy
        exact e3 x hx
      · rcases List.mem_cons.mp hx with rfl|hx
        · exact e2
        · exact a5 x hx
    · cases h
  · rintro ⟨t,a1,a2,a3,a4,a5⟩
    obtain ⟨n,t',e4,a1',rfl⟩:=mapM_some.mp a1
    have e2:=a5 n (by simp)
    have hn24:=hf n e2
    have e1:=(num_eq (w:=p) (m:=n) (by omega)).mpr e4
    rw [if_pos ⟨n,e1,e2,fun x hx=>a3 x n hx rfl⟩]
    have en:(numM (tx p)).toNat=n:=by omega
    rw [en]
    obtain ⟨r1,r2⟩:=rises_cons.mp a4
    refine (setGo_iff hf r _ s).mpr ⟨t',a1',by rw [a2,List.append_assoc];rfl,fun x y hx hy=>?_,r2,fun x hx=>a5 x (by simp [hx])⟩
    rw [List.getLast?_append] at hx
    have hx:some n=some x:=hx
    injection hx with hx
    subst hx
    exact r1 y hy
theorem allC {fd t:List Nat}(h:∀ x∈t,x∈fd):t.all fd.contains=true:=by
 rw [List.all_eq_true]
 intro x hx
 rw [List.contains_eq_mem]
 exact decide_eq_true (h x hx)
theorem ofC {fd t:List Nat}(h:t.all fd.contains=true):∀ x∈t,x∈fd:=fun x hx=>by
 have:=(List.all_eq_true.mp h) x hx
 rw [List.contains_eq_mem] at this
 exact of_decide_eq_true this
theorem setIn_nil {e:Nat}{fd:List Nat}:setIn e fd []=.error ⟨3,e⟩:=rfl
theorem setIn_cons {e:Nat}{fd:List Nat}(hf:∀ x∈fd,x<=24){w:Word}{r:List Word}:setIn e fd (w::r)=match setM fd (tx w.w) with
  | none=>.error ⟨4,w.at_⟩
  | some s=>.ok ((s,w.at_),r):=by
 have sp:splitC 44 [] (tx w.w)=(splitOn 44 [] w.w).map tx:=split_tx (c:=44) (by decide) w.w []
 show (match (splitOn 44 [] w.w).mapM numberOf with
 | none=>(Except.error ⟨4,w.at_⟩:Except Fault ((List Nat×Nat)×List Word))
 | some s=>if risesN s=true/\s.all fd.contains=true then (pure ((s,w.at_),r):Except Fault _) else .error ⟨4,w.at_⟩)=_
 unfold setM
 rw [sp]
 generalize splitOn 44 [] w.w=ps
 cases h:setGo fd (ps.map tx) [] with
 | some s =>
  obtain ⟨t,a1,a2,_,a4,a5⟩:=(setGo_iff hf ps [] s).mp h
  rw [List.nil_append] at a2
  subst a2
  rw [a1]
  show (if risesN s=true/\s.all fd.contains=true then (pure ((s,w.at_),r):Except Fault _) else .error ⟨4,w.at_⟩)=_
  rw [if_pos ⟨a4,allC a5⟩]
  rfl
 | none =>
  cases h1:ps.mapM numberOf with
  | none=>rfl
  | some t =>
   show (if risesN t=true/\t.all fd.contains=true then (pure ((t,w.at_),r):Except Fault _) else .error ⟨4,w.at_⟩)=_
   rw [if_neg]
   rintro ⟨b1,b2⟩
   have:=(setGo_iff hf ps [] t).mpr ⟨t,h1,by simp,fun _ _ z=>(by cases z),b1,ofC b2⟩
   rw [this] at h
   cases h
theorem setGo_good {fd:List Nat}:∀ (ps:List W) (acc s:List Nat),setGo fd ps acc=some s->ps≠[]∨acc≠[]->s≠[]
 | [],acc,s,h,hn=>by
  have h:some acc=some s:=h
  injection h with h
  subst h
  simpa using hn
 | p::r,acc,s,h,_=>by
  have h:(if Fits fd acc p then setGo fd r (acc++[(numM p).toNat]) else none)=some s:=h
  split at h
  · exact setGo_good r _ s h (.inr (by simp))
  · cases h
theorem split_ne {c:Nat}:∀ (l w:W),splitC c w l≠[]
 | [],w=>by show [w]≠[];simp
 | x::r,w=>by
  unfold splitC
  split
  · simp
  · exact split_ne r _
theorem rises_of {l:List Nat}(h:risesN l=true):Rises l:=by
 induction l with
 | nil=>exact List.Pairwise.nil
 | cons x r ih =>
  obtain ⟨h1,h2⟩:=rises_cons.mp h
  have ih:=ih h2
  refine List.Pairwise.cons (fun y hy=>?_) ih
  cases r with
  | nil=>cases hy
  | cons z r =>
   have h1:=h1 z rfl
   rcases List.mem_cons.mp hy with rfl|hy
   · exact h1
   · have:=(List.pairwise_cons.mp ih).1 y hy
     omega
theorem setIn_good {e:Nat}{fd:List Nat}(hf:∀ x∈fd,x<=24){l:List Word}{x:(List Nat×Nat)×List Word}(h:setIn e fd l=.ok x):GoodSet fd x.1.1/\x.1.1≠[]/\∃ w,l=w::x.2/\x.1.2=w.at_/\setM fd (tx w.w)=some x.1.1:=by
 cases l with
 | nil=>cases h
 | cons w r =>
  rw [setIn_cons hf] at h
  cases hs:setM fd (tx w.w) with
  | none=>rw [hs] at h;cases h
  | some s =>
   rw [hs] at h
   injection h with h
   subst h
   have sp:splitC 44 [] (tx w.w)=(splitOn 44 [] w.w).map tx:=split_tx (c:=44) (by decide) w.w []
   have hs':=hs
   unfold setM at hs'
   have ne:s≠[]:=setGo_good _ _ _ hs' (.inl (split_ne _ _))
   rw [sp] at hs'
   obtain ⟨t,_,a2,_,a4,a5⟩:=(setGo_iff hf _ _ s).mp hs'
   rw [List.nil_append] at a2
   subst a2
   exact ⟨⟨rises_of a4,a5⟩,ne,w,rfl,rfl,hs⟩
theorem must_nil {e:Nat}{s:String}:must e s []=.error ⟨3,e⟩:=rfl
theorem must_cons {e:Nat}{s:String}{w:Word}{r:List Word}:must e s (w::r)=if w.w=ascii s then .ok r else .error ⟨3,w.at_⟩:=rfl
abbrev Got:=Except Fault (List (List Nat)×List Word)
def onGo (e:Nat):List (List Nat)->List (List Nat)->List Word->Got
 | [],acc,l=>.ok (acc,l)
 | h::t,acc,l=>match (if 0 < acc.length then must e "/" l else .ok l) with
  | .error x=>.error x
  | .ok m=>match setIn e h m with
   | .error x=>.error x
   | .ok s=>onGo e t (acc++[s.1.1]) s.2
def boxW (e k:Nat)(heads:List Nat)(l:List Word):Got:=match setIn e heads l with
 | .error x=>.error x
 | .ok s=>if k<=s.1.1.length then .ok ([s.1.1],s.2) else .error ⟨4,s.1.2⟩
def keyW3 (e k:Nat)(heads sa:List Nat)(m:List Word):Got:=match setIn e heads m with
 | .error x=>.error x
 | .ok b=>if (∀ x∈b.1.1,¬ x∈sa)/\k<=sa.length+b.1.1.length then .ok ([sa,b.1.1],b.2) else .error ⟨4,b.1.2⟩
def keyW2 (e k:Nat)(heads sa:List Nat)(p:Nat)(r:List Word):Got:=if sa.length < k then (match must e "with" r with
  | .error x=>.error x
  | .ok m=>keyW3 e k heads sa m) else .error ⟨4,p⟩
def keyW (e k:Nat)(heads:List Nat)(l:List Word):Got:=match setIn e heads l with
 | .error x=>.error x
 | .ok a=>keyW2 e k heads a.1.1 a.1.2 a.2
def shut (x:Got):Except Fault (List (List Nat)):=match x with
 | .error t=>.error t
 | .ok y=>match y.2 with
  | []=>.ok y.1
  | w::_=>.error ⟨3,w.at_⟩
theorem box_eq {e:Nat}{p:Pool}{heads:List Nat}{l:List Word}:boxIn e p heads l=shut (boxW e p.k heads l):=by
 unfold boxIn boxW
 cases h:setIn e heads l with
 | error x=>rfl
 | ok s =>
  by_cases hk:p.k<=s.1.1.length
  · show (holds (decide (p.k<=s.1.1.length)) 4 s.1.2 >>= fun _=>closed s.2 >>= fun _=>pure [s.1.1])=shut (if p.k<=s.1.1.length then .ok ([s.1.1],s.2) else .error ⟨4,s.1.2⟩)
    rw [if_pos hk]
    unfold holds
    rw [if_pos (decide_eq_true hk)]
    show (closed s.2 >>= fun _=>pure [s.1.1])=shut (.ok ([s.1.1],s.2))
    unfold shut
    show _=(match s.2 with
     | []=>(Except.ok [s.1.1]:Except Fault _)
     | w::_=>.error ⟨3,w.at_⟩)
    cases s.2 <;> rfl
  · show (holds (decide (p.k<=s.1.1.length)) 4 s.1.2 >>= fun _=>closed s.2 >>= fun _=>pure [s.1.1])=shut (if p.k<=s.1.1.length then .ok ([s.1.1],s.2) else .error ⟨4,s.1.2⟩)
    rw [if_neg hk]
    unfold holds
    rw [if_neg (by simpa using hk)]
    rfl
theorem any_dec {a b:List Nat}{k:Nat}:(!(b.any fun (x:Nat)=>a.contains x)&&decide (k<=a.length+b.length))=decide ((∀ x∈b,¬ x∈a)/\k<=a.length+b.length):=by
 rw [Bool.eq_iff_iff]
 simp
theorem key_eq {e:Nat}{p:Pool}{heads:List Nat}{l:List Word}:keyIn e p heads l=shut (keyW e p.k heads l):=by
 unfold keyIn keyW
 cases h:setIn e heads l with
 | error x=>rfl
 | ok a =>
  show (holds (decide (a.1.1.length < p.k)) 4 a.1.2 >>= fun _=>must e "with" a.2 >>= fun m=>setIn e heads m >>= fun b=>holds (!(b.1.1.any fun (x:Nat)=>a.1.1.contains x)&&decide (p.k<=a.1.1.length+b.1.1.length)) 4 b.1.2 >>= fun _=>closed b.2 >>= fun _=>pure [a.1.1,b.1.1])
   = shut (if a.1.1.length < p.k then (match must e "with" a.2 with
    | .error x=>.error x
    | .ok m=>match setIn e heads m with
     | .error x=>.error x
     | .ok b=>if (∀ x∈b.1.1,¬ x∈a.1.1)/\p.k<=a.1.1.length+b.1.1.length then .ok ([a.1.1,b.1.1],b.2) else .error ⟨4,b.1.2⟩) else .error ⟨4,a.1.2⟩)
  by_cases hk:a.1.1.length < p.k
  · rw [if_pos hk]
    unfold holds
    rw [if_pos (decide_eq_true hk)]
    cases hm:must e "with" a.2 with
    | error x=>rfl
    | ok m =>
     show (setIn e heads m >>= fun b=>(if (!(b.1.1.any fun (x:Nat)=>a.1.1.contains x)&&decide (p.k<=a.1.1.length+b.1.1.length))=true then Except.ok () else .error ⟨4,b.1.2⟩) >>= fun _=>closed b.2 >>= fun _=>pure [a.1.1,b.1.1])=shut (match setIn e heads m with
      | .error x=>.error x
      | .ok b=>if (∀ x∈b.1.1,¬ x∈a.1.1)/\p.k<=a.1.1.length+b.1.1.length then .ok ([a.1.1,b.1.1],b.2) else .error ⟨4,b.1.2⟩)
     cases hb:setIn e heads m with
     | error x=>rfl
     | ok b =>
      show ((if (!(b.1.1.any fun (x:Nat)=>a.1.1.contains x)&&decide (p.k<=a.1.1.length+b.1.1.length))=true then Except.ok () else .error ⟨4,b.1.2⟩) >>= fun _=>closed b.2 >>= fun _=>pure [a.1.1,b.1.1])=shut (if (∀ x∈b.1.1,¬ x∈a.1.1)/\p.k<=a.1.1.length+b.1.1.length then .ok ([a.1.1,b.1.1],b.2) else .error ⟨4,b.1.2⟩)
      rw [any_dec]
      by_cases hq:(∀ x∈b.1.1,¬ x∈a.1.1)/\p.k<=a.1.1.length+b.1.1.length
      · rw [if_pos hq,if_pos (decide_eq_true hq)]
        show (closed b.2 >>= fun _=>pure [a.1.1,b.1.1])=(match b.2 with
         | []=>Except.ok [a.1.1,b.1.1]
         | w::_=>.error ⟨3,w.at_⟩)
        cases b.2 <;> rfl
      · rw [if_neg hq,if_neg (by rw [decide_eq_true_eq];exact hq)]
        rfl
  · rw [if_neg hk]
    unfold holds
    rw [if_neg (by simpa using hk)]
    rfl
def addTo (acc:List (List Nat))(x:Except Fault (List (List Nat))):Except Fault (List (List Nat)):=match x with
 | .error t=>.error t
 | .ok y=>.ok (acc++y)
theorem on_eq1 {e:Nat}:∀ (fs acc:List (List Nat)) (l:List Word),acc≠[]->fs≠[]->shut (onGo e fs acc l)=addTo acc (must e "/" l >>= fun m=>setsIn e fs m)
 | [],_,_,_,h=>absurd rfl h
 | h::t,acc,l,ha,_=>by
  have hl:0 < acc.length:=List.length_pos_iff.mpr ha
  unfold onGo
  rw [if_pos hl]
  cases hm:must e "/" l with
  | error x=>rfl
  | ok m =>
   show shut (match setIn e h m with
    | .error x=>.error x
    | .ok s=>onGo e t (acc++[s.1.1]) s.2)=addTo acc (setsIn e (h::t) m)
   cases t with
   | nil =>
    show _=addTo acc (setIn e h m >>= fun s=>closed s.2 >>= fun _=>pure [s.1.1])
    cases hs:setIn e h m with
    | error x=>rfl
    | ok s =>
     show shut (.ok (acc++[s.1.1],s.2))=addTo acc (closed s.2 >>= fun _=>pure [s.1.1])
     unfold shut
     show (match s.2 with
      | []=>(Except.ok (acc++[s.1.1]):Except Fault _)
      | w::_=>.error ⟨3,w.at_⟩)=_
     cases s.2 <;> rfl
   | cons h2 t2 =>
    show _=addTo acc (setIn e h m >>= fun s=>must e "/" s.2 >>= fun m=>setsIn e (h2::t2) m >>= fun r=>pure (s.1.1::r))
    cases hs:setIn e h m with
    | error x=>rfl
    | ok s =>
     show shut (onGo e (h2::t2) (acc++[s.1.1]) s.2)=addTo acc (must e "/" s.2 >>= fun m=>setsIn e (h2::t2) m >>= fun r=>pure (s.1.1::r))
     rw [on_eq1 (h2::t2) (acc++[s.1.1]) s.2 (by simp) (by simp)]
     cases must e "/" s.2 with
     | error x=>rfl
     | ok m2 =>
      show addTo _ (setsIn e (h2::t2) m2)=addTo acc (setsIn e (h2::t2) m2 >>= fun r=>pure (s.1.1::r))
      cases setsIn e (h2::t2) m2 with
      | error x=>rfl
      | ok r =>
       show Except.ok (acc++[s.1.1]++r)=Except.ok (acc++(s.1.1::r))
       rw [List.append_assoc]
       rfl
theorem on_eq {e:Nat}{fs:List (List Nat)}{l:List Word}:setsIn e fs l=shut (onGo e fs [] l):=by
 cases fs with
 | nil =>
  show (closed l).map (fun (_:Unit)=>[])=(match l with
   | []=>Except.ok []
   | w::_=>.error ⟨3,w.at_⟩)
  cases l <;> rfl
 | cons h t =>
  show _=shut (match setIn e h l with
   | .error x=>.error x
   | .ok s=>onGo e t ([]++[s.1.1]) s.2)
  cases t with
  | nil =>
   show (setIn e h l >>= fun s=>closed s.2 >>= fun _=>pure [s.1.1])=_
   cases hs:setIn e h l with
   | error x=>rfl
   | ok s =>
    show (closed s.2 >>= fun _=>pure [s.1.1])=(match s.2 with
     | []=>Except.ok ([]++[s.1.1])
     | w::_=>.error ⟨3,w.at_⟩)
    cases s.2 <;> rfl
  | cons h2 t2 =>
   show (setIn e h l >>= fun s=>must e "/" s.2 >>= fun m=>setsIn e (h2::t2) m >>= fun r=>pure (s.1.1::r))=_
   cases hs:setIn e h l with
   | error x=>rfl
   | ok s =>
    show (must e "/" s.2 >>= fun m=>setsIn e (h2::t2) m >>= fun r=>pure (s.1.1::r))=shut (onGo e (h2::t2) ([]++[s.1.1]) s.2)
    rw [on_eq1 (h2::t2) ([]++[s.1.1]) s.2 (by simp) (by simp)]
    cases must e "/" s.2 with
    | error x=>rfl
    | ok m2 =>
     show (setsIn e (h2::t2) m2 >>= fun r=>pure (s.1.1::r))=addTo _ (setsIn e (h2::t2) m2)
     cases setsIn e (h2::t2) m2 with
     | error x=>rfl
     | ok r=>rfl
structure FOk (p:PoolM):Prop where
 ne:p.fields≠[]
 len:p.fields.length<=24
 hi:∀ fd∈p.fields,∀ x∈fd,x<=24
 unit:1<=p.unit
 six:p.fields.length<=6
 any3:p.kind=.any->p.fields.length<=3
def setsW (e:Nat)(p:PoolM)(how:Nat)(l:List Word):Got:=if how=0 then onGo e p.fields [] l else if how=1 then boxW e p.fields.length (p.fields.getD 0 []) l else keyW e p.fields.length (p.fields.getD 0 []) l
def mixedM (p:PoolM):Bool:=p.kind==.order||p.kind==.any
def wayOf (p:PoolM)(w:Bytes):Option Nat:=if w=ascii "on" then some 0 else if w=ascii "box"/\mixedM p=true then some 1 else if w=ascii "key"/\mixedM p=true then some 2 else none
def poolAtN (ps:List PoolM)(w:W):Option Nat:=ps.findIdx? fun p=>p.name==w
def hwOf (n:Nat):How:=if n=0 then .on else if n=1 then .box else .key
structure BetM where
 pool:Nat
 how:Nat
 stake:Nat
 sets:List (List Nat)
structure MOk (p:PoolM)(how:Nat)(sets:List (List Nat)):Prop where
 ok:FOk p
 way:how=0∨mixedM p=true
 read:∃ e l r,setsW e p how l=.ok (sets,r)
def stakeOk (u:Nat)(w:W):Prop:=1<=numM w/\numM w<=1000000/\numM w % (u:Int)=0
instance {u:Nat}{w:W}:Decidable (stakeOk u w):=by unfold stakeOk;exact inferInstance
def bw6 (i how stake hp sp:Nat)(p:PoolM)(sets:List (List Nat)):Except Fault BetM :=
 if countM p.kind (hwOf how) p.fields.length sets=0 then .error ⟨6,hp⟩ else if 2147483647 < stake*countM p.kind (hwOf how) p.fields.length sets then .error ⟨7,sp⟩ else .ok ⟨i,how,stake,sets⟩
def bw5b (e i how stake hp sp:Nat)(p:PoolM)(x:Got):Except Fault BetM:=match shut x with
 | .error t=>.error t
 | .ok sets=>bw6 i how stake hp sp p sets
def bw5 (e i:Nat)(p:PoolM)(stake sp:Nat):List Word->Except Fault BetM
 | []=>.error ⟨3,e⟩
 | hw::r=>match wayOf p hw.w with
  | none=>.error ⟨3,hw.at_⟩
  | some how=>bw5b e i how stake hw.at_ sp p (setsW e p how r)
def bw4 (e i:Nat)(p:PoolM):List Word->Except Fault BetM
 | []=>.error ⟨3,e⟩
 | sw::r=>if stakeOk p.unit (tx sw.w) then bw5 e i p (numM (tx sw.w)).toNat sw.at_ r else .error ⟨4,sw.at_⟩
def bw3 (e i:Nat)(p:PoolM)(l:List Word):Except Fault BetM:=match must e "for" l with
 | .error t=>.error t
 | .ok m=>bw4 e i p m
def bw2 (e:Nat)(ps:List PoolM):List Word->Except Fault BetM
 | []=>.error ⟨3,e⟩
 | n::r=>match poolAtN ps (tx n.w) with
  | none=>.error ⟨5,n.at_⟩
  | some i=>match ps[i]? with
   | none=>.error ⟨5,n.at_⟩
   | some p=>bw3 e i p r
def bw1 (e:Nat)(ps:List PoolM)(l:List Word):Except Fault BetM:=match must e "bet" l with
 | .error t=>.error t
 | .ok m=>bw2 e ps m
theorem poolAtN_lt {ps:List PoolM}{w:W}{i:Nat}(h:poolAtN ps w=some i):i < ps.length:=by
 unfold poolAtN at h
 rw [List.findIdx?_eq_some_iff_getElem] at h
 exact h.1
theorem name_okS {v:Bytes}(h:isName v=true):∀ c∈v,okS c.toNat=true:=fun c hc=>by
 rw [← name_tx] at h
 have h2:=good_name h
 have:sg c.toNat∈tx v:=List.mem_map.mpr ⟨c,hc,rfl⟩
 have h3:=h2.2 _ this
 rw [sg_let,sg_dig] at h3
 unfold okS
 rw [h3]
 rfl
theorem pool_at {C:Card}(o:CardOk C)(v:Bytes):poolAtN (C.pools.map (poolOf C)) (tx v)=C.pools.findIdx? fun p=>p.name==v:=by
 unfold poolAtN
 rw [List.findIdx?_map]
 have:∀ (l:List Pool),(∀ p∈l,isName p.name=true)->List.findIdx? ((fun p=>p.name==tx v) ∘ poolOf C) l=l.findIdx? fun p=>p.name==v:=fun l=>by
  induction l with
  | nil=>intro _;rfl
  | cons p r ih =>
   intro hn
   rw [List.findIdx?_cons,List.findIdx?_cons,ih fun q hq=>hn q (by simp [hq])]
   have e:((fun p=>p.name==tx v) ∘ poolOf C) p=(p.name==v):=by
    show (tx p.name==tx v)=_
    rw [Bool.eq_iff_iff,beq_iff_eq,beq_iff_eq]
    constructor
    · intro z
      have:=(tx_eq (v:=p.name) (w:=v) (name_okS (hn p (by simp)))).mp
      have e2:tx p.name=p.name.map UInt8.toNat:=(tx_eq (v:=p.name) (w:=p.name) (name_okS (hn p (by simp)))).mpr rfl
      exact (this (by rw [← z,e2])).symm
    · intro z;rw [z]
   rw [e]
 exact this C.pools fun p hp=>(o.pools p hp).name
theorem heads_good {C:Card}(o:CardOk C){r:Nat}(h1:1<=r)(h2:r<=C.races.length):GoodHeads (C.headsOf r):=by
 unfold Card.headsOf
 rw [List.getElem?_eq_getElem (by omega)]
 exact o.heads _ (List.getElem_mem _)
theorem places_of {p:Pool}(h:p.kind=.order∨p.kind=.any):p.places=p.k:=by
 unfold Pool.places
 rw [if_neg]
 rcases h with h|h <;> rw [h] <;> decide
theorem fields_pool {C:Card}{p:Pool}(h:PoolOk C p)(hk:p.kind≠.legs):fieldsOf C p=List.replicate p.places (C.headsOf p.race):=by
 unfold fieldsOf
 rw [if_neg hk]
theorem most_le {k:Kind}:mostK k<=6:=by cases k <;> decide
theorem places_pos {C:Card}{p:Pool}(h:PoolOk C p):1<=p.places:=by
 unfold Pool.places
 split
 · exact Nat.le_refl _
 · have:=h.klo
   have:1<=leastK p.kind:=by cases p.kind <;> decide
   omega
theorem places_le {C:Card}{p:Pool}(h:PoolOk C p):p.places<=6:=by
 unfold Pool.places
 split
 · decide
 · have:=h.khi
   have:=most_le (k:=p.kind)
   omega
theorem fok {C:Card}(o:CardOk C){p:Pool}(h:PoolOk C p):FOk (poolOf C p):=by
 have hu:=h.unit
 by_cases hk:p.kind=.legs
 · have e:(poolOf C p).fields=((rh C).drop (p.race - 1)).take p.k:=by
    show fieldsOf C p=_
    unfold fieldsOf
    rw [if_pos hk]
    exact legs_sets C p hk h.rlo (h.legs hk)
   have hl:=h.legs hk
   have hr:=h.rlo
   have hlo:=h.klo
   have hm:2<=p.k:=by rw [hk] at hlo;exact hlo
   have hn:(rh C).length=C.races.length:=by unfold rh;rw [List.length_map]
   have hlen:(poolOf C p).fields.length=p.k:=by
    rw [e,List.length_take,List.length_drop]
    omega
   refine ⟨fun z=>by rw [z] at hlen;simp at hlen;omega,by have:=h.khi;have:=most_le (k:=p.kind);omega,fun fd hf x hx=>?_,hu,by have:=h.khi;have:=most_le (k:=p.kind);omega,fun z=>by have z:p.kind=.any:=z;rw [hk] at z;cases z⟩
   rw [e] at hf
   have:fd∈rh C:=List.mem_of_mem_drop (List.mem_of_mem_take hf)
   unfold rh at this
   obtain ⟨r,hr,rfl⟩:=List.mem_map.mp this
   exact (o.heads r hr).hi x hx
 · have e:(poolOf C p).fields=List.replicate p.places (C.headsOf p.race):=fields_pool h hk
   have p1:=places_pos h
   have p2:=places_le h
   refine ⟨fun z=>by rw [z] at e;have:=congrArg List.length e;simp at this;omega,by rw [e,List.length_replicate];omega,fun fd hf x hx=>?_,hu,by rw [e,List.length_replicate];omega,fun z=>by
    have z:p.kind=.any:=z
    rw [e,List.length_replicate,places_of (.inr z)]
    have:=h.khi
    rw [z] at this
    exact this⟩
   rw [e] at hf
   have:=List.eq_of_mem_replicate hf
   subst this
   exact (heads_good o h.rlo h.rhi).hi x hx
theorem onGo_ok {e:Nat}{heads:List Nat}(h24:∀ x∈heads,x<=24):∀ (fs acc:List (List Nat)) (l:List Word) (s:List (List Nat)) (r:List Word),(∀ fd∈fs,fd=heads)->onGo e fs acc l=.ok (s,r)->s.length=acc.length+fs.length/\∀ x∈s,x∈acc∨GoodSet heads x
 | [],acc,l,s,r,_,h=>by
  have h:(Except.ok (acc,l):Got)=.ok (s,r):=h
  injection h with h
  injection h with h1 h2
  subst h1
  exact ⟨rfl,fun x hx=>.inl hx⟩
 | f::fs,acc,l,s,r,hf,h=>by
  have h:(match (if 0 < acc.length then must e "/" l else .ok l) with
   | .error x=>(Except.error x:Got)
   | .ok m=>match setIn e f m with
    | .error x=>.error x
    | .ok s=>onGo e fs (acc++[s.1.1]) s.2)=.ok (s,r):=h
  cases hm:(if 0 < acc.length then must e "/" l else .ok l) with
  | error x=>rw [hm] at h;cases h
  | ok m =>
   rw [hm] at h
   have h:(match setIn e f m with
    | .error x=>(Except.error x:Got)
    | .ok s=>onGo e fs (acc++[s.1.1]) s.2)=.ok (s,r):=h
   have ef:=hf f (by simp)
   subst ef
   cases hs:setIn e f m with
   | error x=>rw [hs] at h;cases h
   | ok y =>
    rw [hs] at h
    obtain ⟨g,_⟩:=setIn_good h24 hs
    obtain ⟨i1,i2⟩:=onGo_ok h24 fs (acc++[y.1.1]) y.2 s r (fun fd hfd=>hf fd (by simp [hfd])) h
    refine ⟨by rw [i1];simp;omega,fun x hx=>?_⟩
    rcases i2 x hx with z|z
    · rcases List.mem_append.mp z with z|z
      · exact .inl z
      · rw [List.mem_singleton] at z
        subst z
        exact .inr g
    · exact .inr z
theorem onGo_ok2 {e:Nat}:∀ (fs acc:List (List Nat)) (l:List Word) (s:List (List Nat)) (r:List Word),(∀ fd∈fs,∀ x∈fd,x<=24)->onGo e fs acc l=.ok (s,r)->s.length=acc.length+fs.length/\∀ x∈s,x∈acc∨(Rises x/\∀ y∈x,y<=24)
 | [],acc,l,s,r,_,h=>by
  have h:(Except.ok (acc,l):Got)=.ok (s,r):=h
  injection h with h
  injection h with h1 h2
  subst h1
  exact ⟨rfl,fun x hx=>.inl hx⟩
 | f::fs,acc,l,s,r,hf,h=>by
  have h:(match (if 0 < acc.length then must e "/" l else .ok l) with
   | .error x=>(Except.error x:Got)
   | .ok m=>match setIn e f m with
    | .error x=>.error x
    | .ok s=>onGo e fs (acc++[s.1.1]) s.2)=.ok (s,r):=h
  cases hm:(if 0 < acc.length then must e "/" l else .ok l) with
  | error x=>rw [hm] at h;cases h
  | ok m =>
   rw [hm] at h
   have h:(match setIn e f m with
    | .error x=>(Except.error x:Got)
    | .ok s=>onGo e fs (acc++[s.1.1]) s.2)=.ok (s,r):=h
   have ef:=hf f (by simp)
   cases hs:setIn e f m with
   | error x=>rw [hs] at h;cases h
   | ok y =>
    rw [hs] at h
    obtain ⟨g,_⟩:=setIn_good ef hs
    obtain ⟨i1,i2⟩:=onGo_ok2 fs (acc++[y.1.1]) y.2 s r (fun fd hfd=>hf fd (by simp [hfd])) h
    refine ⟨by rw [i1];simp;omega,fun x hx=>?_⟩
    rcases i2 x hx with z|z
    · rcases List.mem_append.mp z with z|z
      · exact .inl z
      · rw [List.mem_singleton] at z
        subst z
        exact .inr ⟨g.rise,fun y hy=>ef y (g.sub y hy)⟩
    · exact .inr z
theorem boxW_ok {e k:Nat}{heads:List Nat}(h24:∀ x∈heads,x<=24){l r:List Word}{s:List (List Nat)}(h:boxW e k heads l=.ok (s,r)):∃ t,s=[t]/\k<=t.length/\GoodSet heads t:=by
 unfold boxW at h
 cases hs:setIn e heads l with
 | error x=>rw [hs] at h;cases h
 | ok y =>
  rw [hs] at h
  have h:(if k<=y.1.1.length then (Except.ok ([y.1.1],y.2):Got) else .error ⟨4,y.1.2⟩)=.ok (s,r):=h
  split at h
  · rename_i hk
    injection h with h
    injection h with h1 h2
    exact ⟨_,h1.symm,hk,(setIn_good h24 hs).1⟩
  · cases h
theorem keyW_ok {e k:Nat}{heads:List Nat}(h24:∀ x∈heads,x<=24){l r:List Word}{s:List (List Nat)}(h:keyW e k heads l=.ok (s,r)):∃ a b,s=[a,b]/\a.length < k/\(∀ x∈b,¬ x∈a)/\k<=a.length+b.length/\GoodSet heads a/\GoodSet heads b:=by
 unfold keyW at h
 cases hs:setIn e heads l with
 | error x=>rw [hs] at h;cases h
 | ok y =>
  rw [hs] at h
  have h:keyW2 e k heads y.1.1 y.1.2 y.2=.ok (s,r):=h
  unfold keyW2 at h
  split at h
  · rename_i hk
    cases hm:must e "with" y.2 with
    | error x=>rw [hm] at h;cases h
    | ok m =>
     rw [hm] at h
     have h:keyW3 e k heads y.1.1 m=.ok (s,r):=h
     unfold keyW3 at h
     cases hb:setIn e heads m with
     | error x=>rw [hb] at h;cases h
     | ok z =>
      rw [hb] at h
      have h:(if (∀ x∈z.1.1,¬ x∈y.1.1)/\k<=y.1.1.length+z.1.1.length then (Except.ok ([y.1.1,z.1.1],z.2):Got) else .error ⟨4,z.1.2⟩)=.ok (s,r):=h
      split at h
      · rename_i hq
        injection h with h
        injection h with h1 h2
        exact ⟨_,_,h1.symm,hk,hq.1,hq.2,(setIn_good h24 hs).1,(setIn_good h24 hb).1⟩
      · cases h
  · cases h
theorem rises_25 {s:List Nat}(h:Rises s)(h24:∀ x∈s,x<=24):s.length<=25:=by
 have:=len_le_of_sub (m:=List.range 25) h.nodup fun x hx=>List.mem_range.mpr (by have:=h24 x hx;omega)
 simpa using this
theorem MOk.on {p:PoolM}{how:Nat}{sets:List (List Nat)}(m:MOk p how sets)(h:how=0):sets.length=p.fields.length/\∀ s∈sets,Rises s/\∀ x∈s,x<=24:=by
 obtain ⟨e,l,r,hr⟩:=m.read
 unfold setsW at hr
 rw [if_pos h] at hr
 obtain ⟨h1,h2⟩:=onGo_ok2 _ [] l sets r m.ok.hi hr
 exact ⟨by simpa using h1,fun s hs=>(h2 s hs).resolve_left (by simp)⟩
theorem f0_hi {p:PoolM}(o:FOk p):∀ x∈p.fields.getD 0 [],x<=24:=by
 have hl:0 < p.fields.length:=List.length_pos_iff.mpr o.ne
 have eg:p.fields.getD 0 []=p.fields[0]:=by rw [List.getD_eq_getElem?_getD,List.getElem?_eq_getElem hl];rfl
 rw [eg]
 exact o.hi _ (List.getElem_mem hl)
theorem MOk.box {p:PoolM}{how:Nat}{sets:List (List Nat)}(m:MOk p how sets)(h:how=1):∃ t,sets=[t]/\p.fields.length<=t.length/\t.length<=25:=by
 obtain ⟨e,l,r,hr⟩:=m.read
 unfold setsW at hr
 rw [if_neg (by omega),if_pos h] at hr
 have f:=f0_hi m.ok
 obtain ⟨t,h1,h2,g⟩:=boxW_ok f hr
 exact ⟨t,h1,h2,rises_25 g.rise fun x hx=>f x (g.sub x hx)⟩
theorem MOk.key {p:PoolM}{how:Nat}{sets:List (List Nat)}(m:MOk p how sets)(h0:how≠0)(h1:how≠1):∃ a b,sets=[a,b]/\a.length < p.fields.length/\p.fields.length<=a.length+b.length/\b.length<=25:=by
 obtain ⟨e,l,r,hr⟩:=m.read
 unfold setsW at hr
 rw [if_neg h0,if_neg h1] at hr
 have f:=f0_hi m.ok
 obtain ⟨a,b,z1,z2,z3,z4,g1,g2⟩:=keyW_ok f hr
 exact ⟨a,b,z1,z2,z4,rises_25 g2.rise fun x hx=>f x (g2.sub x hx)⟩
theorem hw_box {h:Nat}:hwOf h=.box↔h=1:=by
 unfold hwOf
 by_cases h0:h=0
 · rw [if_pos h0];constructor
   · intro z;cases z
   · intro z;omega
 · rw [if_neg h0]
   by_cases h1:h=1
   · rw [if_pos h1];simp [h1]
   · rw [if_neg h1];constructor
     · intro z;cases z
     · intro z;exact absurd z h1
theorem hw_on {h:Nat}:hwOf h=.on↔h=0:=by
 unfold hwOf
 by_cases h0:h=0
 · rw [if_pos h0];simp [h0]
 · rw [if_neg h0]
   by_cases h1:h=1
   · rw [if_pos h1];constructor
     · intro z;cases z
     · intro z;omega
   · rw [if_neg h1];constructor
     · intro z;cases z
     · intro z;exact absurd z h0
theorem hw_key {h:Nat}:hwOf h=.key↔h≠0/\h≠1:=by
 unfold hwOf
 by_cases h0:h=0
 · rw [if_pos h0];constructor
   · intro z;cases z
   · intro z;exact absurd h0 z.1
 · rw [if_neg h0]
   by_cases h1:h=1
   · rw [if_pos h1];constructor
     · intro z;cases z
     · intro z;exact absurd h1 z.2
   · rw [if_neg h1];simp [h0,h1]
theorem mixed_iff {C:Card}{p:Pool}:mixedM (poolOf C p)=true↔p.kind=.order∨p.kind=.any:=by
 show (p.kind==.order||p.kind==.any)=true↔_
 cases p.kind <;> decide
theorem getD_rep {α:Type}{n:Nat}{x d:α}(h:1<=n):(List.replicate n x).getD 0 d=x:=by
 cases n with
 | zero=>omega
 | succ n=>rfl
theorem betOk_of {C:Card}(o:CardOk C){i:Nat}{p:Pool}(hi:C.pool i=p)(hP:PoolOk C p){how stake e:Nat}{l r:List Word}{sets:List (List Nat)}(way:how=0∨mixedM (poolOf C p)=true)(h:setsW e (poolOf C p) how l=.ok (sets,r)):BetOk C ⟨i,hwOf how,sets,stake⟩ p:=by
 have nm:p.kind≠.legs->fieldsOf C p=List.replicate p.places (C.headsOf p.race):=fields_pool hP
 have gh:=heads_good o hP.rlo hP.rhi
 unfold setsW at h
 have hk0:p.kind=.place∨p.kind=.legs->how=0:=fun z=>by
  rcases way with w|w
  · exact w
  · rw [mixed_iff] at w
    rcases z with z|z <;> rcases w with w|w <;> rw [z] at w <;> cases w
 have fld0:how≠0->(poolOf C p).fields.getD 0 []=C.headsOf p.race/\(poolOf C p).fields.length=p.k:=fun hn=>by
  have w:p.kind=.order∨p.kind=.any:=by
   rcases way with w|w
   · exact absurd w hn
   · exact mixed_iff.mp w
  have hl:p.kind≠.legs:=by rcases w with w|w <;> rw [w] <;> decide
  have e:(poolOf C p).fields=List.replicate p.places (C.headsOf p.race):=nm hl
  rw [e,List.length_replicate]
  exact ⟨getD_rep (places_pos hP),places_of w⟩
 have onOk:how=0->p.kind≠.legs->sets.length=p.places/\∀ s∈sets,GoodSet (C.headsOf p.race) s:=fun hz hl=>by
  rw [if_pos hz] at h
  have e:(poolOf C p).fields=List.replicate p.places (C.headsOf p.race):=nm hl
  rw [e] at h
  obtain ⟨h1,h2⟩:=onGo_ok gh.hi _ [] l sets r (fun fd hf=>List.eq_of_mem_replicate hf) h
  rw [List.length_replicate] at h1
  exact ⟨by simpa using h1,fun s hs=>(h2 s hs).resolve_left (by simp)⟩
 have boxOk:how=1->∃ t,sets=[t]/\p.k<=t.length/\GoodSet (C.headsOf p.race) t:=fun hz=>by
  obtain ⟨f1,f2⟩:=fld0 (by omega)
  rw [if_neg (by omega),if_pos hz,f1,f2] at h
  exact boxW_ok gh.hi h
 have keyOk:how≠0->how≠1->∃ a b,sets=[a,b]/\a.length < p.k/\(∀ x∈b,¬ x∈a)/\p.k<=a.length+b.length/\GoodSet (C.headsOf p.race) a/\GoodSet (C.headsOf p.race) b:=fun h0 h1=>by
  obtain ⟨f1,f2⟩:=fld0 h0
  rw [if_neg h0,if_neg h1,f1,f2] at h
  exact keyW_ok gh.hi h
 refine ⟨hi,fun _=>gh,fun h1 h2=>?_,fun h1 s hs=>?_,fun h1=>?_,fun h1=>hw_on.mpr (hk0 (.inr h1)),fun h1 h2 h3=>?_,fun h1=>?_,fun h1=>?_⟩
 · refine ⟨?_,hP.khi⟩
   have:=hP.klo
   have e2:leastK p.kind=2:=by
    cases hk:p.kind with
    | place=>exact absurd hk h2
    | order=>rfl
    | any=>rfl
    | legs=>exact absurd hk h1
   omega
 · by_cases z0:how=0
   · exact (onOk z0 h1).2 s hs
   · by_cases z1:how=1
     · obtain ⟨t,e,_,g⟩:=boxOk z1
       have hs:s∈sets:=hs
       rw [e,List.mem_singleton] at hs
       subst hs
       exact g
     · obtain ⟨a,b,e,_,_,_,g1,g2⟩:=keyOk z0 z1
       have hs:s∈sets:=hs
       rw [e] at hs
       rcases List.mem_cons.mp hs with rfl|hs
       · exact g1
       · rw [List.mem_singleton] at hs
         subst hs
         exact g2
 · have z0:=hk0 (.inl h1)
   refine ⟨hw_on.mpr z0,?_⟩
   have:=(onOk z0 (by rw [h1];decide)).1
   rw [show p.places=1 by unfold Pool.places;rw [if_pos h1]] at this
   exact this
 · have z0:=hw_on.mp h3
   have:=(onOk z0 h1).1
   rw [show p.places=p.k by unfold Pool.places;rw [if_neg h2]] at this
   exact this
 · obtain ⟨t,e,hk,_⟩:=boxOk (hw_box.mp h1)
   exact ⟨t,e,hk⟩
 · obtain ⟨z0,z1⟩:=hw_key.mp h1
   obtain ⟨a,b,e,h2,h3,h4,_⟩:=keyOk z0 z1
   exact ⟨a,b,e,h2,h3,h4⟩
theorem many_eq {C:Card}(o:CardOk C){i:Nat}{p:Pool}(hi:C.pool i=p)(hP:PoolOk C p){how stake e:Nat}{l r:List Word}{sets:List (List Nat)}(way:how=0∨mixedM (poolOf C p)=true)(h:setsW e (poolOf C p) how l=.ok (sets,r)) :
  countM p.kind (hwOf how) (poolOf C p).fields.length sets=C.manyOf ⟨i,hwOf how,sets,stake⟩:=by
 rw [manyOf_count (betOk_of o hi hP way h)]
 show _=countM p.kind (hwOf how) p.k sets
 by_cases h0:how=0
 · rw [hw_on.mpr h0]
   rfl
 · have w:p.kind=.order∨p.kind=.any:=by
    rcases way with w|w
    · exact absurd w h0
    · exact mixed_iff.mp w
   have hl:p.kind≠.legs:=by rcases w with w|w <;> rw [w] <;> decide
   have e:(poolOf C p).fields=List.replicate p.places (C.headsOf p.race):=fields_pool hP hl
   rw [e,List.length_replicate,places_of w]
def howN (h:How):Nat:=match h with
 | .on=>0
 | .box=>1
 | .key=>2
theorem howN_hw {h:Nat}(h2:h<=2):howN (hwOf h)=h:=by
 have:h=0∨h=1∨h=2:=by omega
 rcases this with rfl|rfl|rfl <;> rfl
def toM (x:Except Fault Bet):Except Fault BetM:=match x with
 | .error t=>.error t
 | .ok b=>.ok ⟨b.pool,howN b.how,b.stake,b.sets⟩
def tail7 (C:Card)(hp sp:Nat)(b:Bet):Except Fault Bet:=holds (decide (0 < C.manyOf b)) 6 hp >>= fun _=>holds (decide (b.stake*C.manyOf b<=COST)) 7 sp >>= fun _=>pure b
theorem tail_eq {C:Card}{i how stake hp sp:Nat}{p:Pool}{sets:List (List Nat)}(h2:how<=2)(hm:countM p.kind (hwOf how) (poolOf C p).fields.length sets=C.manyOf ⟨i,hwOf how,sets,stake⟩) :
  bw6 i how stake hp sp (poolOf C p) sets=toM (tail7 C hp sp ⟨i,hwOf how,sets,stake⟩):=by
 have hm:countM (poolOf C p).kind (hwOf how) (poolOf C p).fields.length sets=C.manyOf ⟨i,hwOf how,sets,stake⟩:=hm
 unfold bw6 tail7
 rw [hm]
 generalize C.manyOf ⟨i,hwOf how,sets,stake⟩=m
 by_cases h0:m=0
 · rw [if_pos h0]
   unfold holds
   rw [if_neg (by simp [h0])]
   rfl
 · rw [if_neg h0]
   unfold holds
   rw [if_pos (show decide (0 < m)=true from decide_eq_true (by omega))]
   by_cases h1:2147483647 < stake*m
   · rw [if_pos h1]
     show _=toM ((if decide (stake*m<=COST)=true then Except.ok () else .error ⟨7,sp⟩) >>= fun _=>pure _)
     rw [if_neg (by rw [decide_eq_true_eq];unfold COST;omega)]
     rfl
   · rw [if_neg h1]
     show _=toM ((if decide (stake*m<=COST)=true then Except.ok () else .error ⟨7,sp⟩) >>= fun _=>pure _)
     rw [if_pos (by rw [decide_eq_true_eq];unfold COST;omega)]
     show _=Except.ok (⟨i,howN (hwOf how),stake,sets⟩:BetM)
     rw [howN_hw h2]
def tail5 (C:Card)(e i:Nat)(p:Pool)(stake sp:Nat)(l:List Word):Except Fault Bet:=next e l >>= fun w =>
 if w.1.w=ascii "on" then (setsIn e (if p.kind=.legs then C.sets p else List.replicate p.places (C.headsOf p.race)) w.2).map (fun (q:List (List Nat))=>(⟨i,.on,q,stake⟩:Bet)) >>= fun b=>tail7 C w.1.at_ sp b
 else if w.1.w=ascii "box"/\(p.kind==.order||p.kind==.any)=true then (boxIn e p (C.headsOf p.race) w.2).map (fun (q:List (List Nat))=>(⟨i,.box,q,stake⟩:Bet)) >>= fun b=>tail7 C w.1.at_ sp b
 else if w.1.w=ascii "key"/\(p.kind==.order||p.kind==.any)=true then (keyIn e p (C.headsOf p.race) w.2).map (fun (q:List (List Nat))=>(⟨i,.key,q,stake⟩:Bet)) >>= fun b=>tail7 C w.1.at_ sp b
 else (.error ⟨3,w.1.at_⟩:Except Fault Bet) >>= fun b=>tail7 C w.1.at_ sp b
theorem sets_way {C:Card}(o:CardOk C){i:Nat}{p:Pool}(hi:C.pool i=p)(hP:PoolOk C p){e how stake hp sp:Nat}(h2:how<=2)(way:how=0∨mixedM (poolOf C p)=true){r:List Word}{x:Except Fault (List (List Nat))}(hx:x=shut (setsW e (poolOf C p) how r)) :
  bw5b e i how stake hp sp (poolOf C p) (setsW e (poolOf C p) how r)=toM ((x.map fun (q:List (List Nat))=>(⟨i,hwOf how,q,stake⟩:Bet)) >>= fun b=>tail7 C hp sp b):=by
 subst hx
 unfold bw5b
 cases hs:setsW e (poolOf C p) how r with
 | error t=>rfl
 | ok y =>
  obtain ⟨sets,r'⟩:=y
  cases r' with
  | nil =>
   show bw6 i how stake hp sp (poolOf C p) sets=toM (tail7 C hp sp ⟨i,hwOf how,sets,stake⟩)
   exact tail_eq h2 (many_eq o hi hP way hs)
  | cons w r'=>rfl
theorem tail5_eq {C:Card}(o:CardOk C){i:Nat}{p:Pool}(hi:C.pool i=p)(hP:PoolOk C p){e stake sp:Nat}{l:List Word}:bw5 e i (poolOf C p) stake sp l=toM (tail5 C e i p stake sp l):=by
 cases l with
 | nil=>rfl
 | cons w r =>
  show (match wayOf (poolOf C p) w.w with
   | none=>(Except.error ⟨3,w.at_⟩:Except Fault BetM)
   | some how=>bw5b e i how stake w.at_ sp (poolOf C p) (setsW e (poolOf C p) how r))=toM (if w.w=ascii "on" then (setsIn e (if p.kind=.legs then C.sets p else List.replicate p.places (C.headsOf p.race)) r).map (fun (q:List (List Nat))=>(⟨i,.on,q,stake⟩:Bet)) >>= fun b=>tail7 C w.at_ sp b
   else if w.w=ascii "box"/\mixedM (poolOf C p)=true then (boxIn e p (C.headsOf p.race) r).map (fun (q:List (List Nat))=>(⟨i,.box,q,stake⟩:Bet)) >>= fun b=>tail7 C w.at_ sp b
   else if w.w=ascii "key"/\mixedM (poolOf C p)=true then (keyIn e p (C.headsOf p.race) r).map (fun (q:List (List Nat))=>(⟨i,.key,q,stake⟩:Bet)) >>= fun b=>tail7 C w.at_ sp b
   else (.error ⟨3,w.at_⟩:Except Fault Bet) >>= fun b=>tail7 C w.at_ sp b)
  have fld:mixedM (poolOf C p)=true->(poolOf C p).fields.getD 0 []=C.headsOf p.race/\(poolOf C p).fields.length=p.k:=fun hw=>by
   have w:=mixed_iff.mp hw
   have hl:p.kind≠.legs:=by rcases w with w|w <;> rw [w] <;> decide
   have e:(poolOf C p).fields=List.replicate p.places (C.headsOf p.race):=fields_pool hP hl
   rw [e,List.length_replicate]
   exact ⟨getD_rep (places_pos hP),places_of w⟩
  unfold wayOf
  by_cases c0:w.w=ascii "on"
  · rw [if_pos c0,if_pos c0]
    refine sets_way o hi hP (by decide) (.inl rfl) ?_
    rw [on_eq]
    rfl
  · rw [if_neg c0,if_neg c0]
    by_cases c1:w.w=ascii "box"/\mixedM (poolOf C p)=true
    · rw [if_pos c1,if_pos c1]
      refine sets_way (how:=1) o hi hP (by decide) (.inr c1.2) ?_
      obtain ⟨f1,f2⟩:=fld c1.2
      rw [box_eq]
      unfold setsW
      rw [if_neg (by decide),if_pos rfl,f1,f2]
    · rw [if_neg c1,if_neg c1]
      by_cases c2:w.w=ascii "key"/\mixedM (poolOf C p)=true
      · rw [if_pos c2,if_pos c2]
        refine sets_way (how:=2) o hi hP (by decide) (.inr c2.2) ?_
        obtain ⟨f1,f2⟩:=fld c2.2
        rw [key_eq]
        unfold setsW
        rw [if_neg (by decide),if_neg (by decide),f1,f2]
      · rw [if_neg c2,if_neg c2]
        rfl
def tail3 (C:Card)(e i:Nat)(p:Pool)(l:List Word):Except Fault Bet:=must e "for" l >>= fun m=>number e 1 STAKE m >>= fun s=>holds (s.1.1 % p.unit==0) 4 s.1.2 >>= fun _=>tail5 C e i p s.1.1 s.1.2 s.2
theorem stake_iff {u:Nat}(hu:1<=u){v:Bytes}:stakeOk u (tx v)↔∃ n,numberOf v=some n/\1<=n/\n<=1000000/\n % u=0/\(numM (tx v)).toNat=n:=by
 unfold stakeOk
 constructor
 · rintro ⟨h1,h2,h3⟩
   obtain ⟨n,e,a,b,c⟩:=(num_in (w:=v) (lo:=1) (hi:=1000000) (by decide)).mp ⟨h1,h2⟩
   refine ⟨n,e,a,b,?_,by omega⟩
   rw [c] at h3
   have:((n % u:Nat):Int)=0:=by rw [Int.natCast_emod];exact h3
   omega
 · rintro ⟨n,e,a,b,c,d⟩
   obtain ⟨h1,h2⟩:=(num_in (w:=v) (lo:=1) (hi:=1000000) (by decide)).mpr ⟨n,e,a,b,by rw [(num_eq (w:=v) (m:=n) (by omega)).mpr e]⟩
   refine ⟨h1,h2,?_⟩
   rw [(num_eq (w:=v) (m:=n) (by omega)).mpr e,← Int.natCast_emod,c]
   rfl
theorem tail3_eq {C:Card}(o:CardOk C){i:Nat}{p:Pool}(hi:C.pool i=p)(hP:PoolOk C p){e:Nat}{l:List Word}:bw3 e i (poolOf C p) l=toM (tail3 C e i p l):=by
 unfold bw3 tail3
 cases hm:must e "for" l with
 | error t=>rfl
 | ok m =>
  show bw4 e i (poolOf C p) m=toM (number e 1 STAKE m >>= fun s=>holds (s.1.1 % p.unit==0) 4 s.1.2 >>= fun _=>tail5 C e i p s.1.1 s.1.2 s.2)
  cases m with
  | nil=>rfl
  | cons w r =>
   show (if stakeOk p.unit (tx w.w) then bw5 e i (poolOf C p) (numM (tx w.w)).toNat w.at_ r else .error ⟨4,w.at_⟩)=toM ((match numberOf w.w with
    | none=>.error ⟨4,w.at_⟩
    | some n=>if n < 1∨STAKE < n then .error ⟨4,w.at_⟩ else pure ((n,w.at_),r)) >>= fun s=>holds (s.1.1 % p.unit==0) 4 s.1.2 >>= fun _=>tail5 C e i p s.1.1 s.1.2 s.2)
   have key:=stake_iff hP.unit (v:=w.w)
   cases hn:numberOf w.w with
   | none =>
    rw [if_neg (fun z=>by obtain ⟨n,e,_⟩:=key.mp z;rw [hn] at e;cases e)]
    rfl
   | some n =>
    show _=toM ((if n < 1∨STAKE < n then .error ⟨4,w.at_⟩ else pure ((n,w.at_),r)) >>= fun s=>holds (s.1.1 % p.unit==0) 4 s.1.2 >>= fun _=>tail5 C e i p s.1.1 s.1.2 s.2)
    by_cases c:n < 1∨STAKE < n
    · rw [if_pos c,if_neg (fun z=>by
       obtain ⟨n',e,a,b,_⟩:=key.mp z
       rw [hn] at e
       injection e with e
       unfold STAKE at c
       omega)]
      rfl
    · rw [if_neg c]
      show _=toM (holds (n % p.unit==0) 4 w.at_ >>= fun _=>tail5 C e i p n w.at_ r)
      unfold holds
      by_cases d:n % p.unit=0
      · have hs:stakeOk p.unit (tx w.w):=key.mpr ⟨n,hn,by omega,by unfold STAKE at c;omega,d,by
         rw [(num_eq (w:=w.w) (m:=n) (by unfold STAKE at c;omega)).mpr hn];rfl⟩
        rw [if_pos hs,if_pos (by rw [d];rfl)]
        have en:(numM (tx w.w)).toNat=n:=by rw [(num_eq (w:=w.w) (m:=n) (by unfold STAKE at c;omega)).mpr hn];rfl
        rw [en]
        exact tail5_eq o hi hP
      · rw [if_neg (fun z=>by
         obtain ⟨n',e,_,_,h,_⟩:=key.mp z
         rw [hn] at e
         injection e with e
         subst e
         exact d h),if_neg (by simpa using d)]
        rfl
theorem betIn_eq {C:Card}(o:CardOk C){e:Nat}{l:List Word}:bw1 e (C.pools.map (poolOf C)) l=toM (C.betIn ⟨l,e⟩):=by
 have eb:C.betIn ⟨l,e⟩=(must e "bet" l >>= fun m=>next e m >>= fun n=>match C.pools.findIdx? fun (p:Pool)=>p.name==n.1.w with
  | none=>.error ⟨5,n.1.at_⟩
  | some i=>tail3 C e i (C.pool i) n.2):=rfl
 rw [eb]
 unfold bw1
 cases hm:must e "bet" l with
 | error t=>rfl
 | ok m =>
  show bw2 e (C.pools.map (poolOf C)) m=toM (next e m >>= fun n=>match C.pools.findIdx? fun (p:Pool)=>p.name==n.1.w with
   | none=>.error ⟨5,n.1.at_⟩
   | some i=>tail3 C e i (C.pool i) n.2)
  cases m with
  | nil=>rfl
  | cons n r =>
   show (match poolAtN (C.pools.map (poolOf C)) (tx n.w) with
    | none=>(Except.error ⟨5,n.at_⟩:Except Fault BetM)
    | some i=>match (C.pools.map (poolOf C))[i]? with
     | none=>.error ⟨5,n.at_⟩
     | some p=>bw3 e i p r)=toM (match C.pools.findIdx? fun (p:Pool)=>p.name==n.w with
    | none=>.error ⟨5,n.at_⟩
    | some i=>tail3 C e i (C.pool i) r)
   rw [pool_at o]
   cases hf:C.pools.findIdx? fun (p:Pool)=>p.name==n.w with
   | none=>rfl
   | some i =>
    have hil:i < C.pools.length:=by
     rw [List.findIdx?_eq_some_iff_getElem] at hf
     exact hf.1
    have hg:(C.pools.map (poolOf C))[i]?=some (poolOf C C.pools[i]):=by rw [List.getElem?_map,List.getElem?_eq_getElem hil];rfl
    have hp:C.pool i=C.pools[i]:=by unfold Card.pool;rw [List.getElem?_eq_getElem hil];rfl
    show (match (C.pools.map (poolOf C))[i]? with
     | none=>(Except.error ⟨5,n.at_⟩:Except Fault BetM)
     | some p=>bw3 e i p r)=toM (tail3 C e i (C.pool i) r)
    rw [hg]
    show bw3 e i (poolOf C C.pools[i]) r=_
    rw [tail3_eq o hp (o.pools _ (List.getElem_mem hil)),hp]
def readB (ps:List PoolM)(b:Bytes):Except Fault BetM:=match upTo b with
 | none=>.error ⟨1,b.length⟩
 | some (l,r)=>match badByte true 0 l with
  | some i=>.error ⟨2,i⟩
  | none=>match bw1 l.length ps (wordsFrom 0 [] l) with
   | .error t=>.error t
   | .ok x=>if r=[] then .ok x else .error ⟨8,l.length+1⟩
def readL (ps:List PoolM)(l r:Bytes):Except Fault BetM:=match badByte true 0 l with
  | some i=>.error ⟨2,i⟩
  | none=>match bw1 l.length ps (wordsFrom 0 [] l) with
   | .error t=>.error t
   | .ok x=>if r=[] then .ok x else .error ⟨8,l.length+1⟩
theorem readB_none {ps:List PoolM}{b:Bytes}(h:upTo b=none):readB ps b=.error ⟨1,b.length⟩:=by
 unfold readB
 rw [h]
theorem readB_some {ps:List PoolM}{b l r:Bytes}(h:upTo b=some (l,r)):readB ps b=readL ps l r:=by
 unfold readB
 rw [h]
 rfl
def lookM (t b:Bytes):Except (List Int) BetM:=if 65536 < t.length∨4096 < b.length then .error [-2] else match cardM (tx t) with
 | none=>.error [-8]
 | some ps=>match readB ps b with
  | .error f=>.error [-6,(f.kind:Nat),(f.place:Nat)]
  | .ok y=>.ok y
theorem read_eq {C:Card}(o:CardOk C)(b:Bytes):readB (C.pools.map (poolOf C)) b=toM (C.readBet b):=by
 unfold readB Card.readBet
 cases upTo b with
 | none=>rfl
 | some x =>
  obtain ⟨l,r⟩:=x
  show (match badByte true 0 l with
   | some i=>(Except.error ⟨2,i⟩:Except Fault BetM)
   | none=>match bw1 l.length (C.pools.map (poolOf C)) (wordsFrom 0 [] l) with
    | .error t=>.error t
    | .ok x=>if r=[] then .ok x else .error ⟨8,l.length+1⟩)=toM (match badByte true 0 l with
   | some i=>.error ⟨2,i⟩
   | none=>match C.betIn ⟨wordsFrom 0 [] l,l.length⟩ with
    | .error e=>.error e
    | .ok x=>if r.isEmpty=true then .ok x else .error ⟨8,l.length+1⟩)
  cases badByte true 0 l with
  | some i=>rfl
  | none =>
   show (match bw1 l.length (C.pools.map (poolOf C)) (wordsFrom 0 [] l) with
    | .error t=>(Except.error t:Except Fault BetM)
    | .ok x=>if r=[] then .ok x else .error ⟨8,l.length+1⟩)=toM (match C.betIn ⟨wordsFrom 0 [] l,l.length⟩ with
    | .error e=>.error e
    | .ok x=>if r.isEmpty=true then .ok x else .error ⟨8,l.length+1⟩)
   rw [betIn_eq o]
   cases C.betIn ⟨wordsFrom 0 [] l,l.length⟩ with
   | error t=>rfl
   | ok x =>
    cases r with
    | nil=>rfl
    | cons c r=>rfl
theorem card_fok (t:Bytes)(ps:List PoolM)(h:cardM (tx t)=some ps):∀ p∈ps,FOk p:=by
 cases hc:readCard t with
 | error e=>rw [(card_iff t).2 e hc] at h;cases h
 | ok C =>
  obtain ⟨o,_,h2⟩:=(card_iff t).1 C hc
  rw [h2] at h
  injection h with h
  subst h
  intro p hp
  obtain ⟨q,hq,rfl⟩:=List.mem_map.mp hp
  exact fok o (o.pools q hq)
def ansL (a:Ans):List Int:=a.code::a.nums
theorem look_eq (t b:Bytes):(∃ z:Int,lookM t b=.error [z]/\∀ G,ToteBetCalls.ofBet t b G=says z)∨(∃ k p:Int,lookM t b=.error [-6,k,p]/\∀ G,ToteBetCalls.ofBet t b G=says (-6)) ∨
  ∃ (C:Card) (x:Bet),CardOk C/\cardM (tx t)=some (C.pools.map (poolOf C))/\lookM t b=.ok ⟨x.pool,howN x.how,x.stake,x.sets⟩/\∀ G,ToteBetCalls.ofBet t b G=G C x:=by
 by_cases hb:4096 < b.length
 · left
   refine ⟨-2,?_,fun G=>if_pos (show ToteBetCalls.LOOKED < b.length from hb)⟩
   unfold lookM
   exact if_pos (.inr hb)
 have eO:∀ G,ToteBetCalls.ofBet t b G=ofCard t fun C=>match C.readBet b with
  | .error _=>says (-6)
  | .ok x=>G C x:=fun G=>if_neg (show ¬ ToteBetCalls.LOOKED < b.length from hb)
 by_cases ht:65536 < t.length
 · left
   refine ⟨-2,?_,fun G=>(eO G).trans (if_pos (show TEXT < t.length from ht))⟩
   unfold lookM
   exact if_pos (.inl ht)
 have eL:lookM t b=match cardM (tx t) with
  | none=>.error [-8]
  | some ps=>match readB ps b with
   | .error f=>.error [-6,(f.kind:Nat),(f.place:Nat)]
   | .ok y=>.ok y:=by
  unfold lookM
  exact if_neg (by omega)
 have eC:∀ G,ToteBetCalls.ofBet t b G=match readCard t with
  | .error _=>says (-8)
  | .ok C=>match C.readBet b with
   | .error _=>says (-6)
   | .ok x=>G C x:=fun G=>(eO G).trans (if_neg (show ¬ TEXT < t.length from ht))
 cases hc:readCard t with
 | error e =>
  left
  refine ⟨-8,?_,fun G=>?_⟩
  · rw [eL,(card_iff t).2 e hc]
  · rw [eC,hc]
 | ok C =>
  right
  obtain ⟨o,_,h2⟩:=(card_iff t).1 C hc
  have eR:lookM t b=match readB (C.pools.map (poolOf C)) b with
   | .error f=>.error [-6,(f.kind:Nat),(f.place:Nat)]
   | .ok y=>.ok y:=by rw [eL,h2]
  rw [read_eq o] at eR
  cases hr:C.readBet b with
  | error e =>
   left
   rw [hr] at eR
   exact ⟨(e.kind:Nat),(e.place:Nat),eR,fun G=>by rw [eC,hc];show (match C.readBet b with|.error _=>_|.ok x=>_)=_;rw [hr]⟩
  | ok x =>
   right
   rw [hr] at eR
   exact ⟨C,x,o,h2,eR,fun G=>by rw [eC,hc];show (match C.readBet b with|.error _=>_|.ok x=>_)=_;rw [hr]⟩
def Rs (t b:Bytes)(g:BetM->PoolM->List Int)(zs:List Int):Prop :=
 (∃ xs,lookM t b=.error xs/\zs=xs.take 1)∨∃ y ps p,lookM t b=.ok y/\cardM (tx t)=some ps/\ps[y.pool]?=some p/\MOk p y.how y.sets/\zs=g y p
theorem ofBet_eq {t b:Bytes}{g:BetM->PoolM->List Int}{G:Card->Bet->Ans}{zs:List Int}(h:Rs t b g zs)
  (hg:∀ (C:Card) (x:Bet),CardOk C->∀ p∈C.pools,C.pool x.pool=p->MOk (poolOf C p) (howN x.how) x.sets->g ⟨x.pool,howN x.how,x.stake,x.sets⟩ (poolOf C p)=ansL (G C x)):zs=ansL (ToteBetCalls.ofBet t b G):=by
 rcases look_eq t b with ⟨z,h1,h2⟩|⟨k,p,h1,h2⟩|⟨C,x,o,h0,h1,h2⟩
 · rw [h2]
   rcases h with ⟨xs,e,rfl⟩|⟨y,ps,p,e,_⟩
   · rw [h1] at e
     cases e
     rfl
   · rw [h1] at e
     cases e
 · rw [h2]
   rcases h with ⟨xs,e,rfl⟩|⟨y,ps,p,e,_⟩
   · rw [h1] at e
     cases e
     rfl
   · rw [h1] at e
     cases e
 · rw [h2]
   rcases h with ⟨xs,e,rfl⟩|⟨y,ps,p,e,e1,e2,m,rfl⟩
   · rw [h1] at e
     cases e
   · rw [h1] at e
     cases e
     rw [h0] at e1
     cases e1
     rw [List.getElem?_map] at e2
     obtain ⟨q,hq,rfl⟩:=Option.map_eq_some_iff.mp e2
     exact hg C x o q (List.mem_of_getElem? hq) (by unfold Card.pool;rw [hq];rfl) m
def meansG (y:BetM)(_:PoolM):List Int:=([0,((y.pool:Nat):Int),((y.how:Nat):Int),((y.stake:Nat):Int),((y.sets.length:Nat):Int)]:List Int)++y.sets.flatMap fun s=>((s.length:Nat):Int)::s.map fun (n:Nat)=>(n:Int)
theorem means_ans {t b:Bytes}{zs:List Int}(h:Rs t b meansG zs):zs=ansL (ToteBetCalls.answer (.means t b)):=by
 refine ofBet_eq h fun C x o p hp hi m=>?_
 unfold meansG ansL tells ToteBetCalls.betNums
 have e:howN x.how=ToteBetCalls.howNo x.how:=by cases x.how <;> rfl
 simp only [e,List.map_append,List.map_flatMap,List.map_cons,List.map_nil,List.cons_append,List.nil_append]
theorem bits_snoc (x:Nat):∀ (ss:List (List Nat)) (b:Nat) (s:List Nat),bitsOf x b (ss++[s])=bitsOf x b ss++(if s.contains x=true then [b*2 ^ ss.length] else [])
 | [],b,s=>by
  show (if s.contains x=true then [b] else [])++[]=[]++(if s.contains x=true then [b*2 ^ 0] else [])
  simp
 | t::ss,b,s=>by
  show (if t.contains x=true then [b] else [])++bitsOf x (2*b) (ss++[s])=((if t.contains x=true then [b] else [])++bitsOf x (2*b) ss)++_
  rw [bits_snoc x ss (2*b) s,List.append_assoc]
  have e:2*b*2 ^ ss.length=b*2 ^ (t::ss).length:=by
   rw [List.length_cons,Nat.pow_succ,Nat.mul_comm 2 b,Nat.mul_assoc,Nat.mul_comm 2]
  rw [e]
theorem bits_pow (x:Nat):∀ (ss:List (List Nat)) (b:Nat),∀ c∈bitsOf x b ss,∃ p,p < ss.length/\c=b*2 ^ p
 | [],b,c,h=>by cases h
 | t::ss,b,c,h=>by
  have h:c∈(if t.contains x=true then [b] else [])++bitsOf x (2*b) ss:=h
  rcases List.mem_append.mp h with h|h
  · split at h
    · rw [List.mem_singleton] at h
      exact ⟨0,by simp,by simp [h]⟩
    · cases h
  · obtain ⟨p,h1,h2⟩:=bits_pow x ss (2*b) c h
    exact ⟨p+1,by simp;omega,by rw [h2,Nat.pow_succ,Nat.mul_comm 2 b,Nat.mul_assoc,Nat.mul_comm 2]⟩
theorem bits_len (x:Nat):∀ (ss:List (List Nat)) (b:Nat),(bitsOf x b ss).length<=ss.length
 | [],b=>Nat.le_refl _
 | t::ss,b=>by
  show ((if t.contains x=true then [b] else [])++bitsOf x (2*b) ss).length<=_
  rw [List.length_append,List.length_cons]
  have:=bits_len x ss (2*b)
  split
  · simp;omega
  · simp;omega
theorem and_pow {m p:Nat}:(m &&& 2 ^ p≠0)↔hasBit m (2 ^ p)=true:=by
 unfold hasBit
 have e:(m / 2 ^ p % 2==1)=m.testBit p:=by
  rw [Nat.testBit_eq_decide_div_mod_eq,Bool.eq_iff_iff,beq_iff_eq,decide_eq_true_eq]
 rw [e]
 constructor
 · intro h
   cases ht:m.testBit p with
   | true=>rfl
   | false =>
    refine absurd (Nat.eq_of_testBit_eq fun i=>?_) h
    rw [Nat.testBit_and,Nat.testBit_two_pow,Nat.zero_testBit]
    by_cases c:p=i
    · subst c
      rw [ht]
      rfl
    · rw [decide_eq_false c,Bool.and_false]
 · intro h z
   have:=congrArg (fun n=>Nat.testBit n p) z
   simp only [Nat.testBit_and,Nat.testBit_two_pow,Nat.zero_testBit,h] at this
   simp at this
theorem bit_le {m b:Nat}(h:hasBit m b=true)(hb:0 < b):b<=m:=by
 unfold hasBit at h
 rw [beq_iff_eq] at h
 by_cases z:b<=m
 · exact z
 · rw [Nat.div_eq_of_lt (by omega)] at h
   cases h
theorem sel_ne:∀ (ss:List (List Nat)) (m:Nat),1<=m->m < 2 ^ ss.length->sel m ss≠[]
 | [],m,h1,h2=>by simp at h2;omega
 | s::ss,m,h1,h2=>by
  rw [sel_cons]
  by_cases h:m % 2=1
  · rw [if_pos h];simp
  · rw [if_neg h]
    have:=sel_ne ss (m / 2) (by omega) (by rw [List.length_cons,Nat.pow_succ] at h2;omega)
    simpa using this
def pB (x:Nat)(z:Nat):Bool:=decide (1<=z)&&decide (z < x)
theorem pB_step {x:Nat}(hx:1<=x):(fun z=>pB x z||z==x)=pB (x+1):=by
 funext z
 unfold pB
 rw [Bool.eq_iff_iff]
 simp
 omega
theorem pB_no (x:Nat):pB x x=false:=by unfold pB;simp
theorem pB_one:pB 1=fun _=>false:=by
 funext z
 unfold pB
 rw [Bool.eq_false_iff]
 simp
 omega
theorem pB_all:pB 25=upTo24:=by
 funext z
 unfold pB upTo24
 rw [Bool.eq_iff_iff]
 simp
 omega
def wayAt (ss:List (List Nat))(x m:Nat):Nat:=cntA (sel m ss) (pB x)
theorem way_zero (ss:List (List Nat))(x:Nat):wayAt ss x 0=1:=by
 unfold wayAt
 rw [sel_zero]
 rfl
theorem way_one {ss:List (List Nat)}{m:Nat}(h1:1<=m)(h2:m < 2 ^ ss.length):wayAt ss 1 m=0:=by
 unfold wayAt
 rw [pB_one]
 have:=sel_ne ss m h1 h2
 cases hs:sel m ss with
 | nil=>exact absurd hs this
 | cons s r =>
  unfold cntA
  have e:s.filter (fun _=>false)=[]:=by
   rw [List.filter_eq_nil_iff]
   intro _ _ z
   cases z
  rw [e]
  rfl
theorem way_turn {ss:List (List Nat)}(nd:∀ s∈ss,s.Nodup){x m:Nat}(hx:1<=x):wayAt ss (x+1) m=wayAt ss x m+(((bitsOf x 1 ss).filter (hasBit m)).map fun b=>wayAt ss x (m - b)).sum:=by
 unfold wayAt
 rw [← pB_step hx]
 exact ways_turn x m ss (pB x) nd (pB_no x)
theorem way_full {ss:List (List Nat)}:wayAt ss 25 (2 ^ ss.length - 1)=cntA ss upTo24:=by
 unfold wayAt
 rw [sel_full,pB_all]
def mixT (ss:List (List Nat))(x f i:Nat):List Nat:=(List.range (f+1)).map fun m=>if f - i < m then wayAt ss (x+1) m else wayAt ss x m
def tab (ss:List (List Nat))(x f:Nat):List Nat:=(List.range (f+1)).map fun m=>wayAt ss x m
theorem mix_zero (ss:List (List Nat))(x f:Nat):mixT ss x f 0=tab ss x f:=by
 unfold mixT tab
 refine List.map_congr_left fun m hm=>?_
 have:=List.mem_range.mp hm
 rw [if_neg (by omega)]
theorem mix_full (ss:List (List Nat))(x f:Nat):mixT ss x f f=tab ss (x+1) f:=by
 unfold mixT tab
 refine List.map_congr_left fun m hm=>?_
 by_cases h:m=0
 · subst h
   rw [if_neg (by omega),way_zero,way_zero]
 · rw [if_pos (by omega)]
theorem mix_at {ss:List (List Nat)}{x f i m:Nat}(h:m<=f):(mixT ss x f i)[m]?=some (if f - i < m then wayAt ss (x+1) m else wayAt ss x m):=by
 unfold mixT
 rw [List.getElem?_map,List.getElem?_range (by omega)]
 rfl
theorem tab_at {ss:List (List Nat)}{x f m:Nat}(h:m<=f):(tab ss x f)[m]?=some (wayAt ss x m):=by
 unfold tab
 rw [List.getElem?_map,List.getElem?_range (by omega)]
 rfl
theorem mix_step {ss:List (List Nat)}{x f i:Nat}(hi:i < f):(mixT ss x f i).set (f - i) (wayAt ss (x+1) (f - i))=mixT ss x f (i+1):=by
 refine List.ext_getElem? fun m=>?_
 rw [List.getElem?_set]
 have hl:(mixT ss x f i).length=f+1:=by unfold mixT;rw [List.length_map,List.length_range]
 by_cases hm:m<=f
 · rw [mix_at (i:=i+1) hm]
   by_cases e:f - i=m
   · rw [if_pos e,if_pos (by omega),if_pos (by omega),e]
   · rw [if_neg e,mix_at hm]
     congr 1
     by_cases h2:f - i < m
     · rw [if_pos h2,if_pos (by omega)]
     · rw [if_neg h2,if_neg (by omega)]
 · have hl2:(mixT ss x f (i+1)).length=f+1:=by unfold mixT;rw [List.length_map,List.length_range]
   rw [if_neg (by omega),List.getElem?_eq_none (by omega),List.getElem?_eq_none (by omega)]
theorem tab_first {ss:List (List Nat)}:[1]++List.replicate (2 ^ ss.length - 1) 0=tab ss 1 (2 ^ ss.length - 1):=by
 have hp:0 < 2 ^ ss.length:=Nat.pow_pos (by decide)
 refine List.ext_getElem? fun m=>?_
 by_cases hm:m<=2 ^ ss.length - 1
 · rw [tab_at hm]
   cases m with
   | zero=>rw [way_zero];rfl
   | succ m =>
    rw [way_one (by omega) (by omega)]
    show (List.replicate (2 ^ ss.length - 1) 0)[m]?=some 0
    rw [List.getElem?_replicate,if_pos (by omega)]
 · unfold tab
   rw [List.getElem?_eq_none (by simp;omega),List.getElem?_eq_none (by simp;omega)]
end Bw
end
section
set_option Elab.async false
set_option linter.all false
set_option maxRecDepth 100000
namespace L2
open PySem PySem.Spec PyProof.Rows
abbrev Key:=Sum Int Str
def keyIs:Key->Value->Bool
 | .inl k,v=>Value.isInt k v
 | .inr x,v=>Value.isStrOf x v
def keyH (w:World):Key->Int
 | .inl k=>hashInt k
 | .inr x=>hashStr w x
theorem keyIs_shape:∀ {k:Key} {v:Value},keyIs k v=true->(∃ i t,k=Sum.inl i/\v=Value.int i t)∨(∃ x t,k=Sum.inr x/\v=Value.str x t)
 | .inl i,v,h=>by
  obtain ⟨t,e⟩:=Value.isInt_shape (k:=i) (v:=v) h
  exact .inl ⟨i,t,rfl,e⟩
 | .inr x,v,h=>by
  obtain ⟨t,e⟩:=Value.isStrOf_shape (x:=x) (v:=v) h
  exact .inr ⟨x,t,rfl,e⟩
theorem keyIs_int (i:Int)(t:Tok):keyIs (.inl i) (.int i t)=true:=by simp [keyIs,Value.isInt]
theorem keyIs_str (x:Str)(t:Tok):keyIs (.inr x) (.str x t)=true:=by simp [keyIs,Value.isStrOf]
theorem key_ll (a b:Int):decide ((Sum.inl a:Key)=Sum.inl b)=(a==b):=by
 by_cases e:a=b
 · subst e;simp
 · have h:¬ (Sum.inl a:Key)=Sum.inl b:=fun q=>e (Sum.inl.inj q)
   rw [decide_eq_false h]
   exact (beq_eq_false_iff_ne.mpr e).symm
theorem key_rr (a b:Str):decide ((Sum.inr a:Key)=Sum.inr b)=decide (a=b):=by
 by_cases e:a=b
 · subst e;simp
 · have h:¬ (Sum.inr a:Key)=Sum.inr b:=fun q=>e (Sum.inr.inj q)
   rw [decide_eq_false h,decide_eq_false e]
theorem key_lr (a:Int)(b:Str):decide ((Sum.inl a:Key)=Sum.inr b)=false:=decide_eq_false (fun q=>nomatch q)
theorem key_rl (a:Str)(b:Int):decide ((Sum.inr a:Key)=Sum.inl b)=false:=decide_eq_false (fun q=>nomatch q)
def mixKind (prog:Program)(w:World):PySem.KeyKind prog w Key where
 is:=keyIs
 hash:=keyH w
 inj:=fun v a b ha hb=>by
  rcases keyIs_shape ha with ⟨i,t,rfl,rfl⟩|⟨x,t,rfl,rfl⟩
  · rcases keyIs_shape hb with ⟨j,u,rfl,e⟩|⟨y,u,rfl,e⟩
    · injection e with e1 _;rw [e1]
    · exact nomatch e
  · rcases keyIs_shape hb with ⟨j,u,rfl,e⟩|⟨y,u,rfl,e⟩
    · exact nomatch e
    · injection e with e1 _;rw [e1]
 byValue:=fun k v h=>by
  rcases keyIs_shape h with ⟨i,t,rfl,rfl⟩|⟨x,t,rfl,rfl⟩ <;> rfl
 pyHash:=fun hv h=>by
  rcases keyIs_shape hv with ⟨i,t,rfl,rfl⟩|⟨x,t,rfl,rfl⟩
  · exact wpAny_pyHash_int h
  · exact wpAny_pyHash_str h
 eqBool:=fun hu hv h=>by
  rcases keyIs_shape hu with ⟨i,t,rfl,rfl⟩|⟨x,t,rfl,rfl⟩
  · rcases keyIs_shape hv with ⟨j,u,rfl,rfl⟩|⟨y,u,rfl,rfl⟩
    · rw [key_ll] at h;exact wpAny_eqBool_int h
    · rw [key_lr] at h;exact SeqAt.EqAt.int_str i t y u _ _ _ _ h
  · rcases keyIs_shape hv with ⟨j,u,rfl,rfl⟩|⟨y,u,rfl,rfl⟩
    · rw [key_rl] at h;exact SeqAt.EqAt.str_int x t j u _ _ _ _ h
    · rw [key_rr] at h;exact wpAny_eqBool_str h
 «strs»:=fun k x t v h=>by
  rcases keyIs_shape h with ⟨i,u,rfl,e⟩|⟨y,u,rfl,e⟩
  · exact nomatch e
  · injection e with e1 _
    subst e1
    cases v <;> rfl
theorem mixKind_int (prog:Program)(w:World)(i:Int)(t:Tok):(mixKind prog w).is (.inl i) (.int i t)=true:=keyIs_int i t
theorem mixKind_str (prog:Program)(w:World)(x:Str)(t:Tok):(mixKind prog w).is (.inr x) (.str x t)=true:=keyIs_str x t
inductive V where
 | non|bl (b:Bool)|int (i:Int)|str (x:Str)|byt (b:Array UInt8)|flt (b:UInt64)|ref (a:Addr)|ty (n:String)
 deriving DecidableEq
def RelV:V->Value->Prop
 | .non,u=>u=Value.none
 | .bl b,u=>u=Value.bool b
 | .int i,u=>∃ t,u=Value.int i t
 | .str x,u=>∃ t,u=Value.str x t
 | .byt b,u=>∃ t,u=Value.bytes b t
 | .flt b,u=>∃ t,u=Value.float b t
 | .ref a,u=>u=Value.ref a
 | .ty n,u=>u=Value.type n
abbrev Vals:List V->List Value->Prop:=Paired RelV
theorem Vals.length {xs:List V}{us:List Value}(r:Vals xs us):xs.length=us.length:=Paired.length r
theorem Vals.get:∀ {xs:List V} {us:List Value} {i:Nat} {x:V},Vals xs us->xs[i]?=some x->∃ u,us[i]?=some u/\RelV x u
 | _,_,_,_,.nil,e=>by simp at e
 | _,_,0,_,.cons r _,e=>by simp at e;subst e;exact ⟨_,rfl,r⟩
 | _,_,i+1,x,.cons _ t,e=>by
  obtain ⟨u,h1,h2⟩:=Vals.get (i:=i) (x:=x) t (by simpa using e)
  exact ⟨u,by simpa using h1,h2⟩
theorem Vals.set {x:V}{u:Value}(r:RelV x u):∀ {xs:List V} {us:List Value} (i:Nat),Vals xs us->Vals (xs.set i x) (us.set i u)
 | _,_,_,.nil=>.nil
 | _,_,0,.cons _ t=>.cons r t
 | _,_,i+1,.cons q t=>.cons q (Vals.set r i t)
theorem Vals.append:∀ {xs ys:List V} {us ws:List Value},Vals xs us->Vals ys ws->Vals (xs++ys) (us++ws)
 | _,_,_,_,.nil,s=>s
 | _,_,_,_,.cons r t,s=>.cons r (Vals.append t s)
theorem Vals.take:∀ {xs:List V} {us:List Value} (n:Nat),Vals xs us->Vals (xs.take n) (us.take n)
 | _,_,0,_=>.nil
 | _,_,_+1,.nil=>.nil
 | _,_,n+1,.cons r t=>.cons r (Vals.take n t)
theorem Vals.drop:∀ {xs:List V} {us:List Value} (n:Nat),Vals xs us->Vals (xs.drop n) (us.drop n)
 | _,_,0,r=>r
 | _,_,_+1,.nil=>.nil
 | _,_,n+1,.cons _ t=>Vals.drop n t
def RelO:Option V->Option Value->Prop
 | some v,some u=>RelV v u
 | none,none=>True
 | _,_=>False
def KV {κ:Type}:List (κ×V)->List (κ×Value)->Prop:=Paired fun (p:κ×V) (q:κ×Value)=>p.1=q.1/\RelV p.2 q.2
def kV:Key->V
 | .inl i=>.int i
 | .inr x=>.str x
inductive HO where
 | lst (xs:List V)
 | tup (xs:List V)
 | dK (kvs:List (Key×V))|dT (kvs:List (List Key×V))
 | set (S:Int->Bool) (n:Nat)
 | ins (C dx:Addr) (fs:List (Str×V))
 | own (x:Addr)
 | xd (fs:List (Str×V))
 | met (f x:Addr)
 | rng (lo hi:Int)
 | frz (o:Obj) (u:HO)
 | tbl (ps:Array Value)
 | ext (φ:Heap->Prop)
abbrev Hp:=Addr->Option HO
def upd (H:Hp)(a:Addr)(o:HO):Hp:=fun b=>if b=a then some o else H b
theorem upd_same {H:Hp}{a:Addr}{o:HO}:upd H a o a=some o:=by unfold upd;rw [if_pos rfl]
theorem upd_ne {H:Hp}{a b:Addr}{o:HO}(h:b≠a):upd H a o b=H b:=by unfold upd;rw [if_neg h]
theorem upd_upd {H:Hp}{a:Addr}{o u:HO}:upd (upd H a o) a u=upd H a u:=by
 funext b;unfold upd;split <;> rfl
theorem ne_of {H:Hp}{a b:Addr}{o u:HO}(h:H a=some o)(h':H b=some u)(d:o≠u):a≠b:=by
 intro e;subst e;rw [h] at h';exact d (Option.some.inj h')
theorem ne_of_none {H:Hp}{a b:Addr}{o:HO}(h:H a=some o)(h':H b=none):a≠b:=by
 intro e;subst e;rw [h] at h';cases h'
section
variable (P:Program)(w:World)
def ObjOk (H:Hp) (h:Heap) (a:Addr):HO->Prop
 | .lst xs=>xs.length<=sizeLine/\∃ (its:List Value) (n:Nat),Vals xs its/\h.get? a=some { cls:=.type "list",data:=.seq its.toArray n }
 | .tup xs=>xs.length<=sizeLine/\∃ its:List Value,Vals xs its/\IsTup h a its.toArray
 | .dK kvs=>kvs.length<=sizeLine/\(a==sysModules)=false/\∃ vs,KV kvs vs/\h.DictOf (mixKind P w) a vs
 | .dT kvs=>kvs.length<=sizeLine/\(a==sysModules)=false/\∃ xs:List (List Key×Addr×Value),
   Paired (fun (p:List Key×V) (q:List Key×Addr×Value)=>p.1=q.1/\H q.2.1=some (.tup (p.1.map kV))/\RelV p.2 q.2.2) kvs xs /\
   ∃ o es ep,h.get? a=some o/\o.ExactDict/\o.data=.dict es ep/\es.toList=xs.map (entryOfKey (tupleKind (mixKind P w)))/\(xs.map (·.1)).Nodup
 | .set S n=>h.SetOf (intKind P w) a S n
 | .ins C dx fs=>H dx=some (.own a)/\fs.length<=1000/\dx≠a/\h.get? a=some (PySem.W.instObj C dx) /\
   ∃ mA,h.Ns1 dx mA/\(∀ f,RelO (fs.lookup f) (mA f))/\PySem.Within mA (fs.map (·.1))
 | .own _=>∃ o,h.get? a=some o
 | .xd fs=>∃ mA,h.Ns1 a mA/\∀ f,RelO (fs.lookup f) (mA f)
 | .rng lo hi=>∃ t u v,h.get? a=some { cls:=.type "range",data:=.fields #[.int lo t,.int hi u,.int 1 v] }
 | .frz o u=>h.get? a=some o/\ObjOk H h a u
 | .tbl ps=>h.get? a=some { cls:=.none,data:=.fields ps }
 | .met f x=>h.get? a=some (PySem.W.methodObj (.ref f) (.ref x))
 | .ext φ=>φ h/\(∃ o,h.get? a=some o)/\∀ h1 h2:Heap,φ h1->(∀ o,h1.get? a=some o->h2.get? a=some o)->φ h2
def HOk (H:Hp)(h:Heap):Prop:=∀ a o,H a=some o->ObjOk P w H h a o
end
section
variable {P:Program}{w:World}{H H':Hp}{h h':Heap}{a:Addr}{o:HO}
theorem ObjOk.lt (x:ObjOk P w H h a o):a < h.objs.size:=by
 cases o with
 | lst xs=>obtain ⟨_,_,_,_,e⟩:=x;exact Heap.lt_size e
 | tup xs=>obtain ⟨_,_,_,p⟩:=x;exact p.lt
 | dK kvs=>obtain ⟨_,_,_,_,o,_,_,e,_⟩:=x;exact Heap.lt_size e
 | dT kvs=>obtain ⟨_,_,_,_,o,_,_,e,_⟩:=x;exact Heap.lt_size e
 | set S n=>obtain ⟨o,_,_,_,e,_⟩:=x;exact Heap.lt_size e
 | ins C dx fs=>obtain ⟨_,_,_,e,_⟩:=x;exact Heap.lt_size e
 | own y=>obtain ⟨_,e⟩:=x;exact Heap.lt_size e
 | xd fs=>obtain ⟨_,⟨_,_,_,e,_⟩,_⟩:=x;exact Heap.lt_size e
 | rng lo hi=>obtain ⟨_,_,_,e⟩:=x;exact Heap.lt_size e
 | frz ob u=>obtain ⟨e,_⟩:=x;exact Heap.lt_size e
 | tbl ps=>exact Heap.lt_size (show h.get? a=some _ from x)
 | met f y=>exact Heap.lt_size (show h.get? a=some _ from x)
 | ext φ=>obtain ⟨_,⟨_,e⟩,_⟩:=x;exact Heap.lt_size e
theorem Paired.mapP {α β:Type}{F G:α->β->Prop}:∀ {l₁:List α} {l₂:List β},Paired F l₁ l₂->(∀ a b,F a b->G a b)->Paired G l₁ l₂
 | _,_,.nil,_=>.nil
 | _,_,.cons r t,f=>.cons (f _ _ r) (Paired.mapP t f)
theorem ObjOk.stay (x:ObjOk P w H h a o)(k:∀ b u,(b=a∨H b=some (.own a))->h.get? b=some u->h'.get? b=some u)
  (ho:∀ b,H b=some (.own a)->H' b=some (.own a))(ht:∀ b xs,H b=some (.tup xs)->H' b=some (.tup xs)):ObjOk P w H' h' a o:=by
 induction o with
 | lst xs=>obtain ⟨z,its,n,r,e⟩:=x;exact ⟨z,its,n,r,k _ _ (.inl rfl) e⟩
 | tup xs=>obtain ⟨z,its,r,ob,e,c⟩:=x;exact ⟨z,its,r,ob,k _ _ (.inl rfl) e,c⟩
 | dK kvs=>obtain ⟨z,y,vs,r,ob,es,ep,e,c⟩:=x;exact ⟨z,y,vs,r,ob,es,ep,k _ _ (.inl rfl) e,c⟩
 | dT kvs =>
  obtain ⟨z,y,xs,r,ob,es,ep,e,c⟩:=x
  exact ⟨z,y,xs,Paired.mapP r fun p q z=>⟨z.1,ht _ _ z.2.1,z.2.2⟩,ob,es,ep,k _ _ (.inl rfl) e,c⟩
 | set S n=>obtain ⟨ob,es,ep,t,e,c⟩:=x;exact ⟨ob,es,ep,t,k _ _ (.inl rfl) e,c⟩
 | ins C dx fs =>
  obtain ⟨d,z,ne,e,mA,⟨od,es,ep,e2,c⟩,r⟩:=x
  exact ⟨ho _ d,z,ne,k _ _ (.inl rfl) e,mA,⟨od,es,ep,k _ _ (.inr d) e2,c⟩,r⟩
 | own y=>obtain ⟨ob,e⟩:=x;exact ⟨ob,k _ _ (.inl rfl) e⟩
 | xd fs=>obtain ⟨mA,⟨od,es,ep,e,c⟩,r⟩:=x;exact ⟨mA,⟨od,es,ep,k _ _ (.inl rfl) e,c⟩,r⟩
 | rng lo hi=>obtain ⟨t,u,v,e⟩:=x;exact ⟨t,u,v,k _ _ (.inl rfl) e⟩
 | frz ob u ih=>obtain ⟨e,q⟩:=x;exact ⟨k _ _ (.inl rfl) e,ih q⟩
 | tbl ps =>
  have e:h.get? a=some { cls:=.none,data:=.fields ps }:=x
  show h'.get? a=some { cls:=.none,data:=.fields ps }
  exact k a _ (.inl rfl) e
 | met f y =>
  have e:h.get? a=some (PySem.W.methodObj (.ref f) (.ref y)):=x
  show h'.get? a=some (PySem.W.methodObj (.ref f) (.ref y))
  exact k a _ (.inl rfl) e
 | ext φ=>obtain ⟨p,⟨o,e⟩,st⟩:=x;exact ⟨st _ _ p fun o q=>k _ _ (.inl rfl) q,⟨o,k _ _ (.inl rfl) e⟩,st⟩
theorem HOk.lt (x:HOk P w H h)(e:H a=some o):a < h.objs.size:=(x a o e).lt
theorem HOk.fresh (x:HOk P w H h)(e:h.objs.size<=a):H a=none:=by
 cases q:H a with
 | none=>rfl
 | some u=>exact absurd (Nat.lt_of_lt_of_le (x.lt q) e) (Nat.lt_irrefl _)
theorem HOk.kept (x:HOk P w H h)(k:∀ b u,h.get? b=some u->h'.get? b=some u):HOk P w H h':=fun a o e =>
 (x a o e).stay (fun b u _ q=>k b u q) (fun _ q=>q) fun _ _ q=>q
theorem HOk.laid (x:HOk P w H h)(k:∀ b u,h.get? b=some u->h'.get? b=some u)(hp:h.objs.size<=a)(new:ObjOk P w (upd H a o) h' a o):HOk P w (upd H a o) h':=fun b u e=>by
 have hn:=x.fresh hp
 by_cases hb:b=a
 · subst hb;rw [upd_same] at e;cases e;exact new
 · rw [upd_ne hb] at e
   exact (x b u e).stay (fun c v _ q=>k c v q) (fun c q=>by rw [upd_ne (ne_of_none q hn)];exact q) fun c xs q=>by rw [upd_ne (ne_of_none q hn)];exact q
end
def Rd (H:Hp)(a:Addr)(u:HO):Prop:=H a=some u∨∃ o,H a=some (.frz o u)
theorem Rd.ok {P:Program}{w:World}{H:Hp}{h:Heap}{a:Addr}{u:HO}(r:Rd H a u)(x:HOk P w H h):ObjOk P w H h a u:=by
 rcases r with r|⟨o,r⟩
 · exact x a u r
 · obtain ⟨_,q⟩:=x a _ r
   exact q
def Mut:Option HO->Prop
 | some (.lst _)=>True
 | some (.dK _)=>True
 | some (.dT _)=>True
 | some (.set _ _)=>True
 | some (.ins _ _ _)=>True
 | some (.ext _)=>True
 | _=>False
section
variable {P:Program}{w:World}{H:Hp}{h h':Heap}{x e:Addr}{o':HO}
theorem HOk.write (ok:HOk P w H h) (mu:Mut (H x)) (he:e=x∨H e=some (.own x)) (k:∀ b u,b≠e->h.get? b=some u->h'.get? b=some u) (heo:∃ u,h'.get? e=some u)
  (new:ObjOk P w (upd H x o') h' x o'):HOk P w (upd H x o') h':=fun b u q=>by
 have nown:∀ c y,H c=some (.own y)->c≠x:=fun c y r z=>by subst z;rw [r] at mu;exact mu
 have ntup:∀ c xs,H c=some (.tup xs)->c≠x:=fun c xs r z=>by subst z;rw [r] at mu;exact mu
 by_cases hb:b=x
 · subst hb;rw [upd_same] at q;cases q;exact new
 · rw [upd_ne hb] at q
   by_cases hbe:b=e
   · have q':H b=some (.own x):=by
      rcases he with z|z
      · exact absurd (hbe.trans z) hb
      · rw [hbe];exact z
     rw [q] at q';cases q'
     obtain ⟨v,hv⟩:=heo
     exact ⟨v,by rw [hbe];exact hv⟩
   · refine (ok b u q).stay (fun c v hc r=>k c v ?_ r) (fun c r=>by rw [upd_ne (nown c b r)];exact r) fun c xs r=>by rw [upd_ne (ntup c xs r)];exact r
     rcases hc with rfl|hc
     · exact hbe
     · rintro rfl
       rcases he with z|z
       · exact nown c b hc z
       · rw [hc] at z;cases z;exact hb rfl
end
structure Un (fs ex:List Addr)(H H':Hp)(h h':Heap):Prop where
 keep:∀ b o,h.get? b=some o->H b=none->b∉fs->b∉ex->h'.get? b=some o
 slot:∀ b o,h.get? b=some o->H b=none->b∈fs->b∉ex->∃ sl,h'.get? b=some { o with slots:=sl }
 free:∀ b o,h.get? b=some o->H b=none->b∉ex->H' b=none
 there:∀ b o,h.get? b=some o->b∉ex->∃ o',h'.get? b=some o'
 tups:∀ b xs,H b=some (.tup xs)->H' b=some (.tup xs)
 frzs:∀ b o u,H b=some (.frz o u)->H' b=some (.frz o u)
 tbls:∀ b ps,H b=some (.tbl ps)->∃ more,H' b=some (.tbl (ps++more))
section
variable {fs fs' ex ex':List Addr}{H H1 H2:Hp}{h h1 h2 h':Heap}{a x e:Addr}{o:HO}
theorem Un.any (u:Un fs ex H H1 h h1) {b:Addr} {ob:Obj} (q:h.get? b=some ob) (n:H b=none) (hx:b∉ex):∃ sl,h1.get? b=some { ob with slots:=sl }:=by
 by_cases hb:b∈fs
 · exact u.slot b ob q n hb hx
 · exact ⟨ob.slots,u.keep b ob q n hb hx⟩
theorem Un.kept (k:∀ b u,h.get? b=some u->h'.get? b=some u):Un fs ex H H h h' :=
 ⟨fun b ob q _ _ _=>k b ob q,fun b ob q _ _ _=>⟨ob.slots,k b ob q⟩,fun _ _ _ n _=>n,fun b ob q _=>⟨ob,k b ob q⟩,fun _ _ q=>q,fun _ _ _ q=>q,fun _ ps q=>⟨#[],by rw [q];simp⟩⟩
theorem Un.refl:Un fs ex H H h h:=Un.kept fun _ _ q=>q
theorem Un.laid (k:∀ b u,h.get? b=some u->h'.get? b=some u)(hp:h.objs.size<=a)(hn:H a=none):Un fs ex H (upd H a o) h h' where
 keep:=fun b u q _ _ _=>k b u q
 slot:=fun b u q _ _ _=>⟨u.slots,k b u q⟩
 free:=fun b u q n _=>by rw [upd_ne (Nat.ne_of_lt (Nat.lt_of_lt_of_le (Heap.lt_size q) hp))];exact n
 there:=fun b u q _=>⟨u,k b u q⟩
 tups:=fun b xs q=>by rw [upd_ne (ne_of_none q hn)];exact q
 frzs:=fun b u xs q=>by rw [upd_ne (ne_of_none q hn)];exact q
 tbls:=fun b ps q=>⟨#[],by rw [upd_ne (ne_of_none q hn),q];simp⟩
theorem Un.write (mu:Mut (H x))(he:e=x∨H e=some (.own x))(k:∀ b u,b≠e->h.get? b=some u->h'.get? b=some u)(heo:∃ u,h'.get? e=some u):Un fs ex H (upd H x o) h h':=by
 have hx:∀ b,H b=none->b≠x:=fun b n z=>by subst z;rw [n] at mu;exact mu
 have hb:∀ b,H b=none->b≠e:=fun b n z=>by
  subst z
  rcases he with r|r
  · exact hx b n r
  · rw [n] at r;cases r
 have hm:∀ b u,H b=some u->¬ Mut (some u)->b≠x:=fun b u q nm z=>by subst z;rw [q] at mu;exact nm mu
 refine ⟨fun b u q n _ _=>k b u (hb b n) q,fun b u q n _ _=>⟨u.slots,k b u (hb b n) q⟩,fun b u q n _=>by rw [upd_ne (hx b n)];exact n,fun b u q _=>?_,
  fun b xs q=>by rw [upd_ne (hm b _ q fun z=>z)];exact q,fun b u xs q=>by rw [upd_ne (hm b _ q fun z=>z)];exact q,fun b ps q=>⟨#[],by rw [upd_ne (hm b _ q fun z=>z),q];simp⟩⟩
 by_cases hbe:b=e
 · subst hbe;exact heo
 · exact ⟨u,k b u hbe q⟩
end
def trk (h:Heap)(H:Hp):List Addr:=(List.range h.objs.size).filter fun a=>(H a).isSome
def hidT (h:Heap)(H:Hp):Heap:=PySem.W.hideAll h (trk h H)
theorem hidT_size (h:Heap)(H:Hp):(hidT h H).objs.size=h.objs.size:=PySem.W.hideAll_size _ _
theorem hidT_get {h:Heap}{H:Hp}{b:Addr}{o:Obj}(e:h.get? b=some o)(n:H b=none):(hidT h H).get? b=some o :=
 PySem.W.hideAll_get _ e fun hm=>by
  have q:(H b).isSome=true:=(List.mem_filter.mp hm).2
  rw [n] at q;simp at q
theorem of_hidT {h:Heap}{H:Hp}{b:Addr}{o:Obj}(e:(hidT h H).get? b=some o):h.get? b=some o/\H b=none:=by
 have e':h.get? b=some o:=PySem.W.of_hideAll (trk h H) e
 refine ⟨e',?_⟩
 cases q:H b with
 | none=>rfl
 | some x =>
  have hm:b∈trk h H:=List.mem_filter.mpr ⟨List.mem_range.mpr (Heap.lt_size e'),by simp [q]⟩
  have z:(hidT h H).get? b=none:=PySem.W.hideAll_none (trk h H) hm
  rw [z] at e;cases e
structure Mod (K:PySem.W.Frag)(mg:Str->Option Value)(base:Heap):Prop where
 kin:K.In base
 glob:base.Ns mainGlobals mg
 blt:∃ mb,base.Ns builtinsNs mb/\∀ x:Str,x≠"__name__"->mb x=bootBuiltins x
 nolimit:base.NoLimit
structure Cx where
 prog:Program
 w:World
 K:PySem.W.Frag
 mg:Str->Option Value
 base:Heap
 A:Around
 N:List Str
 s_0:Shared
 H_0:Hp
 env:Env
 outer:List Env
 stack:List Env
 ex:List Addr
 fn:Str->Bool
 calm:Bool
 pn:List (Addr×Obj)
 xe:Value->Shared->Prop
def frs (l:List Env):List Addr:=l.filterMap (·.frame)
abbrev Cx.fs (X:Cx):List Addr:=frs X.outer
def Vis (sc:Scope)(x:Str):Prop:=sc.names.lookup x=some .local∨sc.names.lookup x=some .cell∨sc.names.lookup x=some .free
def Loc (sc:Scope)(x:Str):Prop:=sc.names.lookup x=some .local∨sc.names.lookup x=some .cell
def Look (env:Env)(h:Heap)(m:Str->Option Value)(x:Str)(u:Value):Prop :=
 (env.kindOf x=some .local/\m x=some u)∨((env.kindOf x=some .cell∨env.kindOf x=some .free)/\∃ c,env.cells.lookup x=some c/\h.IsCell c (some u))
structure Cx.Ok (X:Cx):Prop where
 mod:Mod X.K X.mg X.base
 kind:X.env.scope.kind=.function
 glob:X.env.globals=mainGlobals
 blt:X.env.builtins=builtinsNs
 above:X.s_0.heap.objs.size<=X.env.locals
 inj:∀ x y c,X.env.cells.lookup x=some c->X.env.cells.lookup y=some c->x=y
 has:∀ x,(X.env.kindOf x=some .cell∨X.env.kindOf x=some .free)->∃ c,X.env.cells.lookup x=some c
 cab:∀ x c,X.fn x=true->X.env.cells.lookup x=some c->X.s_0.heap.objs.size<=c
 hd:X.calm=true->X.A.handled=none
 frames:X.A.frames=some X.stack
 stk:X.stack=X.outer∨(X.stack=X.env::X.outer/\X.env.frame=some X.env.locals)
 exf:∀ b∈X.ex,b≠X.env.locals/\∀ x c,X.env.cells.lookup x=some c->c≠b
 bs:∀ b o,X.base.get? b=some o->X.s_0.heap.get? b=some o/\X.H_0 b=none
 bsz:X.base.objs.size<=X.s_0.heap.objs.size
 noex:∀ b o,X.base.get? b=some o->b∉X.ex
 exfs:∀ b∈X.ex,b∉X.fs
 funs:X.s_0.heap.FunFrames X.base X.outer
 frf:∀ b∈X.fs,X.H_0 b=none
structure Inv (X:Cx)(pins:List (Addr×Obj))(σ:List (Option V))(H:Hp)(s:Shared):Prop where
 ok:X.Ok
 os:s.os=X.s_0.os
 bare:AllBare s.gens
 base:Un X.fs X.ex X.H_0 H X.s_0.heap s.heap
 loc:∃ m,s.heap.Ns X.env.locals m/\∀ (i:Nat) (x:Str) (v:V),X.N[i]?=some x->σ[i]?=some (some v)->Vis X.env.scope x->∃ u,RelV v u/\Look X.env s.heap m x u
 cell:∀ x c,X.env.cells.lookup x=some c->∃ v,s.heap.IsCell c v
 free:H X.env.locals=none
 freeC:∀ x c,X.env.cells.lookup x=some c->H c=none
 pin:∀ p∈X.pn++pins,s.heap.get? p.1=some p.2/\H p.1=none/\p.1≠X.env.locals/\p.1∉X.fs/\∀ v,p.2.data≠.cell v
 hok:HOk X.prog X.w H s.heap
 len:σ.length=X.N.length
section
variable {X:Cx}{pins:List (Addr×Obj)}{σ:List (Option V)}{H H':Hp}{s:Shared}{h':Heap}
theorem Cx.Ok.nofr (ok:X.Ok) {b:Addr} {o:Obj} (e:X.base.get? b=some o):b∉X.fs:=fun hb=>by
 have:=(ok.funs.mem hb).1
 rw [e] at this;cases this
theorem Inv.bs (I:Inv X pins σ H s):∀ b o,X.base.get? b=some o->s.heap.get? b=some o/\H b=none:=fun b o e =>
 ⟨I.base.keep b o (I.ok.bs b o e).1 (I.ok.bs b o e).2 (I.ok.nofr e) (I.ok.noex b o e),I.base.free b o (I.ok.bs b o e).1 (I.ok.bs b o e).2 (I.ok.noex b o e)⟩
theorem Inv.bk (I:Inv X pins σ H s):∀ b o,X.base.get? b=some o->s.heap.get? b=some o:=fun b o e=>(I.bs b o e).1
theorem Inv.mod (I:Inv X pins σ H s):Mod X.K X.mg X.base:=I.ok.mod
theorem Inv.kIn (I:Inv X pins σ H s):X.K.In s.heap:=I.ok.mod.kin.keeps I.bk
theorem Inv.lt (I:Inv X pins σ H s):X.env.locals < s.heap.objs.size:=let ⟨_,hn,_⟩:=I.loc;hn.lt
theorem Inv.sz (I:Inv X pins σ H s):X.s_0.heap.objs.size<=s.heap.objs.size:=Nat.le_trans I.ok.above (Nat.le_of_lt I.lt)
theorem Inv.nofs (I:Inv X pins σ H s){a:Addr}(h:s.heap.objs.size<=a):a∉X.fs:=fun hb=>by
 obtain ⟨_,o,ho,_⟩:=I.ok.funs.mem hb
 exact absurd (Nat.lt_of_lt_of_le (Heap.lt_size ho) (Nat.le_trans I.sz h)) (Nat.lt_irrefl _)
theorem Inv.cne (I:Inv X pins σ H s):∀ x c,X.env.cells.lookup x=some c->c≠X.env.locals:=fun x c e z=>by
 obtain ⟨v,o,ho,hd⟩:=I.cell x c e
 obtain ⟨m,⟨o',es,ep,ho',hd',_⟩,_⟩:=I.loc
 rw [z,ho'] at ho;cases ho;rw [hd'] at hd;cases hd
theorem Inv.funs (I:Inv X pins σ H s):s.heap.FunFrames X.base X.outer:=by
 have all:∀ (l:List Env),(∀ b∈frs l,b∈X.fs)->X.s_0.heap.FunFrames X.base l->s.heap.FunFrames X.base l:=by
  intro l
  induction l with
  | nil=>intro _ _;trivial
  | cons env r ih =>
   intro hs hl
   obtain ⟨hk,⟨L,o,hf,hn,ho,hd⟩,hr⟩:=hl
   have hL:L∈X.fs:=hs L (by unfold frs;rw [List.filterMap_cons,hf];exact List.mem_cons_self)
   obtain ⟨sl,e⟩:=I.base.slot L o ho (I.ok.frf L hL) hL fun z=>I.ok.exfs L z hL
   exact ⟨hk,⟨L,_,hf,hn,e,hd⟩,ih (fun b hb=>hs b (by unfold frs;rw [List.filterMap_cons,hf];exact List.mem_cons_of_mem _ hb)) hr⟩
 exact all X.outer (fun _ hb=>hb) I.ok.funs
theorem Inv.stack (I:Inv X pins σ H s):s.heap.FunFrames X.base X.stack:=by
 rcases I.ok.stk with e|⟨e,hf⟩
 · rw [e];exact I.funs
 · rw [e]
   obtain ⟨m,hn,_⟩:=I.loc
   refine .cons (by rw [I.ok.kind];decide) hf hn ?_ I.funs
   exact Heap.get?_none_of_le (Nat.le_trans I.ok.bsz I.ok.above)
theorem Inv.stkSub (I:Inv X pins σ H s):∀ b∈frs X.stack,b∈X.env.locals::X.fs:=fun b hb=>by
 rcases I.ok.stk with e|⟨e,hf⟩
 · rw [e] at hb;exact List.mem_cons_of_mem _ hb
 · rw [e] at hb
   unfold frs at hb
   rw [List.filterMap_cons,hf] at hb
   exact hb
theorem Inv.stkFree (I:Inv X pins σ H s):∀ b∈frs X.stack,H b=none:=fun b hb=>by
 rcases List.mem_cons.mp (I.stkSub b hb) with e|hb
 · rw [e];exact I.free
 · obtain ⟨_,o,ho,_⟩:=I.ok.funs.mem hb
   exact I.base.free b o ho (I.ok.frf b hb) fun z=>I.ok.exfs b z hb
theorem notYet {h:Heap}{b:Addr}(z:h.objs.size<=b):h.get? b=none:=by
 cases e:h.get? b with
 | none=>rfl
 | some o=>exact absurd (Nat.lt_of_lt_of_le (Heap.lt_size e) z) (Nat.lt_irrefl _)
theorem Inv.stepN {g':Array GenState}{t':Nat}{d':Drawn}{ch:List Addr}(I:Inv X pins σ H s)
  (hch:∀ b∈ch,(b∈X.ex∨X.s_0.heap.get? b=none)/\b≠X.env.locals/\(∀ x c,X.env.cells.lookup x=some c->c≠b)/\∀ p∈X.pn++pins,p.1≠b)
  (keep:∀ b o,b≠X.env.locals->b∉X.fs->b∉ch->s.heap.get? b=some o->H b=none->h'.get? b=some o)
  (slot:∀ b o,b≠X.env.locals->b∈X.fs->b∉ch->s.heap.get? b=some o->H b=none->∃ sl,h'.get? b=some { o with slots:=sl })(free:∀ b o,b∉ch->s.heap.get? b=some o->H b=none->H' b=none)
  (there:∀ b o,b∉ch->s.heap.get? b=some o->∃ o',h'.get? b=some o')
  (tups:∀ b xs,H b=some (.tup xs)->H' b=some (.tup xs))(frzs:∀ b o u,H b=some (.frz o u)->H' b=some (.frz o u))(tbls:∀ b ps,H b=some (.tbl ps)->∃ more,H' b=some (.tbl (ps++more)))
  (ns:∀ m,s.heap.Ns X.env.locals m->h'.Ns X.env.locals m)(hok:HOk X.prog X.w H' h')(hg:AllBare g') :
  Inv X pins σ H' { s with heap:=h',gens:=g',drawn:=d',toks:=t' }:=by
 have neL:∀ b o,X.s_0.heap.get? b=some o->b≠X.env.locals:=fun b o e=>Nat.ne_of_lt (Nat.lt_of_lt_of_le (Heap.lt_size e) I.ok.above)
 have neC:∀ b o,X.s_0.heap.get? b=some o->b∉X.ex->b∉ch:=fun b o e hx hb=>by
  rcases (hch b hb).1 with z|z
  · exact hx z
  · rw [z] at e
    cases e
 have cellK:∀ x c,X.env.cells.lookup x=some c->∀ v,s.heap.IsCell c v->h'.IsCell c v:=fun x c e v ⟨o,ho,hd⟩=>by
  have nch:c∉ch:=fun z=>(hch c z).2.2.1 x c e rfl
  by_cases hc:c∈X.fs
  · obtain ⟨sl,q⟩:=slot c o (I.cne x c e) hc nch ho (I.freeC x c e)
    exact ⟨_,q,hd⟩
  · exact ⟨o,keep c o (I.cne x c e) hc nch ho (I.freeC x c e),hd⟩
 refine ⟨I.ok,I.os,hg,⟨fun b o e n hb hx=>?_,fun b o e n hb hx=>?_,fun b o e n hx=>?_,fun b o e hx=>?_,fun b xs e=>tups b xs (I.base.tups b xs e),fun b o xs e=>frzs b o xs (I.base.frzs b o xs e),fun b ps e=>?_⟩,?_,fun x c e=>?_,?_,fun x c e=>?_,fun p hp=>?_,hok,I.len⟩
 · exact keep b o (neL b o e) hb (neC b o e hx) (I.base.keep b o e n hb hx) (I.base.free b o e n hx)
 · obtain ⟨sl,e1⟩:=I.base.slot b o e n hb hx
   obtain ⟨sl',e2⟩:=slot b _ (neL b o e) hb (neC b o e hx) e1 (I.base.free b o e n hx)
   exact ⟨sl',e2⟩
 · obtain ⟨o',e1⟩:=I.base.there b o e hx
   exact free b o' (neC b o e hx) e1 (I.base.free b o e n hx)
 · obtain ⟨o',e1⟩:=I.base.there b o e hx
   exact there b o' (neC b o e hx) e1
 · obtain ⟨m1,e1⟩:=I.base.tbls b ps e
   obtain ⟨m2,e2⟩:=tbls b _ e1
   exact ⟨m1++m2,by rw [e2,Array.append_assoc]⟩
 · obtain ⟨m,hn,hl⟩:=I.loc
   refine ⟨m,ns m hn,fun i x v e1 e2 e3=>?_⟩
   obtain ⟨u,r,l⟩:=hl i x v e1 e2 e3
   refine ⟨u,r,?_⟩
   rcases l with l|⟨k,c,e,z⟩
   · exact .inl l
   · exact .inr ⟨k,c,e,cellK x c e _ z⟩
 · obtain ⟨v,z⟩:=I.cell x c e
   exact ⟨v,cellK x c e v z⟩
 · obtain ⟨m,⟨o,_,_,ho,_⟩,_⟩:=I.loc
   exact free _ o (fun z=>(hch _ z).2.1 rfl) ho I.free
 · obtain ⟨v,o,ho,hd⟩:=I.cell x c e
   exact free c o (fun z=>(hch c z).2.2.1 x c e rfl) ho (I.freeC x c e)
 · obtain ⟨e,n,ne,nf,d⟩:=I.pin p hp
   have nch:p.1∉ch:=fun z=>(hch p.1 z).2.2.2 p hp rfl
   exact ⟨keep p.1 p.2 ne nf nch e n,free p.1 p.2 nch e n,ne,nf,d⟩
theorem Inv.step {g':Array GenState}{t':Nat}{d':Drawn}{ch:List Addr}(I:Inv X pins σ H s)
  (hch:∀ b∈ch,(b∈X.ex∨X.s_0.heap.objs.size<=b)/\b≠X.env.locals/\(∀ x c,X.env.cells.lookup x=some c->c≠b)/\∀ p∈X.pn++pins,p.1≠b)
  (keep:∀ b o,b≠X.env.locals->b∉X.fs->b∉ch->s.heap.get? b=some o->H b=none->h'.get? b=some o)
  (slot:∀ b o,b≠X.env.locals->b∈X.fs->b∉ch->s.heap.get? b=some o->H b=none->∃ sl,h'.get? b=some { o with slots:=sl })(free:∀ b o,b∉ch->s.heap.get? b=some o->H b=none->H' b=none)
  (there:∀ b o,b∉ch->s.heap.get? b=some o->∃ o',h'.get? b=some o')
  (tups:∀ b xs,H b=some (.tup xs)->H' b=some (.tup xs))(frzs:∀ b o u,H b=some (.frz o u)->H' b=some (.frz o u))(tbls:∀ b ps,H b=some (.tbl ps)->∃ more,H' b=some (.tbl (ps++more)))
  (ns:∀ m,s.heap.Ns X.env.locals m->h'.Ns X.env.locals m)(hok:HOk X.prog X.w H' h')(hg:AllBare g') :
  Inv X pins σ H' { s with heap:=h',gens:=g',drawn:=d',toks:=t' }:=I.stepN (fun b hb=>⟨(hch b hb).1.imp id fun z=>notYet z,(hch b hb).2⟩) keep slot free there tups frzs tbls ns hok hg
theorem Inv.un {t':Nat}(I:Inv X pins σ H s)(u:Un X.fs [] H H' s.heap h')(hok:HOk X.prog X.w H' h'):Inv X pins σ H' { s with heap:=h',toks:=t' }:=by
 obtain ⟨m,⟨o,es,ep,ho,r⟩,_⟩:=id I.loc
 obtain ⟨sl,hL⟩:=u.any ho I.free (by simp)
 exact I.step (g':=s.gens) (d':=s.drawn) (ch:=[]) (fun _ z=>nomatch z) (fun b o _ hb _ e n=>u.keep b o e n hb (by simp)) (fun b o _ hb _ e n=>u.slot b o e n hb (by simp)) (fun b o _ e n=>u.free b o e n (by simp)) (fun b o _ e=>u.there b o e (by simp)) u.tups u.frzs u.tbls (fun m' hm=>by
  obtain ⟨o',es',ep',ho',r'⟩:=hm
  rw [ho] at ho';cases ho'
  exact ⟨_,es',ep',hL,r'⟩) hok I.bare
theorem Inv.callM {g':Array GenState}{t':Nat}{d':Drawn}{ch:List Addr}(I:Inv X pins σ H s)(u:Un (frs X.stack) ch H H' s.heap h')(hok:HOk X.prog X.w H' h')(hg:AllBare g')
  (hch:∀ b∈ch,(b∈X.ex∨X.s_0.heap.get? b=none)/\b≠X.env.locals/\(∀ x c,X.env.cells.lookup x=some c->c≠b)/\∀ p∈X.pn++pins,p.1≠b) :
  Inv X pins σ H' { s with heap:=h',gens:=g',drawn:=d',toks:=t' }:=by
 obtain ⟨m,⟨o,es,ep,ho,r⟩,_⟩:=id I.loc
 obtain ⟨sl,hL⟩:=u.any ho I.free fun z=>(hch _ z).2.1 rfl
 exact I.stepN (ch:=ch) hch (fun b o hL hb hc e n=>u.keep b o e n (fun z=>(List.mem_cons.mp (I.stkSub b z)).elim hL hb) hc) (fun b o _ _ hc e n=>u.any e n hc) (fun b o hc e n=>u.free b o e n hc) (fun b o hc e=>u.there b o e hc) u.tups u.frzs u.tbls (fun m' hm=>by
  obtain ⟨o',es',ep',ho',r'⟩:=hm
  rw [ho] at ho';cases ho'
  exact ⟨_,es',ep',hL,r'⟩) hok hg
theorem Inv.call {g':Array GenState}{t':Nat}{d':Drawn}{ch:List Addr}(I:Inv X pins σ H s)(u:Un (frs X.stack) ch H H' s.heap h')(hok:HOk X.prog X.w H' h')(hg:AllBare g')
  (hch:∀ b∈ch,(b∈X.ex∨X.s_0.heap.objs.size<=b)/\b≠X.env.locals/\(∀ x c,X.env.cells.lookup x=some c->c≠b)/\∀ p∈X.pn++pins,p.1≠b) :
  Inv X pins σ H' { s with heap:=h',gens:=g',drawn:=d',toks:=t' }:=I.callM u hok hg (fun b hb=>⟨(hch b hb).1.imp id fun z=>notYet z,(hch b hb).2⟩)
theorem Inv.turned {t':Nat}{it:Addr}(I:Inv X pins σ H s)(k:∀ b o,b≠it->s.heap.get? b=some o->h'.get? b=some o)(hn:H it=none)(hL:it≠X.env.locals)
  (h1:it∈X.ex∨X.s_0.heap.objs.size<=it)(h2:∀ x c,X.env.cells.lookup x=some c->c≠it)(h3:∀ p∈X.pn++pins,p.1≠it):Inv X pins σ H { s with heap:=h',toks:=t' }:=by
 have nit:∀ b u,H b=some u->b≠it:=fun b u e z=>by rw [z,hn] at e;cases e
 refine I.step (g':=s.gens) (d':=s.drawn) (ch:=[it]) (fun b hb=>?_) (fun b o _ _ hc e _=>k b o (fun z=>hc (by simp [z])) e) (fun b o _ _ hc e _=>⟨o.slots,k b o (fun z=>hc (by simp [z])) e⟩) (fun _ _ _ _ n=>n)
  (fun b o hc e=>⟨o,k b o (fun z=>hc (by simp [z])) e⟩) (fun _ _ e=>e) (fun _ _ _ e=>e) (fun b ps e=>⟨#[],by rw [e];simp⟩) (fun m hm=>?_) (fun b u e=>?_) I.bare
 · have e:b=it:=by simpa using hb
   subst e
   exact ⟨h1,hL,h2,h3⟩
 · obtain ⟨o,es,ep,ho,r⟩:=hm
   exact ⟨o,es,ep,k _ o (Ne.symm hL) ho,r⟩
 · refine (I.hok b u e).stay (fun c v hc q=>k c v ?_ q) (fun _ q=>q) fun _ _ q=>q
   rcases hc with z|z
   · rw [z];exact nit b u e
   · exact nit c _ z
theorem Inv.tok (I:Inv X pins σ H s)(t:Nat):Inv X pins σ H { s with toks:=t }:=I.un (h':=s.heap) (t':=t) Un.refl I.hok
theorem Inv.kept {t':Nat}(I:Inv X pins σ H s)(k:∀ b u,s.heap.get? b=some u->h'.get? b=some u):Inv X pins σ H { s with heap:=h',toks:=t' }:=I.un (Un.kept k) (I.hok.kept k)
theorem Inv.laid {a:Addr}{o:HO}{t':Nat}(I:Inv X pins σ H s)(k:∀ b u,s.heap.get? b=some u->h'.get? b=some u)(hp:s.heap.objs.size<=a)(new:ObjOk X.prog X.w (upd H a o) h' a o) :
  Inv X pins σ (upd H a o) { s with heap:=h',toks:=t' }:=I.un (Un.laid k hp (I.hok.fresh hp)) (I.hok.laid k hp new)
theorem Inv.write {x e:Addr}{o:HO}{t':Nat}(I:Inv X pins σ H s)(mu:Mut (H x))(he:e=x∨H e=some (.own x))(k:∀ b u,b≠e->s.heap.get? b=some u->h'.get? b=some u)(heo:∃ u,h'.get? e=some u)
  (new:ObjOk X.prog X.w (upd H x o) h' x o):Inv X pins σ (upd H x o) { s with heap:=h',toks:=t' }:=I.un (Un.write mu he k heo) (I.hok.write mu he k heo new)
theorem Inv.weak {σ':List (Option V)}(I:Inv X pins σ H s)(hl:σ'.length=σ.length)(w:∀ (i:Nat) v,σ'[i]?=some (some v)->σ[i]?=some (some v)):Inv X pins σ' H s :=
 ⟨I.ok,I.os,I.bare,I.base,let ⟨m,hn,hl'⟩:=I.loc;⟨m,hn,fun i x v e1 e2 e3=>hl' i x v e1 (w i v e2) e3⟩,I.cell,I.free,I.freeC,I.pin,I.hok,hl.trans I.len⟩
theorem Inv.pins_of {pins':List (Addr×Obj)}(I:Inv X pins σ H s)(h:∀ p∈pins',s.heap.get? p.1=some p.2/\H p.1=none/\p.1≠X.env.locals/\p.1∉X.fs/\∀ v,p.2.data≠.cell v):Inv X pins' σ H s :=
 ⟨I.ok,I.os,I.bare,I.base,I.loc,I.cell,I.free,I.freeC,fun p hp=>(List.mem_append.mp hp).elim (fun z=>I.pin p (List.mem_append_left _ z)) (h p),I.hok,I.len⟩
theorem nodup_ix {N:List Str}(hN:N.Nodup){i j:Nat}{x:Str}(a:N[i]?=some x)(b:N[j]?=some x):i=j:=by
 obtain ⟨h1,e1⟩:=List.getElem?_eq_some_iff.mp a
 obtain ⟨h2,e2⟩:=List.getElem?_eq_some_iff.mp b
 exact (List.getElem_inj hN).mp (e1.trans e2.symm)
theorem store_ok2 {M:Model}{A:Around}{E:Value->Shared->Prop}{i:Nat}{x:Str}{v:V}{u:Value}{Q:Unit->Shared->Prop}(I:Inv X pins σ H s)(hN:X.N.Nodup)(hi:X.N[i]?=some x)(hx:Loc X.env.scope x)(r:RelV v u)
  (h:∀ s',Inv X pins (σ.set i (some v)) H s'->(∃ a,Heap.SameBut a s.heap s'.heap/\(a=X.env.locals∨X.env.cells.lookup x=some a))->Q () s')(hf:X.fn x=true∨X.env.scope.names.lookup x=some .local:=by first|exact .inl rfl|exact .inr rfl|assumption):wpAny M A (storeName X.env x u) Q E s:=by
 obtain ⟨m,hn,hl⟩:=id I.loc
 have hcls:(X.env.scope.kind==.class||(X.env.scope.kind==.module&&X.env.locals != X.env.globals))=false:=by rw [I.ok.kind];rfl
 have hiσ:i < σ.length:=by rw [I.len];exact (List.getElem?_eq_some_iff.mp hi).1
 have cne:=I.cne
 have tracked:∀ {a:Addr} {h':Heap},(∃ o,s.heap.get? a=some o/\H a=none)->Heap.SameBut a s.heap h'->HOk X.prog X.w H h':=fun {a h'} ha hs b ob e=>by
  obtain ⟨_,_,hfree⟩:=ha
  refine (I.hok b ob e).stay (fun c w' hc q=>(hs.2 c ?_).trans q) (fun _ q=>q) fun _ _ q=>q
  rintro rfl
  rcases hc with rfl|hc
  · rw [hfree] at e;cases e
  · rw [hfree] at hc;cases hc
 rcases hx with hk|hk
 · refine wpAny_storeName_local hk hn (fun h' hn' hs=>?_) hcls
   obtain ⟨oL,_,_,hoL,_⟩:=id hn
   refine h _ ⟨I.ok,I.os,I.bare,⟨fun b o e n hb hx=>?_,fun b o e n hb hx=>?_,I.base.free,fun b o e hx=>?_,I.base.tups,I.base.frzs,I.base.tbls⟩,⟨_,hn',fun j y v' e1 e2 e3=>?_⟩,fun y c e=>?_,I.free,I.freeC,fun p hp=>?_,tracked ⟨oL,hoL,I.free⟩ hs,by simpa using I.len⟩ ⟨_,hs,.inl rfl⟩
   · exact (hs.2 b (Nat.ne_of_lt (Nat.lt_of_lt_of_le (Heap.lt_size e) I.ok.above))).trans (I.base.keep b o e n hb hx)
   · obtain ⟨sl,e1⟩:=I.base.slot b o e n hb hx
     exact ⟨sl,(hs.2 b (Nat.ne_of_lt (Nat.lt_of_lt_of_le (Heap.lt_size e) I.ok.above))).trans e1⟩
   · obtain ⟨o',e1⟩:=I.base.there b o e hx
     exact ⟨o',(hs.2 b (Nat.ne_of_lt (Nat.lt_of_lt_of_le (Heap.lt_size e) I.ok.above))).trans e1⟩
   · by_cases hj:j=i
     · subst hj
       rw [hi] at e1;cases e1
       rw [List.getElem?_set_self hiσ] at e2
       cases e2
       exact ⟨u,r,.inl ⟨hk,by simp⟩⟩
     · rw [List.getElem?_set_ne (Ne.symm hj)] at e2
       obtain ⟨u',r',q⟩:=hl j y v' e1 e2 e3
       refine ⟨u',r',?_⟩
       rcases q with ⟨k,e⟩|⟨k,c,e,z⟩
       · refine .inl ⟨k,?_⟩
         have:y≠x:=fun e=>hj (nodup_ix hN e1 (e ▸ hi))
         simp [this,e]
       · exact .inr ⟨k,c,e,z.sameBut hs (cne y c e)⟩
   · obtain ⟨w',z⟩:=I.cell y c e
     exact ⟨w',z.sameBut hs (cne y c e)⟩
   · obtain ⟨e,n,ne,nf,d⟩:=I.pin p hp
     exact ⟨(hs.2 p.1 ne).trans e,n,ne,nf,d⟩
 · have hfn:X.fn x=true:=by
    rcases hf with z|z
    · exact z
    · rw [z] at hk;cases hk
   obtain ⟨c,hc⟩:=I.ok.has x (.inl hk)
   obtain ⟨w',z⟩:=I.cell x c hc
   refine wpAny_storeName_cell I.ok.kind hk hc z (fun h' hc' hs=>?_)
   obtain ⟨oc,hoc,hocd⟩:=id z
   refine h { s with heap:=h' } ⟨I.ok,I.os,I.bare,⟨fun b o e n hb hx=>?_,fun b o e n hb hx=>?_,I.base.free,fun b o e hx=>?_,I.base.tups,I.base.frzs,I.base.tbls⟩,⟨m,hn.sameBut hs (Ne.symm (cne x c hc)),fun j y v' e1 e2 e3=>?_⟩,fun y c' e=>?_,I.free,I.freeC,fun p hp=>?_,tracked ⟨oc,hoc,I.freeC x c hc⟩ hs,by simpa using I.len⟩ ⟨c,hs,.inr hc⟩
   · exact (hs.2 b (Nat.ne_of_lt (Nat.lt_of_lt_of_le (Heap.lt_size e) (I.ok.cab x c hfn hc)))).trans (I.base.keep b o e n hb hx)
   · obtain ⟨sl,e1⟩:=I.base.slot b o e n hb hx
     exact ⟨sl,(hs.2 b (Nat.ne_of_lt (Nat.lt_of_lt_of_le (Heap.lt_size e) (I.ok.cab x c hfn hc)))).trans e1⟩
   · obtain ⟨o',e1⟩:=I.base.there b o e hx
     exact ⟨o',(hs.2 b (Nat.ne_of_lt (Nat.lt_of_lt_of_le (Heap.lt_size e) (I.ok.cab x c hfn hc)))).trans e1⟩
   · by_cases hj:j=i
     · subst hj
       rw [hi] at e1;cases e1
       rw [List.getElem?_set_self hiσ] at e2
       cases e2
       exact ⟨u,r,.inr ⟨.inl hk,c,hc,hc'⟩⟩
     · rw [List.getElem?_set_ne (Ne.symm hj)] at e2
       obtain ⟨u',r',q⟩:=hl j y v' e1 e2 e3
       refine ⟨u',r',?_⟩
       rcases q with q|⟨k,c',e,z'⟩
       · exact .inl q
       · refine .inr ⟨k,c',e,z'.sameBut hs ?_⟩
         rintro rfl
         exact hj (nodup_ix hN e1 (I.ok.inj _ _ _ e hc ▸ hi))
   · by_cases hcc:c'=c
     · subst hcc;exact ⟨_,hc'⟩
     · obtain ⟨w2,z2⟩:=I.cell y c' e
       exact ⟨w2,z2.sameBut hs hcc⟩
   · obtain ⟨e,n,ne,nf,d⟩:=I.pin p hp
     refine ⟨(hs.2 p.1 ?_).trans e,n,ne,nf,d⟩
     intro q
     rw [q,hoc] at e
     have q':oc=p.2:=Option.some.inj e
     exact d w' (by rw [← q'];exact hocd)
theorem store_ok {M:Model}{A:Around}{E:Value->Shared->Prop}{i:Nat}{x:Str}{v:V}{u:Value}{Q:Unit->Shared->Prop}(I:Inv X pins σ H s)(hN:X.N.Nodup)(hi:X.N[i]?=some x)(hx:Loc X.env.scope x)(r:RelV v u)
  (h:∀ s',Inv X pins (σ.set i (some v)) H s'->Q () s')(hf:X.fn x=true∨X.env.scope.names.lookup x=some .local:=by first|exact .inl rfl|exact .inr rfl|assumption):wpAny M A (storeName X.env x u) Q E s :=
 store_ok2 I hN hi hx r (fun s' I' _=>h s' I') hf
theorem Inv.callN {s':Shared}{ch:List Addr}(I:Inv X pins σ H s)(ho:s'.os=s.os)(u:Un (frs X.stack) ch H H' s.heap s'.heap)(hok:HOk X.prog X.w H' s'.heap)(hg:AllBare s'.gens)
  (hch:∀ b∈ch,(b∈X.ex∨X.s_0.heap.get? b=none)/\b≠X.env.locals/\(∀ x c,X.env.cells.lookup x=some c->c≠b)/\∀ p∈X.pn++pins,p.1≠b):Inv X pins σ H' s':=by
 obtain ⟨h',g',d',t',o'⟩:=s'
 have e:o'=s.os:=ho
 subst e
 exact I.callM (g':=g') (t':=t') (d':=d') u hok hg hch
theorem Inv.call' {s':Shared}{ch:List Addr}(I:Inv X pins σ H s)(ho:s'.os=s.os)(u:Un (frs X.stack) ch H H' s.heap s'.heap)(hok:HOk X.prog X.w H' s'.heap)(hg:AllBare s'.gens)
  (hch:∀ b∈ch,(b∈X.ex∨X.s_0.heap.objs.size<=b)/\b≠X.env.locals/\(∀ x c,X.env.cells.lookup x=some c->c≠b)/\∀ p∈X.pn++pins,p.1≠b):Inv X pins σ H' s':=I.callN ho u hok hg (fun b hb=>⟨(hch b hb).1.imp id fun z=>notYet z,(hch b hb).2⟩)
end
abbrev XK:=Value->Option Addr->Hp->Prop
abbrev St:=List (Option V)
abbrev VK:=V->Hp->Prop
abbrev TE:=St->Hp->VK->Prop
abbrev TT:=St->Hp->(Bool->Hp->Prop)->Prop
abbrev TA:=St->Hp->(List V->Hp->Prop)->Prop
structure Ends where
 nx:St->Hp->Prop
 rt:VK
 bk:St->Hp->Prop:=fun _ _=>False
 ct:St->Hp->Prop:=fun _ _=>False
abbrev TS:=Ends->St->Hp->Prop
def EP (X:Cx)(pins:List (Addr×Obj))(σ:St)(Q:VK)(u:Value)(s':Shared):Prop:=∃ v H',Inv X pins σ H' s'/\RelV v u/\Q v H'
def TP (X:Cx)(pins:List (Addr×Obj))(σ:St)(Q:Bool->Hp->Prop)(b:Bool)(s':Shared):Prop:=∃ H',Inv X pins σ H' s'/\Q b H'
def AP (X:Cx)(pins:List (Addr×Obj))(σ:St)(Q:List V->Hp->Prop)(us:List Value)(s':Shared):Prop:=∃ vs H',Inv X pins σ H' s'/\Vals vs us/\Q vs H'
def SP (X:Cx)(pins:List (Addr×Obj))(D:Ends)(f:Flow)(s':Shared):Prop :=
 match f with
 | .next=>∃ σ' H',Inv X pins σ' H' s'/\D.nx σ' H'
 | .brk=>∃ σ' H',Inv X pins σ' H' s'/\D.bk σ' H'
 | .cont=>∃ σ' H',Inv X pins σ' H' s'/\D.ct σ' H'
 | .ret u=>∃ v σ' H',Inv X pins σ' H' s'/\RelV v u/\D.rt v H'
def PE (X:Cx)(e:Expr)(t:TE):Prop :=
 ∀ (pins:List (Addr×Obj)) (s:Shared) (σ:St) (H:Hp) (Q:VK),Inv X pins σ H s->t σ H Q->wpAny (model X.prog X.w) X.A (eval e X.env) (EP X pins σ Q) X.xe s
def PT (X:Cx)(e:Expr)(t:TT):Prop :=
 ∀ (pins:List (Addr×Obj)) (s:Shared) (σ:St) (H:Hp) (Q:Bool->Hp->Prop),Inv X pins σ H s->t σ H Q->wpAny (model X.prog X.w) X.A (isTrue e X.env (eval e X.env)) (TP X pins σ Q) X.xe s
def PW (X:Cx)(e:Expr)(t:TT):Prop :=
 ∀ (whole:Sem Value) (pins:List (Addr×Obj)) (s:Shared) (σ:St) (H:Hp) (Q:Bool->Hp->Prop),Inv X pins σ H s->t σ H Q->wpAny (model X.prog X.w) X.A (isTrue e X.env whole) (TP X pins σ Q) X.xe s
theorem PW.pt {X:Cx}{e:Expr}{t:TT}(h:PW X e t):PT X e t:=h _
def PA (X:Cx)(es:List Expr)(t:TA):Prop :=
 ∀ (pos:Pos) (pins:List (Addr×Obj)) (s:Shared) (σ:St) (H:Hp) (Q:List V->Hp->Prop),Inv X pins σ H s->t σ H Q->wpAny (model X.prog X.w) X.A (spliced (backTo pos (starEach es X.env))) (AP X pins σ Q) X.xe s
def PS (X:Cx)(st:Stmt)(t:TS):Prop :=
 ∀ (pins:List (Addr×Obj)) (s:Shared) (σ:St) (H:Hp) (D:Ends),Inv X pins σ H s->t D σ H->wpAny (model X.prog X.w) X.A (exec st X.env) (SP X pins D) X.xe s
def PSs (X:Cx)(st:List Stmt)(t:TS):Prop :=
 ∀ (pins:List (Addr×Obj)) (s:Shared) (σ:St) (H:Hp) (D:Ends),Inv X pins σ H s->t D σ H->wpAny (model X.prog X.w) X.A (execs st X.env) (SP X pins D) X.xe s
def PS0 (X:Cx)(st:Stmt)(t:TS):Prop :=
 ∀ (s:Shared) (σ:St) (H:Hp) (D:Ends),Inv X [] σ H s->t D σ H->wpAny (model X.prog X.w) X.A (exec st X.env) (SP X [] D) X.xe s
def PSs0 (X:Cx)(st:List Stmt)(t:TS):Prop :=
 ∀ (s:Shared) (σ:St) (H:Hp) (D:Ends),Inv X [] σ H s->t D σ H->wpAny (model X.prog X.w) X.A (execs st X.env) (SP X [] D) X.xe s
theorem thn {α:Type}{t:Sem α}{Q Q':α->Shared->Prop}{M:Model}{A:Around}{E:Value->Shared->Prop}{s:Shared}(h:wpAny M A t Q E s)(hQ:∀ a s,Q a s->Q' a s):wpAny M A t Q' E s:=wpAny_mono h hQ fun _ _ x=>x
section
variable {X:Cx}
def tVar (i:Nat):TE:=fun σ H Q=>∃ v,σ[i]?=some (some v)/\Q v H
def tC (v:V):TE:=fun _ H Q=>Q v H
theorem pe_var {i:Nat}{x:Str}{pos:Pos}(hN:X.N[i]?=some x)(hv:Vis X.env.scope x)(hd:(x==("__debug__":Str))=false:=by decide)(hcd:(x==("__classdict__":Str))=false:=by decide):PE X (.Name x pos) (tVar i):=by
 intro pins s σ H Q I h
 obtain ⟨v,e,h⟩:=h
 obtain ⟨m,hn,hl⟩:=I.loc
 obtain ⟨u,r,l⟩:=hl i x v hN e hv
 have fin:EP X pins σ Q u s:=⟨v,H,I,r,h⟩
 rcases l with ⟨hk,hm⟩|⟨hk,c,hc,hcell⟩
 · exact wpAny_Name (wpAny_loadName_local I.ok.kind hk hn hm fin) hd
 · rcases hk with hk|hk
   · exact wpAny_Name (wpAny_loadName_cell I.ok.kind hk hc hcell fin) hd
   · exact wpAny_Name (wpAny_loadName_free I.ok.kind hk hc hcell fin hcd) hd
theorem pe_int {i j pos}:PE X (.Constant (.int i) j pos) (tC (.int i)):=fun _ _ _ H _ I h=>wpAny_Constant_int ⟨.int i,H,I.tok _,⟨_,rfl⟩,h⟩
theorem pe_bl {b j pos}:PE X (.Constant (.bool b) j pos) (tC (.bl b)):=fun _ _ _ H _ I h=>Constant_bool ⟨.bl b,H,I,rfl,h⟩
theorem pe_non {j pos}:PE X (.Constant .none j pos) (tC .non):=fun _ _ _ H _ I h=>Constant_none ⟨.non,H,I,rfl,h⟩
theorem pe_str {x j pos}:PE X (.Constant (.str x) j pos) (tC (.str x)):=fun _ _ _ H _ I h=>Calls.Constant_str ⟨.str x,H,I.tok _,⟨_,rfl⟩,h⟩
def Gl (X:Cx)(x:Str):Prop:=X.env.kindOf x=some .globalImplicit
theorem ld_glob {E:Value->Shared->Prop}{pins:List (Addr×Obj)}{s:Shared}{σ:St}{H:Hp}{x:Str}{u:Value}{pos:Pos}{Q:Value->Shared->Prop}(I:Inv X pins σ H s)(hg:Gl X x)(hm:X.mg x=some u)(h:Q u s)
  (hd:(x==("__debug__":Str))=false:=by decide):wpAny (model X.prog X.w) X.A (eval (.Name x pos) X.env) Q E s :=
 Calls.Name_function_global I.ok.kind hg (Calls.loadGlobal_global (by rw [I.ok.glob];exact I.mod.glob.keeps I.bk) hm h) hd
theorem ld_blt {E:Value->Shared->Prop}{pins:List (Addr×Obj)}{s:Shared}{σ:St}{H:Hp}{x:Str}{u:Value}{pos:Pos}{Q:Value->Shared->Prop}(I:Inv X pins σ H s)(hg:Gl X x)(hm:X.mg x=none)(hv:bootBuiltins x=some u)(h:Q u s)
  (hn:x≠"__name__":=by decide)(hd:(x==("__debug__":Str))=false:=by decide):wpAny (model X.prog X.w) X.A (eval (.Name x pos) X.env) Q E s:=by
 obtain ⟨mb,h1,h2⟩:=I.mod.blt
 exact Calls.Name_function_global I.ok.kind hg (Calls.loadGlobal_builtin (by rw [I.ok.glob];exact I.mod.glob.keeps I.bk) hm (by rw [I.ok.blt];exact h1.keeps I.bk) ((h2 x hn).trans hv) h) hd
theorem pe_glob {x:Str}{v:V}{u:Value}{pos:Pos}(hg:Gl X x)(hm:X.mg x=some u)(r:RelV v u)(hd:(x==("__debug__":Str))=false:=by decide):PE X (.Name x pos) (tC v) :=
 fun _ _ _ H _ I h=>ld_glob I hg hm ⟨v,H,I,r,h⟩ hd
variable {a b:Expr}{ta tb:TE}{pos:Pos}
def PC (X:Cx) (op:CmpOp) (a b:Expr) (t:TE):Prop :=
 ∀ (pins:List (Addr×Obj)) (s:Shared) (σ:St) (H:Hp) (Q:VK),Inv X pins σ H s->t σ H Q ->
  wpAny (model X.prog X.w) X.A (eval a X.env) (fun v s₁=>wpAny (model X.prog X.w) X.A (eval b X.env) (fun u s₂=>wpAny (model X.prog X.w) X.A (compareOp op v u) (EP X pins σ Q) X.xe s₂) X.xe s₁) X.xe s
def tB (t:TE):TT:=fun σ H Q=>t σ H fun x H1=>∃ c,x=.bl c/\Q c H1
theorem pe_cmp {op:CmpOp}{t:TE}(h:PC X op a b t)(h1:behindInMarks op b=false:=by first|exact nobehind _ (by decide) (by decide)|rfl):PE X (.Compare a [op] [b] pos) t:=fun pins s σ H Q I hw=>wpAny_Compare1 (h pins s σ H Q I hw) h1
theorem pt_cmp {op:CmpOp}{t:TE}(h:PC X op a b t)(h1:behindInMarks op b=false:=by first|exact nobehind _ (by decide) (by decide)|rfl):PT X (.Compare a [op] [b] pos) (tB t):=by
 intro pins s σ H Q I hw
 refine wpAny_isTrue_Compare1 (thn (h pins s σ H _ I hw) fun v s1 h1=>thn h1 fun u s2 h2=>thn h2 fun c s3 ⟨x,H1,I1,r1,q1⟩=>?_) h1
 obtain ⟨d,rfl,q⟩:=q1
 cases r1
 exact wpAny_truthy_bool ⟨H1,I1,q⟩
theorem pt_val {e:Expr}{t:TE}(h:PE X e t)(he:∀ whole,isTrue e X.env whole=(do let v ← whole;standAt e.pos;holding [v] (truthy v)):=by intro _;rfl):PT X e (tB t):=by
 intro pins s σ H Q I hw
 refine isTrue_plain (thn (h pins s σ H _ I hw) fun v s1 ⟨x,H1,I1,r1,q1⟩=>?_) (he _)
 obtain ⟨d,rfl,q⟩:=q1
 cases r1
 exact wpAny_truthy_bool ⟨H1,I1,q⟩
variable {tA tB':TT}{rest:List Expr}
def tAnd (t u:TT):TT:=fun σ H Q=>t σ H fun c H1=>if c=true then u σ H1 Q else Q false H1
def tOr (t u:TT):TT:=fun σ H Q=>t σ H fun c H1=>if c=true then Q true H1 else u σ H1 Q
def tNot (t:TT):TT:=fun σ H Q=>t σ H fun c H1=>Q (!c) H1
theorem pw_and1 (ha:PT X a tA):PW X (.BoolOp .And [a] pos) tA:=by
 intro wh pins s σ H Q I h
 refine isTrue_and (thn (ha pins s σ H Q I h) fun c s1 e=>?_)
 cases c with
 | true=>exact isTrue_and_nil e
 | false=>exact e
theorem pw_or1 (ha:PT X a tA):PW X (.BoolOp .Or [a] pos) tA:=by
 intro wh pins s σ H Q I h
 refine isTrue_or (thn (ha pins s σ H Q I h) fun c s1 e=>?_)
 cases c with
 | false=>exact isTrue_or_nil e
 | true=>exact e
theorem pw_and (ha:PT X a tA)(hb:PW X (.BoolOp .And (b::rest) pos) tB'):PW X (.BoolOp .And (a::b::rest) pos) (tAnd tA tB'):=by
 intro wh pins s σ H Q I h
 refine isTrue_and (thn (ha pins s σ H _ I h) fun c s1 ⟨H1,I1,q1⟩=>?_)
 cases c with
 | true=>exact hb wh pins s1 σ H1 Q I1 q1
 | false=>exact ⟨H1,I1,q1⟩
theorem pw_or (ha:PT X a tA)(hb:PW X (.BoolOp .Or (b::rest) pos) tB'):PW X (.BoolOp .Or (a::b::rest) pos) (tOr tA tB'):=by
 intro wh pins s σ H Q I h
 refine isTrue_or (thn (ha pins s σ H _ I h) fun c s1 ⟨H1,I1,q1⟩=>?_)
 cases c with
 | true=>exact ⟨H1,I1,q1⟩
 | false=>exact hb wh pins s1 σ H1 Q I1 q1
theorem pt_not (ha:PT X a tA):PT X (.UnaryOp .Not a pos) (tNot tA):=by
 intro pins s σ H Q I h
 exact isTrue_not (ha pins s σ H (fun c H1=>Q (!c) H1) I h)
def tAndV (ta tb:TE):TE:=fun σ H Q=>ta σ H fun x H1=>∃ c,x=.bl c/\if c=true then tb σ H1 Q else Q (.bl false) H1
def tOrV (ta tb:TE):TE:=fun σ H Q=>ta σ H fun x H1=>∃ c,x=.bl c/\if c=true then Q (.bl true) H1 else tb σ H1 Q
theorem pe_one {op}{t:TE}(h:PE X a t):PE X (.BoolOp op [a] pos) t:=fun pins s σ H Q I hw=>BoolOp_one (h pins s σ H Q I hw)
theorem pe_and (ha:PE X a ta)(hb:PE X (.BoolOp .And (b::rest) pos) tb):PE X (.BoolOp .And (a::b::rest) pos) (tAndV ta tb):=by
 intro pins s σ H Q I h
 refine BoolOp_and (thn (ha pins s σ H _ I h) fun v s1 ⟨x,H1,I1,r1,q1⟩=>?_)
 obtain ⟨c,rfl,q1⟩:=q1
 cases r1
 refine wpAny_truthy_bool ?_
 cases c with
 | true=>exact hb pins s1 σ H1 Q I1 q1
 | false=>exact ⟨.bl false,H1,I1,rfl,q1⟩
theorem pe_or (ha:PE X a ta)(hb:PE X (.BoolOp .Or (b::rest) pos) tb):PE X (.BoolOp .Or (a::b::rest) pos) (tOrV ta tb):=by
 intro pins s σ H Q I h
 refine BoolOp_or (thn (ha pins s σ H _ I h) fun v s1 ⟨x,H1,I1,r1,q1⟩=>?_)
 obtain ⟨c,rfl,q1⟩:=q1
 cases r1
 refine wpAny_truthy_bool ?_
 cases c with
 | false=>exact hb pins s1 σ H1 Q I1 q1
 | true=>exact ⟨.bl true,H1,I1,rfl,q1⟩
end
def SqL (K:PySem.W.Frag)(H:Hp)(a:Addr)(xs:List V):Prop :=
 Rd H a (.lst xs) ∨
  ∃ (o:Obj) (its:Array Value) (n:Nat),K.lookup a=some o/\o.cls=.type "list"/\o.dict=none/\o.data=.seq its n/\its.size<=sizeLine/\Vals xs its.toList
def SqT (K:PySem.W.Frag)(H:Hp)(a:Addr)(xs:List V):Prop :=
 Rd H a (.tup xs) ∨
  ∃ (o:Obj) (its:Array Value) (n:Nat),K.lookup a=some o/\o.cls=.type "tuple"/\o.data=.seq its n/\its.size<=sizeLine/\Vals xs its.toList
def absV:Value->Option V
 | .none=>some .non
 | .bool b=>some (.bl b)
 | .int i _=>some (.int i)
 | .str x _=>some (.str x)
 | .bytes b _=>some (.byt b)
 | .float b _=>some (.flt b)
 | .ref a=>some (.ref a)
 | .type n=>some (.ty n)
 | _=>none
theorem RelV.abs {x:V}{u:Value}(r:RelV x u):absV u=some x:=by
 cases x with
 | non=>cases r;rfl
 | bl _=>cases r;rfl
 | int _=>obtain ⟨t,rfl⟩:=r;rfl
 | str _=>obtain ⟨t,rfl⟩:=r;rfl
 | byt _=>obtain ⟨t,rfl⟩:=r;rfl
 | flt _=>obtain ⟨t,rfl⟩:=r;rfl
 | ref _=>cases r;rfl
 | ty _=>cases r;rfl
theorem RelV.inj {x y:V}{u:Value}(r:RelV x u)(q:RelV y u):x=y:=Option.some.inj (r.abs.symm.trans q.abs)
theorem Vals.inj:∀ {xs ys:List V} {us:List Value},Vals xs us->Vals ys us->xs=ys
 | _,_,_,.nil,.nil=>rfl
 | _,_,_,.cons r t,.cons r' t'=>by rw [r.inj r',Vals.inj t t']
section
variable {X:Cx}{pins:List (Addr×Obj)}{σ:St}{H:Hp}{s:Shared}{a:Addr}{xs ys:List V}
theorem SqL.of {K:PySem.W.Frag} (h:H a=some (.lst xs)):SqL K H a xs:=.inl (.inl h)
theorem SqT.of {K:PySem.W.Frag}(h:H a=some (.tup xs)):SqT K H a xs:=.inl (.inl h)
theorem Inv.list (I:Inv X pins σ H s)(h:SqL X.K H a xs):∃ its:List Value,Vals xs its/\PlainL s.heap a its.toArray/\xs.length<=sizeLine:=by
 rcases h with h|⟨o,its,n,hk,hc,hd,hs,hz,r⟩
 · obtain ⟨z,its,n,r,e⟩:=h.ok I.hok
   exact ⟨its,r,⟨_,n,e,rfl,rfl,rfl⟩,z⟩
 · refine ⟨its.toList,r,⟨o,n,I.kIn a o hk,hc,hd,by simpa using hs⟩,?_⟩
   have e:=r.length
   simp only [Array.length_toList] at e
   omega
theorem Inv.tuple (I:Inv X pins σ H s)(h:SqT X.K H a xs):∃ its:List Value,Vals xs its/\IsTup s.heap a its.toArray/\xs.length<=sizeLine:=by
 rcases h with h|⟨o,its,n,hk,hc,hs,hz,r⟩
 · obtain ⟨z,its,r,p⟩:=h.ok I.hok
   exact ⟨its,r,p,z⟩
 · refine ⟨its.toList,r,⟨o,I.kIn a o hk,hc,n,by simpa using hs⟩,?_⟩
   have e:=r.length
   simp only [Array.length_toList] at e
   omega
theorem Inv.list_inj (I:Inv X pins σ H s)(h:SqL X.K H a xs)(h':SqL X.K H a ys):xs=ys:=by
 obtain ⟨its,r,⟨o,n,e,_,_,d⟩,_⟩:=I.list h
 obtain ⟨its',r',⟨o',n',e',_,_,d'⟩,_⟩:=I.list h'
 rw [e] at e';cases e'
 rw [d] at d'
 injection d' with d1 _
 have:its=its':=by simpa using congrArg Array.toList d1
 subst this
 exact r.inj r'
theorem Inv.tuple_inj (I:Inv X pins σ H s)(h:SqT X.K H a xs)(h':SqT X.K H a ys):xs=ys:=by
 obtain ⟨its,r,⟨o,e,_,n,d⟩,_⟩:=I.tuple h
 obtain ⟨its',r',⟨o',e',_,n',d'⟩,_⟩:=I.tuple h'
 rw [e] at e';cases e'
 rw [d] at d'
 injection d' with d1 _
 have:its=its':=by simpa using congrArg Array.toList d1
 subst this
 exact r.inj r'
end
abbrev Cx.wish (X:Cx)(E:Value->Shared->Prop):Cx:={ X with xe:=E }
abbrev Cx.nox (X:Cx):Cx:=X.wish fun _ _=>False
theorem Cx.Ok.wish {X:Cx}(ok:X.Ok)(E:Value->Shared->Prop):(X.wish E).Ok :=
 ⟨ok.mod,ok.kind,ok.glob,ok.blt,ok.above,ok.inj,ok.has,ok.cab,ok.hd,ok.frames,ok.stk,ok.exf,ok.bs,ok.bsz,ok.noex,ok.exfs,ok.funs,ok.frf⟩
theorem Cx.Ok.unwish {X:Cx}{E:Value->Shared->Prop}(ok:(X.wish E).Ok):X.Ok :=
 ⟨ok.mod,ok.kind,ok.glob,ok.blt,ok.above,ok.inj,ok.has,ok.cab,ok.hd,ok.frames,ok.stk,ok.exf,ok.bs,ok.bsz,ok.noex,ok.exfs,ok.funs,ok.frf⟩
section
variable {X:Cx}{pins:List (Addr×Obj)}{σ:St}{H:Hp}{s:Shared}{E:Value->Shared->Prop}
theorem Inv.wish (I:Inv X pins σ H s) (E:Value->Shared->Prop):Inv (X.wish E) pins σ H s:=⟨I.ok.wish E,I.os,I.bare,I.base,I.loc,I.cell,I.free,I.freeC,I.pin,I.hok,I.len⟩
theorem Inv.unwish (I:Inv (X.wish E) pins σ H s):Inv X pins σ H s:=⟨I.ok.unwish,I.os,I.bare,I.base,I.loc,I.cell,I.free,I.freeC,I.pin,I.hok,I.len⟩
theorem SP.unwish {D:Ends}{f:Flow}{s':Shared}(h:SP (X.wish E) pins D f s'):SP X pins D f s':=by
 cases f with
 | next=>obtain ⟨σ',H',I,q⟩:=h;exact ⟨σ',H',I.unwish,q⟩
 | brk=>obtain ⟨σ',H',I,q⟩:=h;exact ⟨σ',H',I.unwish,q⟩
 | cont=>obtain ⟨σ',H',I,q⟩:=h;exact ⟨σ',H',I.unwish,q⟩
 | ret u=>obtain ⟨v,σ',H',I,r,q⟩:=h;exact ⟨v,σ',H',I.unwish,r,q⟩
theorem PSs.nox {st:List Stmt}{t:TS}(h:PSs X.nox st t):PSs X st t:=fun pins s σ H D I hw =>
 wpAny_mono (h pins s σ H D (I.wish _) hw) (fun _ _ q=>q.unwish) fun _ _ z=>False.elim z
end
section
variable {X:Cx}{st:Stmt}{rest:List Stmt}{t u:TS}{e:Expr}{te:TE}{pos:Pos}
def tNext:TS:=fun D σ H=>D.nx σ H
def tSeq (t u:TS):TS:=fun D σ H=>t { D with nx:=u D } σ H
theorem pss_nil:PSs X [] tNext:=fun _ _ σ H _ I h=>wpAny_execs_nil ⟨σ,H,I,h⟩
theorem pss_cons (h1:PS X st t)(h2:PSs X rest u):PSs X (st::rest) (tSeq t u):=by
 intro pins s σ H D I h
 refine wpAny_execs_cons (thn (h1 pins s σ H { D with nx:=u D } I h) fun f s1 q=>?_)
 cases f with
 | next =>
  obtain ⟨σ',H',I',q⟩:=q
  exact h2 pins s1 σ' H' D I' q
 | ret v=>exact q
 | brk=>exact q
 | cont=>exact q
theorem pss_one (h1:PS X st t):PSs X [st] t:=by
 intro pins s σ H D I h
 refine wpAny_execs_cons (thn (h1 pins s σ H D I h) fun f s1 q=>?_)
 cases f with
 | next=>exact wpAny_execs_nil q
 | ret v=>exact q
 | brk=>exact q
 | cont=>exact q
theorem Inv.quiet {pins:List (Addr×Obj)}{σ:St}{H:Hp}{s:Shared}(I:Inv X pins σ H s):interactive X.env=false:=by simp [interactive,I.ok.kind]
def tDrop (te:TE):TS:=fun D σ H=>te σ H fun _ H1=>D.nx σ H1
theorem ps_expr (he:PE X e te)(hs:swapsWith e none pos.line X.env=pure false:=by rfl):PS X (.Expr e pos) (tDrop te):=by
 intro pins s σ H D I h
 exact wpAny_Expr_any (thn (he pins s σ H _ I h) fun v s1 ⟨x,H1,I1,r1,q1⟩=>⟨σ,H1,I1,q1⟩) I.quiet hs
def tRet (te:TE):TS:=fun D σ H=>te σ H D.rt
theorem ps_ret (he:PE X e te):PS X (.Return (some e) pos) (tRet te):=by
 intro pins s σ H D I h
 exact wpAny_Return_some (thn (he pins s σ H _ I h) fun v s1 ⟨x,H1,I1,r1,q1⟩=>⟨x,σ,H1,I1,r1,q1⟩)
def tIfS (c:TT)(t u:TS):TS:=fun D σ H=>c σ H fun b H1=>if b=true then t D σ H1 else u D σ H1
theorem ps_if {c:Expr}{a b:List Stmt}{tc:TT}(hc:PT X c tc)(ha:PSs X a t)(hb:PSs X b u):PS X (.If c a b pos) (tIfS tc t u):=by
 intro pins s σ H D I h
 refine wpAny_If (thn (hc pins s σ H _ I h) fun d s1 ⟨H1,I1,q1⟩=>?_)
 cases d with
 | true=>exact ha pins s1 σ H1 D I1 q1
 | false=>exact hb pins s1 σ H1 D I1 q1
end
abbrev TG:=V->St->Hp->(St->Hp->Prop)->Prop
abbrev TGs:=List V->St->Hp->(St->Hp->Prop)->Prop
def PG (X:Cx)(target:Expr)(t:TG):Prop :=
 ∀ (pins:List (Addr×Obj)) (s:Shared) (σ:St) (H:Hp) (v:V) (u:Value) (Q:St->Hp->Prop),Inv X pins σ H s->RelV v u->t v σ H Q ->
  wpAny (model X.prog X.w) X.A (assign target X.env u) (fun _ s'=>∃ σ' H',Inv X pins σ' H' s'/\Q σ' H') X.xe s
def PGs (X:Cx)(ts:List Expr)(t:TGs):Prop :=
 ∀ (pins:List (Addr×Obj)) (s:Shared) (σ:St) (H:Hp) (vs:List V) (us:List Value) (Q:St->Hp->Prop),Inv X pins σ H s->Vals vs us->t vs σ H Q ->
  wpAny (model X.prog X.w) X.A (assignInOrder ((assignEach ts X.env).map (·.2)) us) (fun _ s'=>∃ σ' H',Inv X pins σ' H' s'/\Q σ' H') X.xe s
abbrev TSet:=V->V->V->Hp->(Hp->Prop)->Prop
def PSet (X:Cx)(t:TSet):Prop :=
 ∀ (pins:List (Addr×Obj)) (s:Shared) (σ:St) (H:Hp) (o i v:V) (ov iv u:Value) (Q:Hp->Prop),Inv X pins σ H s->RelV o ov->RelV i iv->RelV v u->t o i v H Q ->
  wpAny (model X.prog X.w) X.A (setItem ov iv u) (fun _ s'=>∃ H',Inv X pins σ H' s'/\Q H') X.xe s
abbrev TIp:=V->V->Hp->VK->Prop
def PIp (X:Cx)(op:Operator)(t:TIp):Prop :=
 ∀ (pins:List (Addr×Obj)) (s:Shared) (σ:St) (H:Hp) (x y:V) (v u:Value) (Q:VK),Inv X pins σ H s->RelV x v->RelV y u->t x y H Q ->
  wpAny (model X.prog X.w) X.A (inplaceOp op v u) (EP X pins σ Q) X.xe s
section
variable {X:Cx}{pos:Pos}
def gName (i:Nat):TG:=fun v σ H Q=>Q (σ.set i (some v)) H
theorem pg_name {i:Nat}{x:Str}(hN:X.N.Nodup)(hi:X.N[i]?=some x)(hx:Loc X.env.scope x)(hf:X.fn x=true∨X.env.scope.names.lookup x=some .local:=by first|exact .inl rfl|exact .inr rfl|assumption):PG X (.Name x pos) (gName i):=by
 intro pins s σ H v u Q I r h
 exact wpAny_assign_Name (store_ok I hN hi hx r (fun s' I'=>⟨_,H,I',h⟩) hf)
def gNil:TGs:=fun vs σ H Q=>vs=[]/\Q σ H
def gCons (t:TG)(u:TGs):TGs:=fun vs σ H Q=>∃ v r,vs=v::r/\t v σ H fun σ' H'=>u r σ' H' Q
theorem pgs_nil:PGs X [] gNil:=by
 intro pins s σ H vs us Q I r h
 obtain ⟨e,h⟩:=h
 subst e
 cases r
 exact assignInOrder_nil ⟨σ,H,I,h⟩
theorem pgs_cons {e:Expr}{es:List Expr}{t:TG}{u:TGs}(h1:PG X e t)(h2:PGs X es u)
  (hs:(assignEach (e::es) X.env).map (·.2)=assign e X.env::(assignEach es X.env).map (·.2):=by rfl):PGs X (e::es) (gCons t u):=by
 intro pins s σ H vs us Q I r h
 obtain ⟨v,vr,e1,h⟩:=h
 subst e1
 cases r with
 | cons r rr =>
  rw [hs]
  refine assignInOrder_cons (thn (h1 pins s σ H _ _ _ I r h) fun _ s1 ⟨σ1,H1,I1,q1⟩=>?_)
  exact h2 pins s1 σ1 H1 _ _ Q I1 rr q1
def gTup (K:PySem.W.Frag)(n:Nat)(t:TGs):TG:=fun v σ H Q=>∃ a xs,v=.ref a/\SqT K H a xs/\xs.length=n/\t xs σ H Q
theorem pg_tup {es:List Expr}{k:Nat}{t:TGs}{n:Nat}(hc:X.calm=true)(h:PGs X es t)
  (hn:(assignEach es X.env).length=n:=by rfl)(hst:(assignEach es X.env).findIdx? (·.1)=none:=by rfl):PG X (.Tuple es k pos) (gTup X.K n t):=by
 intro pins s σ H v u Q I r hw
 obtain ⟨a,xs,e1,hq,hl,hw⟩:=hw
 subst e1
 cases r
 obtain ⟨its,rv,ht,hz⟩:=I.tuple hq
 refine assign_Tuple_tuple (I.ok.hd hc) ht (by simp [hn,← hl,rv.length]) hst fun h' hx=>?_
 have I1:Inv X pins σ H { s with heap:=h' }:=I.kept (t':=s.toks) fun b o e=>hx b o (Nat.ne_of_lt (Heap.lt_size e)) e
 exact h pins _ σ H xs _ Q I1 (by simpa using rv) hw
def tAsg (te:TE)(g:TG):TS:=fun D σ H=>te σ H fun x H1=>g x σ H1 D.nx
theorem ps_asg {tg e:Expr}{te:TE}{g:TG}(he:PE X e te)(hg:PG X tg g)(hs:swapsWithSole [tg] e pos.line X.env=pure false:=by rfl)(hw:swappedStores [tg] e X.env=pure none:=by rfl)
  (h1:(assignEach [tg] X.env).map (·.2)=[assign tg X.env]:=by rfl):PS X (.Assign [tg] e pos) (tAsg te g):=by
 intro pins s σ H D I h
 refine wpAny_Assign_stores (thn (he pins s σ H _ I h) fun v s1 ⟨x,H1,I1,r1,q1⟩=>?_) hs hw
 rw [h1]
 exact thn (hg pins s1 σ H1 x v _ I1 r1 q1) fun _ s2 q=>q
theorem ps_set {i:Nat}{x:Str}{e:Expr}{te:TE}{pos':Pos}(hN:X.N.Nodup)(hi:X.N[i]?=some x)(hx:Loc X.env.scope x)(he:PE X e te)(hs:swapsWith e (some (.Name x pos')) pos.line X.env=pure false:=by rfl)(hf:X.fn x=true∨X.env.scope.names.lookup x=some .local:=by first|exact .inl rfl|exact .inr rfl|assumption) :
  PS X (.Assign [.Name x pos'] e pos) (tAsg te (gName i)):=by
 intro pins s σ H D I h
 refine wpAny_Assign_Name (thn (he pins s σ H _ I h) fun v s1 ⟨y,H1,I1,r1,q1⟩=>?_) hs
 exact store_ok I1 hN hi hx r1 (fun s2 I2=>⟨_,H1,I2,q1⟩) hf
def tAug (i:Nat)(te:TE)(ti:TIp):TS:=fun D σ H=>∃ x,σ[i]?=some (some x)/\te σ H fun y H1=>ti x y H1 fun z H2=>D.nx (σ.set i (some z)) H2
theorem ps_aug {i:Nat}{x:Str}{e:Expr}{te:TE}{op:Operator}{ti:TIp}{pos':Pos}(hN:X.N.Nodup)(hi:X.N[i]?=some x)(hx:Loc X.env.scope x)(he:PE X e te)(ho:PIp X op ti)(hf:X.fn x=true∨X.env.scope.names.lookup x=some .local:=by first|exact .inl rfl|exact .inr rfl|assumption) :
  PS X (.AugAssign (.Name x pos') op e pos) (tAug i te ti):=by
 intro pins s σ H D I h
 obtain ⟨v,e1,h⟩:=h
 obtain ⟨m,hn,hl⟩:=I.loc
 have vis:Vis X.env.scope x:=by rcases hx with k|k;exact .inl k;exact .inr (.inl k)
 obtain ⟨u,r,l⟩:=hl i x v hi e1 vis
 refine wpAny_AugAssign_Name ?_
 have go:wpAny (model X.prog X.w) X.A (eval e X.env) (fun w s₂=>wpAny (model X.prog X.w) X.A (inplaceOp op u w) (fun r s₃=>wpAny (model X.prog X.w) X.A (storeName X.env x r) (fun _=>SP X pins D .next) X.xe s₃) X.xe s₂) X.xe s:=by
  refine thn (he pins s σ H _ I h) fun w s1 ⟨y,H1,I1,r1,q1⟩=>?_
  refine thn (ho pins s1 σ H1 v y u w _ I1 r r1 q1) fun z s2 ⟨zv,H2,I2,r2,q2⟩=>?_
  exact store_ok I2 hN hi hx r2 (fun s3 I3=>⟨_,H2,I3,q2⟩) hf
 rcases l with ⟨hk,hm⟩|⟨hk,c,hc,hcell⟩
 · exact wpAny_loadName_local I.ok.kind hk hn hm go
 · rcases hk with hk|hk
   · exact wpAny_loadName_cell I.ok.kind hk hc hcell go
   · rcases hx with k|k
     · have:X.env.scope.names.lookup x=some .free:=hk
       rw [k] at this;cases this
     · have:X.env.scope.names.lookup x=some .free:=hk
       rw [k] at this;cases this
def tAugS (to ti te:TE)(tget:V->V->Hp->VK->Prop)(tip:TIp)(tset:TSet):TS:=fun D σ H=>to σ H fun o H1=>ti σ H1 fun i H2=>tget o i H2 fun x H3=>te σ H3 fun y H4=>tip x y H4 fun z H5=>tset o i z H5 fun H6=>D.nx σ H6
def PGet (X:Cx)(t:V->V->Hp->VK->Prop):Prop :=
 ∀ (pins:List (Addr×Obj)) (s:Shared) (σ:St) (H:Hp) (o i:V) (ov iv:Value) (Q:VK),Inv X pins σ H s->RelV o ov->RelV i iv->t o i H Q ->
  wpAny (model X.prog X.w) X.A (getItem ov iv) (EP X pins σ Q) X.xe s
theorem ps_augS {o i e:Expr}{to ti te:TE}{tget:V->V->Hp->VK->Prop}{tip:TIp}{tset:TSet}{op:Operator}{tpos:Pos}(ho:PE X o to)(hi:PE X i ti)(hg:PGet X tget)(he:PE X e te)(hp:PIp X op tip)(hs:PSet X tset)
  (ha:∀ ov iv new,augStore i ov iv new=(do holding [new,ov,iv] (setItem ov iv new);release [new,ov,iv] [];pure .next):=by intros;rfl):PS X (.AugAssign (.Subscript o i tpos) op e pos) (tAugS to ti te tget tip tset):=by
 intro pins s σ H D I h
 refine wpAny_AugAssign_SubscriptAny (thn (ho pins s σ H _ I h) fun ov s1 ⟨x1,H1,I1,r1,q1⟩=>?_) ha
 refine thn (hi pins s1 σ H1 _ I1 q1) fun iv s2 ⟨x2,H2,I2,r2,q2⟩=>?_
 refine thn (hg pins s2 σ H2 x1 x2 ov iv _ I2 r1 r2 q2) fun old s3 ⟨x3,H3,I3,r3,q3⟩=>?_
 refine thn (he pins s3 σ H3 _ I3 q3) fun v s4 ⟨x4,H4,I4,r4,q4⟩=>?_
 refine thn (hp pins s4 σ H4 x3 x4 old v _ I4 r3 r4 q4) fun new s5 ⟨x5,H5,I5,r5,q5⟩=>?_
 exact thn (hs pins s5 σ H5 x1 x2 x5 ov iv new _ I5 r1 r2 r5 q5) fun _ s6 ⟨H6,I6,q6⟩=>⟨σ,H6,I6,q6⟩
def ipI (f:Int->Int->Int):TIp:=fun x y H Q=>∃ i j,x=.int i/\y=.int j/\Q (.int (f i j)) H
theorem ip_add:PIp X .Add (ipI fun i j=>i+j):=by
 intro pins s σ H x y v u Q I r1 r2 h
 obtain ⟨i,j,e1,e2,q⟩:=h
 subst e1;subst e2
 obtain ⟨t,rfl⟩:=r1
 obtain ⟨t',rfl⟩:=r2
 exact iadd_int ⟨.int _,H,I.tok _,⟨_,rfl⟩,q⟩
end
section
variable {X:Cx}{pos:Pos}
def tWhile (c:TT) (tb:TS):TS:=fun D σ H=>∃ W:Nat->St->Hp->Prop,(∃ m,W m σ H)/\∀ m σ H,W m σ H ->
 c σ H fun b H1=>if b=true then ∃ N:St->Hp->Prop,(∀ σ' H',N σ' H'->∃ m',m' < m/\W m' σ' H')/\tb { D with nx:=N,ct:=N,bk:=D.nx } σ H1 else D.nx σ H1
theorem ps_while {c:Expr}{body:List Stmt}{tc:TT}{tb:TS}(hp:PassesOwn (model X.prog X.w) X.A X.env X.xe)(hc:PT X c tc)(hb:PSs X body tb):PS X (.While c body [] pos) (tWhile tc tb):=by
 intro pins s σ H D I h
 obtain ⟨W,⟨m0,w0⟩,turn⟩:=h
 refine wpAny_While (codeAny_whileLoop (fun n s'=>∃ σ' H',Inv X pins σ' H' s'/\W n σ' H') ?_ m0 ⟨σ,H,I,w0⟩)
 rintro n s1 ⟨σ1,H1,I1,w1⟩
 refine wpAny_passesOwn hp (thn (hc pins s1 σ1 H1 _ I1 (turn n σ1 H1 w1)) fun b s2 ⟨H2,I2,q2⟩=>?_)
 cases b with
 | true =>
  obtain ⟨N,hN,q2⟩:=q2
  rw [if_pos rfl]
  refine wpAny_passesOwn hp (thn (hb pins s2 σ1 H2 _ I2 q2) fun f s3 q3=>?_)
  cases f with
  | next =>
   obtain ⟨σ3,H3,I3,n3⟩:=q3
   obtain ⟨m',hm,w3⟩:=hN σ3 H3 n3
   exact ⟨m',hm,σ3,H3,I3,w3⟩
  | cont =>
   obtain ⟨σ3,H3,I3,n3⟩:=q3
   obtain ⟨m',hm,w3⟩:=hN σ3 H3 n3
   exact ⟨m',hm,σ3,H3,I3,w3⟩
  | brk=>exact q3
  | ret v=>exact q3
 | false =>
  rw [if_neg Bool.false_ne_true]
  exact wpAny_execs_nil ⟨σ1,H2,I2,q2⟩
end
structure It where
 go:Nat->Hp->Prop
 yld:Nat->Hp->V->Hp->Prop
 stop:Nat->Hp->Prop
def FpOk (X:Cx)(pins:List (Addr×Obj))(H:Hp)(b:Addr):Prop :=
 H b=none/\b≠X.env.locals/\b∉X.fs/\(b∈X.ex∨X.s_0.heap.objs.size<=b)/\(∀ x c,X.env.cells.lookup x=some c->c≠b)/\∀ p∈X.pn++pins,p.1≠b
theorem Inv.fpOk {X:Cx}{pins:List (Addr×Obj)}{σ:St}{H H':Hp}{s:Shared}{b:Addr}(I:Inv X pins σ H s)(hb:s.heap.objs.size<=b)(hn:H' b=none):FpOk X pins H' b:=by
 refine ⟨hn,Nat.ne_of_gt (Nat.lt_of_lt_of_le I.lt hb),I.nofs hb,.inr (Nat.le_trans I.sz hb),fun x c e z=>?_,fun p hp z=>?_⟩
 · obtain ⟨v,q⟩:=I.cell x c e
   exact absurd (Nat.lt_of_lt_of_le q.lt (by rw [z];exact hb)) (Nat.lt_irrefl _)
 · exact absurd (Nat.lt_of_lt_of_le (Heap.lt_size (I.pin p hp).1) (by rw [z];exact hb)) (Nat.lt_irrefl _)
structure Turn (P:Program)(w:World)(K:PySem.W.Frag)(tg:Expr)(J:It)(fp:List Addr)(it:Addr)(tn:Nat->Heap->Prop):Prop where
 mem:it∈fp
 obj:∀ i h,tn i h->∀ b∈fp,∃ o,h.get? b=some o/\∀ v,o.data≠.cell v
 keep:∀ i h h',tn i h->(∀ b∈fp,∀ o,h.get? b=some o->h'.get? b=some o)->tn i h'
 item:∀ (X:Cx),X.prog=P->X.w=w->X.K=K->X.calm=true->∀ (i:Nat) (pins:List (Addr×Obj)) (s:Shared) (σ:St) (H:Hp) (E:Value->Shared->Prop),Inv X pins σ H s->(∀ b∈fp,FpOk X pins H b)->tn i s.heap->J.go i H ->
  wpAny (model P w) X.A (pyNext (.ref it)) (fun r s1=>∃ u,r=some u /\
   wpAny (model P w) X.A (letOwnedTupleGo tg (.ref it) u) (fun _ s2=>∃ x H',Inv X pins σ H' s2/\RelV x u/\J.yld i H x H'/\tn (i+1) s2.heap/\∀ b∈fp,H' b=none) E s1) E s
 done:∀ (X:Cx),X.prog=P->X.w=w->X.K=K->X.calm=true->∀ (i:Nat) (pins:List (Addr×Obj)) (s:Shared) (σ:St) (H:Hp) (E:Value->Shared->Prop),Inv X pins σ H s->(∀ b∈fp,FpOk X pins H b)->tn i s.heap->J.stop i H ->
  wpAny (model P w) X.A (pyNext (.ref it)) (fun r s1=>r=none/\Inv X pins σ H s1) E s
 self:∀ (A:Around) (i:Nat) (s:Shared) (Q:Value->Shared->Prop) (E:Value->Shared->Prop),tn i s.heap->Q (.ref it) s->wpAny (model P w) A (pyIter (.ref it)) Q E s
abbrev TI:=St->Hp->(It->Hp->Prop)->Prop
def PIE (X:Cx)(pins:List (Addr×Obj))(σ:St)(tg:Expr)(R:It->Hp->Prop)(itv:Value)(s2:Shared):Prop :=
 ∃ (it:Addr) (fp:List Addr) (tn:Nat->Heap->Prop) (J:It) (H':Hp),itv=.ref it/\Inv X pins σ H' s2/\Turn X.prog X.w X.K tg J fp it tn/\tn 0 s2.heap/\(∀ b∈fp,FpOk X pins H' b)/\R J H'
def PI (X:Cx)(tg iter:Expr)(wi:TI):Prop :=
 ∀ (pins:List (Addr×Obj)) (s:Shared) (σ:St) (H:Hp) (R:It->Hp->Prop),Inv X pins σ H s->wi σ H R ->
  wpAny (model X.prog X.w) X.A (eval iter X.env) (fun v s1=>wpAny (model X.prog X.w) X.A (pyIter v) (PIE X pins σ tg R) X.xe s1) X.xe s
theorem go_of {M:Model}{A:Around}{E:Value->Shared->Prop}{s:Shared}{tg:Expr}{it:Addr}{u:Value}{o:Obj}{n:String}{vs:Array Value}{Q:Unit->Shared->Prop}(ho:s.heap.get? it=some o)(hc:o.cls=.type n)(hd:o.data=.fields vs)
  (hn:["enumerate","zip","dict_itemiterator","dict_reverseitemiterator","odict_iterator","itertools.zip_longest","itertools.pairwise"].contains n=false)(hQ:Q () s):wpAny M A (letOwnedTupleGo tg (.ref it) u) Q E s:=by
 unfold letOwnedTupleGo
 cases tg <;> first
  | exact wpAny_pure hQ
  | (cases u <;> first
    | exact wpAny_pure hQ
    | (refine wpAny_bind (wpAny_load ho ?_)
       rw [hc,hd]
       show wpAny M A (if (["enumerate","zip","dict_itemiterator","dict_reverseitemiterator","odict_iterator","itertools.zip_longest","itertools.pairwise"].contains n&&vs[0]?==some (rawInt _))=true then _ else _) Q E s
       rw [if_neg (by intro h;rw [hn,Bool.false_and] at h;cases h)]
       exact wpAny_pure hQ))
def Itl (K:PySem.W.Frag)(a:Addr):It :=
 ⟨fun i H=>∃ xs x,SqL K H a xs/\xs[i]?=some x,fun i H x H'=>H'=H/\∀ xs,SqL K H a xs->xs[i]?=some x,fun i H=>∃ xs,SqL K H a xs/\xs.length<=i⟩
def Itt (K:PySem.W.Frag)(a:Addr):It :=
 ⟨fun i H=>∃ xs x,SqT K H a xs/\xs[i]?=some x,fun i H x H'=>H'=H/\∀ xs,SqT K H a xs->xs[i]?=some x,fun i H=>∃ xs,SqT K H a xs/\xs.length<=i⟩
def Itr (lo:Int)(n:Nat):It:=⟨fun i _=>i < n,fun i H x H'=>H'=H/\x=.int (lo+i),fun i _=>n<=i⟩
theorem turn_list {P:Program}{w:World}{K:PySem.W.Frag}{tg:Expr}(a it:Addr):Turn P w K tg (Itl K a) [it] it (fun i h=>h.IsListIter it a i) where
 mem:=by simp
 obj:=fun i h st b hb=>by
  have e:b=it:=by simpa using hb
  subst e
  obtain ⟨o,e,c,d⟩:=st
  exact ⟨o,e,fun v z=>by rw [d] at z;cases z⟩
 keep:=fun i h h' st k=>st.at fun o e=>k it (by simp) o e
 item:=by
  intro X hP hw hK hc i pins s σ H E I hf st hg
  subst hP hw hK
  obtain ⟨xs,x,hq,hx⟩:=hg
  obtain ⟨its,rv,p,hz⟩:=I.list hq
  obtain ⟨u,hu,ru⟩:=rv.get hx
  obtain ⟨f0,f1,f2,f3,f4,f5⟩:=hf it (by simp)
  refine wpAny_pyNext_list_item st p.isList (x:=u) (by simpa using hu) fun h' st' sb=>?_
  have I1:Inv X pins σ H { s with heap:=h' }:=I.turned (t':=s.toks) (fun b o hb e=>(sb.2 b hb).trans e) f0 f1 f3 f4 f5
  obtain ⟨o,e,c,d⟩:=id st'
  exact ⟨u,rfl,go_of (s:={ s with heap:=h' }) e c d (by decide) ⟨x,H,I1,ru,⟨rfl,fun ys hy=>by rw [I.list_inj hy hq];exact hx⟩,st',fun b hb=>(hf b hb).1⟩⟩
 done:=by
  intro X hP hw hK hc i pins s σ H E I hf st hg
  subst hP hw hK
  obtain ⟨xs,hq,hx⟩:=hg
  obtain ⟨its,rv,p,hz⟩:=I.list hq
  obtain ⟨f0,f1,f2,f3,f4,f5⟩:=hf it (by simp)
  have hl:=rv.length
  exact wpAny_pyNext_list_end (I.ok.hd hc) st p.isList (by simp;omega) fun h' eb=>⟨rfl,I.turned (t':=s.toks) (fun b o hb e=>eb b o hb e) f0 f1 f3 f4 f5⟩
 self:=fun _ _ _ _ _ st h=>wpAny_pyIter_listiter st h
theorem turn_tuple {P:Program}{w:World}{K:PySem.W.Frag}{tg:Expr}(a it:Addr):Turn P w K tg (Itt K a) [it] it (fun i h=>h.IsTupleIter it a i) where
 mem:=by simp
 obj:=fun i h st b hb=>by
  have e:b=it:=by simpa using hb
  subst e
  obtain ⟨o,e,c,d⟩:=st
  exact ⟨o,e,fun v z=>by rw [d] at z;cases z⟩
 keep:=fun i h h' st k=>st.at fun o e=>k it (by simp) o e
 item:=by
  intro X hP hw hK hc i pins s σ H E I hf st hg
  subst hP hw hK
  obtain ⟨xs,x,hq,hx⟩:=hg
  obtain ⟨its,rv,p,hz⟩:=I.tuple hq
  obtain ⟨u,hu,ru⟩:=rv.get hx
  obtain ⟨f0,f1,f2,f3,f4,f5⟩:=hf it (by simp)
  refine wpAny_pyNext_tuple_item st (show s.heap.IsTuple a its.toArray from p) (x:=u) (by simpa using hu) fun h' st' sb=>?_
  have I1:Inv X pins σ H { s with heap:=h' }:=I.turned (t':=s.toks) (fun b o hb e=>(sb.2 b hb).trans e) f0 f1 f3 f4 f5
  obtain ⟨o,e,c,d⟩:=id st'
  exact ⟨u,rfl,go_of (s:={ s with heap:=h' }) e c d (by decide) ⟨x,H,I1,ru,⟨rfl,fun ys hy=>by rw [I.tuple_inj hy hq];exact hx⟩,st',fun b hb=>(hf b hb).1⟩⟩
 done:=by
  intro X hP hw hK hc i pins s σ H E I hf st hg
  subst hP hw hK
  obtain ⟨xs,hq,hx⟩:=hg
  obtain ⟨its,rv,p,hz⟩:=I.tuple hq
  obtain ⟨f0,f1,f2,f3,f4,f5⟩:=hf it (by simp)
  have hl:=rv.length
  exact wpAny_pyNext_tuple_end (I.ok.hd hc) st (show s.heap.IsTuple a its.toArray from p) (by simp;omega) fun h' eb=>⟨rfl,I.turned (t':=s.toks) (fun b o hb e=>eb b o hb e) f0 f1 f3 f4 f5⟩
 self:=fun _ _ _ _ _ st h=>wpAny_pyIter_tupleiter st h
theorem turn_range {P:Program}{w:World}{K:PySem.W.Frag}{tg:Expr}(it:Addr)(lo:Int)(n:Nat):Turn P w K tg (Itr lo n) [it] it (fun i h=>IsRangeIter h it (lo+(i:Nat)*1) ((n:Int) - (i:Nat)) 1) where
 mem:=by simp
 obj:=fun i h st b hb=>by
  have e:b=it:=by simpa using hb
  subst e
  exact ⟨_,st,fun v z=>by
   have z':Data.fields _=Data.cell v:=z
   cases z'⟩
 keep:=fun i h h' st k=>k it (by simp) _ st
 item:=by
  intro X hP hw hK hc i pins s σ H E I hf st hg
  subst hP hw hK
  obtain ⟨f0,f1,f2,f3,f4,f5⟩:=hf it (by simp)
  have W:=Walks.range (prog:=X.prog) (w:=X.w) (I.ok.hd hc) it lo 1 n
  refine W.item i s _ _ hg st fun v h' tk hv st' kk=>?_
  obtain ⟨t,rfl⟩:=hv
  have I1:Inv X pins σ H { s with heap:=h',toks:=tk }:=I.turned (fun b o hb e=>kk b o (by simpa using hb) e) f0 f1 f3 f4 f5
  refine ⟨_,rfl,go_of (s:={ s with heap:=h',toks:=tk }) (n:="range_iterator") st' rfl rfl (by decide) ⟨.int (lo+i),H,I1,⟨t,?_⟩,⟨rfl,rfl⟩,st',fun b hb=>(hf b hb).1⟩⟩
  rw [Int.mul_one]
 done:=by
  intro X hP hw hK hc i pins s σ H E I hf st hg
  subst hP hw hK
  obtain ⟨f0,f1,f2,f3,f4,f5⟩:=hf it (by simp)
  exact wpAny_pyNext_range_end (I.ok.hd hc) st (by have:n<=i:=hg;omega) fun h' eb=>⟨rfl,I.turned (t':=s.toks) (fun b o hb e=>eb b o hb e) f0 f1 f3 f4 f5⟩
 self:=fun _ _ _ _ _ st h=>wpAny_pyIter_rangeiter st h
section
variable {X:Cx}{tg:Expr}
def iList (K:PySem.W.Frag) (tl:TE):TI:=fun σ H R=>tl σ H fun x H1=>∃ a,x=.ref a/\(∃ xs,SqL K H1 a xs)/\R (Itl K a) H1
def iTup (K:PySem.W.Frag)(tl:TE):TI:=fun σ H R=>tl σ H fun x H1=>∃ a,x=.ref a/\(∃ xs,SqT K H1 a xs)/\R (Itt K a) H1
theorem pi_list {l:Expr}{tl:TE}(hl:PE X l tl):PI X tg l (iList X.K tl):=by
 intro pins s σ H R I h
 refine thn (hl pins s σ H _ I h) fun v s1 ⟨x,H1,I1,r1,q1⟩=>?_
 obtain ⟨a,e,⟨xs,hq⟩,q⟩:=q1
 subst e
 cases r1
 obtain ⟨its,rv,p,hz⟩:=I1.list hq
 refine wpAny_pyIter_list p.isList ?_
 refine ⟨s1.heap.objs.size,[s1.heap.objs.size],_,_,H1,rfl,I1.kept (t':=s1.toks) fun b o e=>Heap.get?_push_of_some _ e,turn_list a _,⟨_,Heap.get?_push_size _ rfl,rfl,rfl⟩,fun b hb=>?_,q⟩
 have e:b=s1.heap.objs.size:=by simpa using hb
 subst e
 exact I1.fpOk (Nat.le_refl _) (I1.hok.fresh (Nat.le_refl _))
theorem pi_tup {l:Expr}{tl:TE}(hl:PE X l tl):PI X tg l (iTup X.K tl):=by
 intro pins s σ H R I h
 refine thn (hl pins s σ H _ I h) fun v s1 ⟨x,H1,I1,r1,q1⟩=>?_
 obtain ⟨a,e,⟨xs,hq⟩,q⟩:=q1
 subst e
 cases r1
 obtain ⟨its,rv,p,hz⟩:=I1.tuple hq
 refine wpAny_pyIter_tuple (show s1.heap.IsTuple a its.toArray from p) ?_
 refine ⟨s1.heap.objs.size,[s1.heap.objs.size],_,_,H1,rfl,I1.kept (t':=s1.toks) fun b o e=>Heap.get?_push_of_some _ e,turn_tuple a _,⟨_,Heap.get?_push_size _ rfl,rfl,rfl⟩,fun b hb=>?_,q⟩
 have e:b=s1.heap.objs.size:=by simpa using hb
 subst e
 exact I1.fpOk (Nat.le_refl _) (I1.hok.fresh (Nat.le_refl _))
theorem range_it {pins:List (Addr×Obj)}{σ:St}{H:Hp}{s:Shared}{R:It->Hp->Prop}{E:Value->Shared->Prop}{lo hi:Int}{t u v:Tok}{tk:Nat}(I:Inv X pins σ H s)(h1:-(2 ^ 62)<=lo)(h2:lo < 2 ^ 62)(h3:-(2 ^ 62)<=hi)(h4:hi < 2 ^ 62)
  (q:R (Itr lo (hi - lo).toNat) H):wpAny (model X.prog X.w) X.A (pyIter (.ref s.heap.objs.size)) (PIE X pins σ tg R) E { s with heap:=s.heap.push { cls:=.type "range",data:=.fields #[.int lo t,.int hi u,.int 1 v] },toks:=tk }:=by
 refine wpAny_pyIter_range (IsRange.new ..) (small_one h1 h2 h3 h4) ?_
 have I1:Inv X pins σ H { s with heap:=s.heap.push { cls:=.type "range",data:=.fields #[.int lo t,.int hi u,.int 1 v] },toks:=tk }:=I.kept fun b o e=>Heap.get?_push_of_some _ e
 refine ⟨(s.heap.push { cls:=.type "range",data:=.fields #[.int lo t,.int hi u,.int 1 v] }).objs.size,[(s.heap.push { cls:=.type "range",data:=.fields #[.int lo t,.int hi u,.int 1 v] }).objs.size],_,_,H,rfl,
  I1.kept (t':=tk) fun b o e=>Heap.get?_push_of_some _ e,turn_range _ lo (hi - lo).toNat,?_,fun b hb=>?_,q⟩
 · have e1:lo+((0:Nat):Int)*1=lo:=by simp
   have e2:(((hi - lo).toNat:Nat):Int) - ((0:Nat):Int)=Builtin.Range.rangeSize lo hi 1:=by rw [rangeSize_one];split <;> omega
   show IsRangeIter _ _ (lo+((0:Nat):Int)*1) ((((hi - lo).toNat:Nat):Int) - ((0:Nat):Int)) 1
   rw [e1,e2]
   exact Heap.get?_push_size _ rfl
 · have e:b=(s.heap.push { cls:=.type "range",data:=.fields #[.int lo t,.int hi u,.int 1 v] }).objs.size:=by simpa using hb
   subst e
   exact I1.fpOk (Nat.le_refl _) (I1.hok.fresh (Nat.le_refl _))
def iRng1 (ta:TA):TI:=fun σ H R=>ta σ H fun vs H1=>∃ j:Int,vs=[.int j]/\-(2 ^ 62)<=j/\j < 2 ^ 62/\R (Itr 0 j.toNat) H1
def iRng2 (ta:TA):TI:=fun σ H R=>ta σ H fun vs H1=>∃ i j:Int,vs=[.int i,.int j]/\(-(2 ^ 62)<=i/\i < 2 ^ 62/\-(2 ^ 62)<=j/\j < 2 ^ 62)/\R (Itr i (j - i).toNat) H1
theorem pi_range1 {a:Expr}{ta:TA}{p pos:Pos}(hg:Gl X "range")(hm:X.mg "range"=none)(ha:PA X [a] ta)(hs:starEach [a] X.env=[(false,eval a X.env)]:=by rfl):PI X tg (.Call (.Name "range" p) [a] [] pos) (iRng1 ta):=by
 intro pins s σ H R I h
 refine Call_ (ld_blt I hg hm boot_range (PyProof.Rows.callWith_type1 (thn (ha pos pins s σ H _ I h) fun us s1 ⟨vs,H1,I1,r1,q1⟩=>?_) hs rfl))
 obtain ⟨j,e,q1,q2,q⟩:=q1
 subst e
 cases r1 with
 | cons r rr =>
  cases rr
  obtain ⟨t,rfl⟩:=r
  exact call_range_1 (range_it I1 (by omega) (by omega) q1 q2 (by simpa using q))
theorem pi_range2 {a b:Expr}{ta:TA}{p pos:Pos}(hg:Gl X "range")(hm:X.mg "range"=none)(ha:PA X [a,b] ta)(hs:starEach [a,b] X.env=[(false,eval a X.env),(false,eval b X.env)]:=by rfl)(hs2:starEach [b] X.env=[(false,eval b X.env)]:=by rfl) :
  PI X tg (.Call (.Name "range" p) [a,b] [] pos) (iRng2 ta):=by
 intro pins s σ H R I h
 refine Call_ (ld_blt I hg hm boot_range (PyProof.Rows.callWith_type1 (thn (ha pos pins s σ H _ I h) fun us s1 ⟨vs,H1,I1,r1,q1⟩=>?_) (by rw [hs,hs2]) (by rw [hs2];rfl)))
 obtain ⟨i,j,e,⟨q1,q2,q3,q4⟩,q⟩:=q1
 subst e
 cases r1 with
 | cons r rr =>
  cases rr with
  | cons r' rr =>
   cases rr
   obtain ⟨t,rfl⟩:=r
   obtain ⟨t',rfl⟩:=r'
   exact call_range_2 (range_it I1 q1 q2 q3 q4 q)
def tFor (wi:TI)(g:TG)(tb:TS):TS:=fun D σ H=>wi σ H fun J H1=>∃ W:Nat->Nat->St->Hp->Prop,(∃ m,W 0 m σ H1)/\∀ i m σ H,W i m σ H ->
 (J.stop i H/\D.nx σ H)∨(J.go i H/\∃ N:St->Hp->Prop,(∀ σ' H',N σ' H'->∃ m',m' < m/\W (i+1) m' σ' H')/\∀ x H',J.yld i H x H'->g x σ H' fun σ2 H2=>tb { D with nx:=N,ct:=N,bk:=D.nx } σ2 H2)
def pinsAt (fp:List Addr)(h:Heap):List (Addr×Obj):=fp.filterMap fun b=>(h.get? b).map fun o=>(b,o)
theorem mem_pinsAt {fp:List Addr}{h:Heap}{b:Addr}{o:Obj}(hb:b∈fp)(e:h.get? b=some o):(b,o)∈pinsAt fp h:=List.mem_filterMap.mpr ⟨b,hb,by rw [e];rfl⟩
theorem of_pinsAt {fp:List Addr}{h:Heap}{p:Addr×Obj}(hp:p∈pinsAt fp h):p.1∈fp/\h.get? p.1=some p.2:=by
 obtain ⟨b,hb,e⟩:=List.mem_filterMap.mp hp
 cases q:h.get? b with
 | none=>rw [q] at e;cases e
 | some o =>
  rw [q] at e
  have e':(b,o)=p:=Option.some.inj e
  subst e'
  exact ⟨hb,q⟩
theorem Inv.pinned {pins:List (Addr×Obj)}{σ:St}{H:Hp}{s:Shared}{fp:List Addr}(I:Inv X pins σ H s)(hf:∀ b∈fp,FpOk X pins H b)(ho:∀ b∈fp,∃ o,s.heap.get? b=some o/\∀ v,o.data≠.cell v):Inv X (pins++pinsAt fp s.heap) σ H s :=
 I.pins_of fun p hp=>(List.mem_append.mp hp).elim (fun z=>I.pin p (List.mem_append_right _ z)) fun z=>by
  obtain ⟨hb,e⟩:=of_pinsAt z
  obtain ⟨f0,f1,f2,_⟩:=hf p.1 hb
  obtain ⟨o,e',d⟩:=ho p.1 hb
  rw [e] at e';cases e'
  exact ⟨e,f0,f1,f2,d⟩
theorem Inv.unpinned {pins pl:List (Addr×Obj)}{σ:St}{H:Hp}{s:Shared}(I:Inv X (pins++pl) σ H s):Inv X pins σ H s:=I.pins_of fun p hp=>I.pin p (List.mem_append_right _ (List.mem_append_left _ hp))
theorem ps_for {iter:Expr}{body:List Stmt}{wi:TI}{g:TG}{tb:TS}{pos:Pos}(hp:PassesOwn (model X.prog X.w) X.A X.env X.xe)(hc:X.calm=true)(hi:PI X tg iter wi)(hg:PG X tg g)(hb:PSs X body tb)
  (hs:∀ x,foldedSetIterable iter X.env x=pure x:=by intro _;rfl):PS X (.For tg iter body [] pos) (tFor wi g tb):=by
 intro pins s σ H D I h
 refine wpAny_For (thn (hi pins s σ H _ I h) fun v s1 h1=>thn h1 fun itv s2 h2=>?_) hs
 obtain ⟨it,fp,tn,J,H2,e,I2,T,st2,f2,W,⟨m0,w0⟩,turn⟩:=h2
 subst e
 have stat:∀ {H':Hp},(∀ b∈fp,H' b=none)->∀ b∈fp,FpOk X pins H' b:=fun hn b hb=>⟨hn b hb,(f2 b hb).2⟩
 refine codeAny_forLoop_any (fun n s'=>∃ i σ' H',Inv X pins σ' H' s'/\tn i s'.heap/\(∀ b∈fp,H' b=none)/\W i n σ' H') ?_ m0 ⟨0,σ,H2,I2,st2,fun b hb=>(f2 b hb).1,w0⟩
 rintro n s3 ⟨i,σ3,H3,I3,st3,fr3,w3⟩
 rcases turn i n σ3 H3 w3 with ⟨stop,qn⟩|⟨go,N,hN,step⟩
 · refine wpAny_passesOwn hp (thn (T.done X rfl rfl rfl hc i pins s3 σ3 H3 X.xe I3 (stat fr3) st3 stop) fun r s4 ⟨hr,I4⟩=>?_)
   subst hr
   exact wpAny_execs_nil ⟨σ3,H3,I4,qn⟩
 · refine wpAny_passesOwn hp (thn (T.item X rfl rfl rfl hc i pins s3 σ3 H3 X.xe I3 (stat fr3) st3 go) fun r s4 ⟨u,hr,h4⟩=>?_)
   subst hr
   refine wpAny_passesOwn hp (thn h4 fun _ s5 ⟨x,H5,I5,r5,y5,st5,fr5⟩=>?_)
   have I5':=I5.pinned (stat fr5) (T.obj _ _ st5)
   refine wpAny_passesOwn hp (thn (hg _ s5 σ3 H5 x u _ I5' r5 (step x H5 y5)) fun _ s6 ⟨σ6,H6,I6,q6⟩=>?_)
   refine wpAny_passesOwn hp (thn (hb _ s6 σ6 H6 _ I6 q6) fun f s7 q7=>?_)
   have again:∀ {σ7:St} {H7:Hp},Inv X (pins++pinsAt fp s5.heap) σ7 H7 s7->N σ7 H7->∃ m,m < n/\∃ i σ' H',Inv X pins σ' H' s7/\tn i s7.heap/\(∀ b∈fp,H' b=none)/\W i m σ' H':=fun {σ7 H7} I7 n7=>by
    obtain ⟨m',hm,w7⟩:=hN σ7 H7 n7
    refine ⟨m',hm,i+1,σ7,H7,I7.unpinned,T.keep _ _ _ st5 fun b hb o e=>(I7.pin (b,o) (List.mem_append_right _ (List.mem_append_right _ (mem_pinsAt hb e)))).1,fun b hb=>?_,w7⟩
    obtain ⟨o,e,d⟩:=T.obj _ _ st5 b hb
    exact (I7.pin (b,o) (List.mem_append_right _ (List.mem_append_right _ (mem_pinsAt hb e)))).2.1
   cases f with
   | next=>obtain ⟨σ7,H7,I7,n7⟩:=q7;exact again I7 n7
   | cont=>obtain ⟨σ7,H7,I7,n7⟩:=q7;exact again I7 n7
   | brk=>obtain ⟨σ7,H7,I7,q7⟩:=q7;exact ⟨σ7,H7,I7.unpinned,q7⟩
   | ret v=>obtain ⟨x7,σ7,H7,I7,r7,q7⟩:=q7;exact ⟨x7,σ7,H7,I7.unpinned,r7,q7⟩
end
theorem for_list {K:PySem.W.Frag}{a:Addr}{xs:List V}{g:TG}{tb:TS}{D:Ends}{σ:St}{H:Hp}(Pv:Nat->St->Hp->Prop)(h0:Pv 0 σ H)(hl:∀ i σ H,i<=xs.length->Pv i σ H->SqL K H a xs)
  (hs:∀ i x σ H,xs[i]?=some x->Pv i σ H->g x σ H fun σ2 H2=>tb { D with nx:=Pv (i+1),ct:=Pv (i+1),bk:=D.nx } σ2 H2)(hd:∀ σ H,Pv xs.length σ H->D.nx σ H) :
  ∃ W:Nat->Nat->St->Hp->Prop,(∃ m,W 0 m σ H)/\∀ i m σ H,W i m σ H ->
   ((Itl K a).stop i H/\D.nx σ H)∨((Itl K a).go i H/\∃ N:St->Hp->Prop,(∀ σ' H',N σ' H'->∃ m',m' < m/\W (i+1) m' σ' H')/\∀ x H',(Itl K a).yld i H x H'->g x σ H' fun σ2 H2=>tb { D with nx:=N,ct:=N,bk:=D.nx } σ2 H2):=by
 refine ⟨fun i m σ H=>m=xs.length - i/\i<=xs.length/\Pv i σ H,⟨xs.length,by simp,Nat.zero_le _,h0⟩,?_⟩
 rintro i m σ H ⟨rfl,hi,p⟩
 have q:=hl i σ H hi p
 by_cases hlt:i < xs.length
 · refine .inr ⟨⟨xs,xs[i],q,by simp [hlt]⟩,Pv (i+1),fun σ' H' p'=>⟨xs.length - (i+1),by omega,rfl,hlt,p'⟩,fun x H' y=>?_⟩
   obtain ⟨e,y⟩:=y
   subst e
   exact hs i x σ _ (y xs q) p
 · have e:i=xs.length:=by omega
   subst e
   exact .inl ⟨⟨xs,q,Nat.le_refl _⟩,hd σ H p⟩
theorem for_range {lo:Int}{n:Nat}{g:TG}{tb:TS}{D:Ends}{σ:St}{H:Hp}(Pv:Nat->St->Hp->Prop)(h0:Pv 0 σ H)
  (hs:∀ i σ H,i < n->Pv i σ H->g (.int (lo+i)) σ H fun σ2 H2=>tb { D with nx:=Pv (i+1),ct:=Pv (i+1),bk:=D.nx } σ2 H2)(hd:∀ σ H,Pv n σ H->D.nx σ H) :
  ∃ W:Nat->Nat->St->Hp->Prop,(∃ m,W 0 m σ H)/\∀ i m σ H,W i m σ H ->
   ((Itr lo n).stop i H/\D.nx σ H)∨((Itr lo n).go i H/\∃ N:St->Hp->Prop,(∀ σ' H',N σ' H'->∃ m',m' < m/\W (i+1) m' σ' H')/\∀ x H',(Itr lo n).yld i H x H'->g x σ H' fun σ2 H2=>tb { D with nx:=N,ct:=N,bk:=D.nx } σ2 H2):=by
 refine ⟨fun i m σ H=>m=n - i/\i<=n/\Pv i σ H,⟨n,by simp,Nat.zero_le _,h0⟩,?_⟩
 rintro i m σ H ⟨rfl,hi,p⟩
 by_cases hlt:i < n
 · refine .inr ⟨hlt,Pv (i+1),fun σ' H' p'=>⟨n - (i+1),by omega,rfl,hlt,p'⟩,fun x H' y=>?_⟩
   obtain ⟨e,y⟩:=y
   subst e y
   exact hs i σ _ hlt p
 · have e:i=n:=by omega
   subst e
   exact .inl ⟨Nat.le_refl _,hd σ H p⟩
theorem while_by {c:TT}{tb:TS}{D:Ends}{σ:St}{H:Hp}(Pv:St->Hp->Prop)(μ:St->Hp->Nat)(h0:Pv σ H)
  (hs:∀ σ H,Pv σ H->c σ H fun b H1=>if b=true then tb { D with nx:=fun σ' H'=>Pv σ' H'/\μ σ' H' < μ σ H,ct:=fun σ' H'=>Pv σ' H'/\μ σ' H' < μ σ H,bk:=D.nx } σ H1 else D.nx σ H1)
  (mono:∀ σ H Q Q',(∀ b H1,Q b H1->Q' b H1)->c σ H Q->c σ H Q'):tWhile c tb D σ H:=by
 refine ⟨fun m σ H=>m=μ σ H/\Pv σ H,⟨_,rfl,h0⟩,?_⟩
 rintro m σ H ⟨rfl,p⟩
 refine mono σ H _ _ (fun b H1 q=>?_) (hs σ H p)
 cases b with
 | true=>exact ⟨_,fun σ' H' ⟨p',l⟩=>⟨_,l,rfl,p'⟩,q⟩
 | false=>exact q
abbrev R2:=V->V->Hp->VK->Prop
def OpR (X:Cx)(f:Value->Value->Sem Value)(r:R2):Prop :=
 ∀ (pins:List (Addr×Obj)) (s:Shared) (σ:St) (H:Hp) (x y:V) (v u:Value) (Q:VK),Inv X pins σ H s->RelV x v->RelV y u->r x y H Q ->
  wpAny (model X.prog X.w) X.A (f v u) (EP X pins σ Q) X.xe s
def UnR (X:Cx)(f:Value->Sem Value)(r:V->Hp->VK->Prop):Prop :=
 ∀ (pins:List (Addr×Obj)) (s:Shared) (σ:St) (H:Hp) (x:V) (v:Value) (Q:VK),Inv X pins σ H s->RelV x v->r x H Q ->
  wpAny (model X.prog X.w) X.A (f v) (EP X pins σ Q) X.xe s
def CallR (X:Cx)(f:Value)(r:List V->Hp->VK->Prop):Prop :=
 ∀ (pins:List (Addr×Obj)) (s:Shared) (σ:St) (H:Hp) (xs:List V) (us:List Value) (Q:VK),Inv X pins σ H s->Vals xs us->r xs H Q ->
  wpAny (model X.prog X.w) X.A (call f us) (EP X pins σ Q) X.xe s
def tOp (r:R2)(ta tb:TE):TE:=fun σ H Q=>ta σ H fun x H1=>tb σ H1 fun y H2=>r x y H2 Q
def tUn (r:V->Hp->VK->Prop)(ta:TE):TE:=fun σ H Q=>ta σ H fun x H1=>r x H1 Q
def rI (C:Int->Int->Prop)(g:Int->Int->V):R2:=fun x y H Q=>∃ i j,x=.int i/\y=.int j/\C i j/\Q (g i j) H
def rI0 (g:Int->Int->V):R2:=fun x y H Q=>∃ i j,x=.int i/\y=.int j/\Q (g i j) H
def rU (g:Int->V):V->Hp->VK->Prop:=fun x H Q=>∃ i,x=.int i/\Q (g i) H
section
variable {X:Cx}{a b c:Expr}{ta tb tc:TE}{pos:Pos}
theorem binT (ha:PE X a ta) (hb:PE X b tb) {pins:List (Addr×Obj)} {s:Shared} {σ:St} {H:Hp} {R:V->V->Hp->Prop} (I:Inv X pins σ H s)
  (h:ta σ H fun x H1=>tb σ H1 fun y H2=>R x y H2) {Q:Value->Shared->Prop} {f:Value->Value->Sem Value}
  (hf:∀ v u s2 x y H2,Inv X pins σ H2 s2->RelV x v->RelV y u->R x y H2->wpAny (model X.prog X.w) X.A (f v u) Q X.xe s2) :
  wpAny (model X.prog X.w) X.A (eval a X.env) (fun v s₁=>wpAny (model X.prog X.w) X.A (eval b X.env) (fun u s₂=>wpAny (model X.prog X.w) X.A (f v u) Q X.xe s₂) X.xe s₁) X.xe s:=by
 refine thn (ha pins s σ H _ I h) fun v s1 ⟨x,H1,I1,r1,q1⟩=>?_
 refine thn (hb pins s1 σ H1 _ I1 q1) fun u s2 ⟨y,H2,I2,r2,q2⟩=>?_
 exact hf v u s2 x y H2 I2 r1 r2 q2
theorem pe_op {op:Operator}{r:R2}(ho:OpR X (binaryOp op) r)(ha:PE X a ta)(hb:PE X b tb):PE X (.BinOp a op b pos) (tOp r ta tb):=by
 intro pins s σ H Q I h
 exact wpAny_BinOp (binT ha hb I h fun v u s2 x y H2 I2 rx ry q=>ho pins s2 σ H2 x y v u Q I2 rx ry q)
theorem pe_un {op:UnaryOp}{r:V->Hp->VK->Prop}(ho:UnR X (unaryOp op) r)(ha:PE X a ta):PE X (.UnaryOp op a pos) (tUn r ta):=by
 intro pins s σ H Q I h
 exact UnaryOp_ (thn (ha pins s σ H _ I h) fun v s1 ⟨x,H1,I1,r1,q1⟩=>ho pins s1 σ H1 x v Q I1 r1 q1)
theorem opI {f:Value->Value->Sem Value}{C:Int->Int->Prop}{g:Int->Int->Int}
  (rule:∀ (i j:Int) (t u:Tok) (s:Shared) (Q:Value->Shared->Prop) (E:Value->Shared->Prop),C i j->Q (.int (g i j) s.toks) { s with toks:=s.toks+1 }->wpAny (model X.prog X.w) X.A (f (.int i t) (.int j u)) Q E s) :
  OpR X f (rI C fun i j=>.int (g i j)):=by
 intro pins s σ H x y v u Q I rx ry h
 obtain ⟨i,j,rfl,rfl,hc,q⟩:=h
 obtain ⟨t,rfl⟩:=rx
 obtain ⟨t',rfl⟩:=ry
 exact rule i j t t' s _ _ hc ⟨.int (g i j),H,I.tok _,⟨_,rfl⟩,q⟩
theorem opI0 {f:Value->Value->Sem Value}{g:Int->Int->Int}
  (rule:∀ (i j:Int) (t u:Tok) (s:Shared) (Q:Value->Shared->Prop) (E:Value->Shared->Prop),Q (.int (g i j) s.toks) { s with toks:=s.toks+1 }->wpAny (model X.prog X.w) X.A (f (.int i t) (.int j u)) Q E s) :
  OpR X f (rI0 fun i j=>.int (g i j)):=by
 intro pins s σ H x y v u Q I rx ry h
 obtain ⟨i,j,rfl,rfl,q⟩:=h
 obtain ⟨t,rfl⟩:=rx
 obtain ⟨t',rfl⟩:=ry
 exact rule i j t t' s _ _ ⟨.int (g i j),H,I.tok _,⟨_,rfl⟩,q⟩
theorem opB0 {f:Value->Value->Sem Value}{g:Int->Int->Bool}
  (rule:∀ (i j:Int) (t u:Tok) (s:Shared) (Q:Value->Shared->Prop) (E:Value->Shared->Prop),Q (.bool (g i j)) s->wpAny (model X.prog X.w) X.A (f (.int i t) (.int j u)) Q E s) :
  OpR X f (rI0 fun i j=>.bl (g i j)):=by
 intro pins s σ H x y v u Q I rx ry h
 obtain ⟨i,j,rfl,rfl,q⟩:=h
 obtain ⟨t,rfl⟩:=rx
 obtain ⟨t',rfl⟩:=ry
 exact rule i j t t' s _ _ ⟨.bl (g i j),H,I,rfl,q⟩
def CDiv (i j:Int):Prop:=0 < j/\j < 1073741824
def CPow (i j:Int):Prop:=0<=j/\j<=1000000/\i.natAbs < 2 ^ 64
def CMul (i j:Int):Prop:=(-(2 ^ 64) < i/\i < 2 ^ 64)∨(-(2 ^ 64) < j/\j < 2 ^ 64)
theorem CMul.ok {i j:Int}(h:CMul i j):IntMulOk i j:=by
 rcases h with ⟨h1,h2⟩|⟨h1,h2⟩
 · exact .of_left (intBits_le_64 h1 h2)
 · exact .of_right (intBits_le_64 h1 h2)
theorem op_add:OpR X (binaryOp .Add) (rI0 fun i j=>.int (i+j)):=opI0 fun _ _ _ _ _ _ _ q=>add_int q
theorem op_sub:OpR X (binaryOp .Sub) (rI0 fun i j=>.int (i - j)):=opI0 fun _ _ _ _ _ _ _ q=>sub_int q
theorem op_mul:OpR X (binaryOp .Mult) (rI CMul fun i j=>.int (i*j)):=opI fun _ _ _ _ _ _ _ hc q=>mul_int q hc.ok
theorem op_fdiv:OpR X (binaryOp .FloorDiv) (rI CDiv fun i j=>.int (i / j)):=opI fun i j _ _ _ _ _ hc q=>by
 have h1:(0:Int) < j:=hc.1
 have h2:j < 1073741824:=hc.2
 exact floordiv_int (by omega) (by rw [Int.fdiv_eq_ediv_of_nonneg i (by omega)];exact q) (.inl (PyProof.noPylong_small (by omega)))
theorem op_mod:OpR X (binaryOp .Mod) (rI (fun _ j=>0 < j) fun i j=>.int (i % j)):=opI fun i j _ _ _ _ _ hc q=>by
 have h1:(0:Int) < j:=hc
 exact mod_int' (by omega) (by rw [Int.fmod_eq_emod_of_nonneg i (by omega)];exact q)
theorem op_shl:OpR X (binaryOp .LShift) (rI CPow fun i j=>.int (i*2 ^ j.toNat)):=opI fun _ _ _ _ _ _ _ hc q=>lshift_int_small hc.1 hc.2.1 hc.2.2 q
theorem op_and:OpR X (binaryOp .BitAnd) (rI0 fun i j=>.int (Builtin.bitAnd i j)):=opI0 fun _ _ _ _ _ _ _ q=>and_int q
theorem iop_mul:OpR X (inplaceOp .Mult) (rI CMul fun i j=>.int (i*j)):=opI fun _ _ _ _ _ _ _ hc q=>imul_int q hc.ok
theorem unI {f:Value->Sem Value}{g:Int->Int}
  (rule:∀ (i:Int) (t:Tok) (s:Shared) (Q:Value->Shared->Prop) (E:Value->Shared->Prop),Q (.int (g i) s.toks) { s with toks:=s.toks+1 }->wpAny (model X.prog X.w) X.A (f (.int i t)) Q E s) :
  UnR X f (rU fun i=>.int (g i)):=by
 intro pins s σ H x v Q I rx h
 obtain ⟨i,rfl,q⟩:=h
 obtain ⟨t,rfl⟩:=rx
 exact rule i t s _ _ ⟨.int (g i),H,I.tok _,⟨_,rfl⟩,q⟩
theorem un_neg:UnR X (unaryOp .USub) (rU fun i=>.int (-i)):=unI fun _ _ _ _ _ q=>neg_int q
end
def scal:V->V->Bool
 | .non,.non=>true|.non,.int _=>true|.int _,.non=>true|.non,.bl _=>true|.bl _,.non=>true|.non,.str _=>true|.str _,.non=>true
 | .int _,.int _=>true|.bl _,.bl _=>true|.str _,.str _=>true|.byt _,.byt _=>true
 | .int _,.str _=>true|.str _,.int _=>true|.bl _,.str _=>true|.str _,.bl _=>true
 | _,_=>false
def rEq:R2:=fun x y H Q=>scal x y=true/\Q (.bl (decide (x=y))) H
def rNe:R2:=fun x y H Q=>scal x y=true/\Q (.bl (!decide (x=y))) H
theorem dec_int {i j:Int}:decide (V.int i=V.int j)=(i==j):=by
 rw [Bool.eq_iff_iff]
 simp
theorem dec_bl {i j:Bool}:decide (V.bl i=V.bl j)=(i==j):=by
 rw [Bool.eq_iff_iff]
 simp
theorem dec_str {i j:Str}:decide (V.str i=V.str j)=(i==j):=by
 rw [Bool.eq_iff_iff]
 simp
theorem dec_byt {i j:Array UInt8}:decide (V.byt i=V.byt j)=(i.toList==j.toList):=by
 rw [Bool.eq_iff_iff]
 cases i
 cases j
 simp
section
variable {X:Cx}{a b c:Expr}{ta tb tc:TE}{pos:Pos}
theorem fin_bl {pins:List (Addr×Obj)} {σ:St} {H:Hp} {s:Shared} {Q:VK} {k k':Bool} (I:Inv X pins σ H s) (q:Q (.bl k) H) (e:k=k'):EP X pins σ Q (.bool k') s:=by
 subst e
 exact ⟨.bl k,H,I,rfl,q⟩
theorem op_eq:OpR X (compareOp .Eq) rEq:=by
 intro pins s σ H x y v u Q I rx ry h
 obtain ⟨hs,q⟩:=h
 cases x with
 | non =>
  cases rx
  cases y with
  | non=>cases ry;exact PySem.EqNone.eq_none_none (fin_bl I q (by simp))
  | bl j=>cases ry;exact PySem.EqNone.eq_none_bool (fin_bl I q (by simp))
  | int j=>obtain ⟨t',rfl⟩:=ry;exact PySem.EqNone.eq_none_int (fin_bl I q (by simp))
  | str j=>obtain ⟨t',rfl⟩:=ry;exact PySem.EqNone.eq_none_str (fin_bl I q (by simp))
  | _=>exact absurd (show false=true from hs) Bool.false_ne_true
 | bl i =>
  cases rx
  cases y with
  | non=>cases ry;exact PySem.EqNone.eq_bool_none (fin_bl I q (by simp))
  | bl j=>cases ry;exact eq_bool (fin_bl I q dec_bl)
  | str j=>obtain ⟨t',rfl⟩:=ry;exact PySem.EqMixed.eq_bool_str (fin_bl I q (by simp))
  | _=>exact absurd (show false=true from hs) Bool.false_ne_true
 | int i =>
  obtain ⟨t,rfl⟩:=rx
  cases y with
  | non=>cases ry;exact PySem.EqNone.eq_int_none (fin_bl I q (by simp))
  | int j=>obtain ⟨t',rfl⟩:=ry;exact eq_int (fin_bl I q dec_int)
  | str j=>obtain ⟨t',rfl⟩:=ry;exact PySem.EqMixed.eq_int_str (fin_bl I q (by simp))
  | _=>exact absurd (show false=true from hs) Bool.false_ne_true
 | str i =>
  obtain ⟨t,rfl⟩:=rx
  cases y with
  | non=>cases ry;exact PySem.EqNone.eq_str_none (fin_bl I q (by simp))
  | bl j=>cases ry;exact PySem.EqMixed.eq_str_bool (fin_bl I q (by simp))
  | int j=>obtain ⟨t',rfl⟩:=ry;exact PySem.EqMixed.eq_str_int (fin_bl I q (by simp))
  | str j=>obtain ⟨t',rfl⟩:=ry;exact eq_str (fin_bl I q dec_str)
  | _=>exact absurd (show false=true from hs) Bool.false_ne_true
 | byt i =>
  obtain ⟨t,rfl⟩:=rx
  cases y with
  | byt j=>obtain ⟨t',rfl⟩:=ry;exact PySem.W.eq_bytes (fin_bl I q dec_byt)
  | _=>exact absurd (show false=true from hs) Bool.false_ne_true
 | _=>cases y <;> exact absurd (show false=true from hs) Bool.false_ne_true
theorem op_ne:OpR X (compareOp .NotEq) rNe:=by
 intro pins s σ H x y v u Q I rx ry h
 obtain ⟨hs,q⟩:=h
 cases x with
 | non =>
  cases rx
  cases y with
  | non=>cases ry;exact PySem.EqNone.ne_none_none (fin_bl I q (by simp))
  | bl j=>cases ry;exact PySem.EqNone.ne_none_bool (fin_bl I q (by simp))
  | int j=>obtain ⟨t',rfl⟩:=ry;exact PySem.EqNone.ne_none_int (fin_bl I q (by simp))
  | str j=>obtain ⟨t',rfl⟩:=ry;exact PySem.EqNone.ne_none_str (fin_bl I q (by simp))
  | _=>exact absurd (show false=true from hs) Bool.false_ne_true
 | bl i =>
  cases rx
  cases y with
  | non=>cases ry;exact PySem.EqNone.ne_bool_none (fin_bl I q (by simp))
  | bl j=>cases ry;exact ne_bool (fin_bl I q (congrArg not dec_bl))
  | str j=>obtain ⟨t',rfl⟩:=ry;exact PySem.EqMixed.ne_bool_str (fin_bl I q (by simp))
  | _=>exact absurd (show false=true from hs) Bool.false_ne_true
 | int i =>
  obtain ⟨t,rfl⟩:=rx
  cases y with
  | non=>cases ry;exact PySem.EqNone.ne_int_none (fin_bl I q (by simp))
  | int j=>obtain ⟨t',rfl⟩:=ry;exact ne_int (fin_bl I q (congrArg not dec_int))
  | str j=>obtain ⟨t',rfl⟩:=ry;exact PySem.EqMixed.ne_int_str (fin_bl I q (by simp))
  | _=>exact absurd (show false=true from hs) Bool.false_ne_true
 | str i =>
  obtain ⟨t,rfl⟩:=rx
  cases y with
  | non=>cases ry;exact PySem.EqNone.ne_str_none (fin_bl I q (by simp))
  | bl j=>cases ry;exact PySem.EqMixed.ne_str_bool (fin_bl I q (by simp))
  | int j=>obtain ⟨t',rfl⟩:=ry;exact PySem.EqMixed.ne_str_int (fin_bl I q (by simp))
  | str j=>obtain ⟨t',rfl⟩:=ry;exact ne_str (fin_bl I q (congrArg not dec_str))
  | _=>exact absurd (show false=true from hs) Bool.false_ne_true
 | byt i =>
  obtain ⟨t,rfl⟩:=rx
  cases y with
  | byt j=>obtain ⟨t',rfl⟩:=ry;exact PySem.W.ne_bytes (fin_bl I q (congrArg not dec_byt))
  | _=>exact absurd (show false=true from hs) Bool.false_ne_true
 | _=>cases y <;> exact absurd (show false=true from hs) Bool.false_ne_true
theorem op_lt:OpR X (compareOp .Lt) (rI0 fun i j=>.bl (decide (i < j))):=opB0 fun _ _ _ _ _ _ _ q=>lt_int q
theorem op_le:OpR X (compareOp .LtE) (rI0 fun i j=>.bl (decide (i<=j))):=opB0 fun _ _ _ _ _ _ _ q=>le_int q
theorem op_gt:OpR X (compareOp .Gt) (rI0 fun i j=>.bl (decide (j < i))):=opB0 fun _ _ _ _ _ _ _ q=>gt_int q
theorem op_isN:OpR X (compareOp .Is) (fun x y H Q=>y=.non/\Q (.bl (decide (x=.non))) H):=by
 intro pins s σ H x y v u Q I rx ry h
 obtain ⟨rfl,q⟩:=h
 cases ry
 refine is_none_gen (fin_bl I q ?_)
 cases x <;> first
  | (cases rx;rfl)
  | (obtain ⟨t,rfl⟩:=rx;rfl)
theorem nomark (b:Expr){op:CmpOp}(h:op≠.In:=by decide)(h2:op≠.NotIn:=by decide):behindInMarks op b=false:=by
 have e1:(op==CmpOp.In)=false:=by cases op <;> first|rfl|exact absurd rfl h
 have e2:(op==CmpOp.NotIn)=false:=by cases op <;> first|rfl|exact absurd rfl h2
 cases b <;> simp [behindInMarks,e1,e2]
theorem pe_cmpR {op:CmpOp}{r:R2}(ho:OpR X (compareOp op) r)(ha:PE X a ta)(hb:PE X b tb)(hm:behindInMarks op b=false):PE X (.Compare a [op] [b] pos) (tOp r ta tb):=by
 intro pins s σ H Q I h
 exact wpAny_Compare1 (binT ha hb I h fun v u s2 x y H2 I2 rx ry q=>ho pins s2 σ H2 x y v u Q I2 rx ry q) hm
def tTest (t:TE):TT:=fun σ H Q=>t σ H fun x H'=>∃ k,x=.bl k/\Q k H'
theorem pt_cmpR {op:CmpOp}{r:R2}(ho:OpR X (compareOp op) r)(ha:PE X a ta)(hb:PE X b tb)(hm:behindInMarks op b=false):PT X (.Compare a [op] [b] pos) (tTest (tOp r ta tb)):=by
 intro pins s σ H Q I h
 refine wpAny_isTrue_Compare1 (thn (ha pins s σ H _ I h) fun v s1 ⟨x,H1,I1,r1,q1⟩=>thn (hb pins s1 σ H1 _ I1 q1) fun u s2 ⟨y,H2,I2,r2,q2⟩ =>
  thn (ho pins s2 σ H2 x y v u _ I2 r1 r2 q2) fun c s3 ⟨z,H3,I3,r3,k,e,q3⟩=>?_) hm
 subst e
 cases r3
 exact wpAny_truthy_bool ⟨H3,I3,q3⟩
def tChain (r r':R2)(ta tb tc:TE):TE:=fun σ H Q=>ta σ H fun x H1=>tb σ H1 fun y H2=>r x y H2 fun z H3=>∃ k,z=.bl k /\
 (if k=true then tc σ H3 fun w' H4=>r' y w' H4 Q else Q (.bl false) H3)
theorem pt_chain {op op':CmpOp}{r r':R2}(ho:OpR X (compareOp op) r)(ho':OpR X (compareOp op') r')(ha:PE X a ta)(hb:PE X b tb)(hc:PE X c tc)
  (hm:lastMarks [op,op'] [b,c]=false:=by with_unfolding_all rfl):PT X (.Compare a [op,op'] [b,c] pos) (tTest (tChain r r' ta tb tc)):=by
 intro pins s σ H Q I h
 refine isTrue_chain (thn (ha pins s σ H _ I h) fun v s1 ⟨x,H1,I1,r1,q1⟩=>test_link (thn (hb pins s1 σ H1 _ I1 q1) fun u s2 ⟨y,H2,I2,r2,q2⟩ =>
  thn (ho pins s2 σ H2 x y v u _ I2 r1 r2 q2) fun d s3 ⟨z,H3,I3,r3,k,e,q3⟩=>?_)) hm
 subst e
 cases r3
 refine wpAny_truthy_bool ?_
 cases k with
 | false =>
  obtain ⟨k',e',q'⟩:=q3
  cases e'
  exact ite_ff ⟨H3,I3,q'⟩
 | true =>
  refine ite_tt (test_last (thn (hc pins s3 σ H3 _ I3 q3) fun w' s4 ⟨z',H4,I4,r4,q4⟩=>thn (ho' pins s4 σ H4 y z' u w' _ I4 r2 r4 q4) fun d' s5 ⟨z2,H5,I5,r5,k2,e2,q5⟩=>?_))
  subst e2
  cases r5
  exact wpAny_truthy_bool ⟨H5,I5,q5⟩
theorem line63:(sizeLine:Nat) < 2 ^ 63:=by rw [sizeLine_eq];decide
theorem vals1 {x:V}{us:List Value}(r:Vals [x] us):∃ u,us=[u]/\RelV x u:=by
 cases r with
 | cons r1 r2=>cases r2;exact ⟨_,rfl,r1⟩
theorem vals2 {x y:V}{us:List Value}(r:Vals [x,y] us):∃ u w',us=[u,w']/\RelV x u/\RelV y w':=by
 cases r with
 | cons r1 r2 =>
  cases r2 with
  | cons r3 r4=>cases r4;exact ⟨_,_,rfl,r1,r3⟩
end
structure ObjM (h:Heap)(x dx C:Addr)(mA:Str->Option Value):Prop where
 obj:h.get? x=some (PySem.W.instObj C dx)
 ns:h.Ns1 dx mA
 ne:dx≠x
theorem lookIn_ns {h:Heap}{dx:Addr}{mA:Str->Option Value}(n:h.Ns1 dx mA):∃ od,h.get? dx=some od/\∀ name,PySem.W.lookIn name od=some (mA name):=by
 obtain ⟨o,es,ep,ho,hd,hk,_,hm⟩:=n
 refine ⟨o,ho,fun name=>?_⟩
 have e:=hm name
 unfold nsFind findBy at e
 rw [← Array.find?_toList] at e
 unfold PySem.W.lookIn
 rw [hd]
 dsimp only
 split
 · rename_i y q
   rw [q] at e
   exact congrArg some e
 · rename_i q
   rw [q] at e
   have a:es.toList.any (·.refKey)=false:=by
    rw [List.any_eq_false]
    intro y hy
    obtain ⟨z,t,hkey⟩:=hk y (Array.mem_toList_iff.mp hy)
    simp [DictEntry.refKey,hkey]
   have a':¬ es.toList.any (·.refKey)=true:=by rw [a];exact Bool.false_ne_true
   rw [if_neg a']
   exact congrArg some e
theorem ObjM.look {h:Heap}{x dx C:Addr}{mA:Str->Option Value}(I:ObjM h x dx C mA):∃ od,PySem.W.InstAt h x (PySem.W.instObj C dx) C (some od)/\∀ name,PySem.W.lookIn name od=some (mA name) :=
 let ⟨od,ho,hl⟩:=lookIn_ns I.ns
 ⟨od,⟨I.obj,rfl,rfl,ho⟩,hl⟩
section
variable {prog:Program}{w:World}{A:Around}{E:Value->Shared->Prop}{s:Shared}{K:PySem.W.Frag}{x dx C f:Addr}{mA:Str->Option Value}{name:Str}{v:Value}
theorem get_map {expr:Bool} {Q:Value->Shared->Prop} (X:K.In s.heap) (I:ObjM s.heap x dx C mA) (hg:PySem.W.plainGet K C name=true) (hh:PySem.W.hasDictIn K C=true)
  (ha:PySem.W.findIn K (.ref C) name=some none) (hv:mA name=some v) (hv':PySem.W.handedIn v=true) (h:Q v { s with toks:=s.toks+1 }) :
  wpAny (model prog w) A (getAttr (.ref x) name expr) Q E s:=by
 obtain ⟨od,J,hl⟩:=I.look
 exact PySem.W.get_value X J (PySem.W.plainGet_of hg).1 (PySem.W.findObj_own hh ha rfl (by rw [hl,hv])) hv' h
theorem get_meth {pl:Sem Bool}{Q:Value×List Value->Shared->Prop}(X:K.In s.heap)(I:ObjM s.heap x dx C mA)(hg:PySem.W.plainGet K C name=true)
  (hf:PySem.W.findIn K (.ref C) name=some (some (.ref f)))(ht:PySem.W.isFn K (.ref f)=true)(hv:mA name=none)(h:Q (.ref f,[.ref x]) s) :
  wpAny (model prog w) A (getMethod (.ref x) name pl) Q E s:=by
 obtain ⟨od,J,hl⟩:=I.look
 exact PySem.W.method_fn X J (PySem.W.plainGet_of hg).1 (PySem.W.plainGet_of hg).2 hf (beq_iff_eq.mp ht) (by show (PySem.W.lookIn name od).map (·.isSome)=some false;rw [hl,hv];rfl) h
theorem set_map {ns:List Str}{Q:Unit->Shared->Prop}(X:K.In s.heap)(I:ObjM s.heap x dx C mA)
  (hs:PySem.W.findIn K (.ref C) "__setattr__"=some (some (.builtin "object.__setattr__")))(hp:PySem.W.plainOver K C=true)(ht:PySem.W.takerIn K C name=some none)(hh:PySem.W.hasDictIn K C=true)
  (hw:PySem.Within mA ns)(hsz:ns.length<=sizeLine)
  (h:∀ h',ObjM h' x dx C (fun y=>if y=name then some v else mA y)->Heap.SameBut dx s.heap h'->Q () { s with heap:=h',toks:=s.toks+2 }) :
  wpAny (model prog w) A (setAttr (.ref x) name v) Q E s:=by
 obtain ⟨od,J,hl⟩:=I.look
 refine PySem.W.set_plain X J hs (PySem.W.osa_open (s:={ s with toks:=s.toks+1 }) (r:=none) X J hp ht fun b=>?_)
 obtain ⟨cd,hc,hd'⟩:=PySem.W.any_some hh
 have hx:s.heap.get? x=some ⟨.ref C,some dx,.plain,#[]⟩:=I.obj
 refine wpAny_bind (wpAny_pure (wpAny_bind (wpAny_bind (wpAny_loadPart hx (wpAny_bind (PySem.W.Looks.here (s:={ s with toks:=s.toks+1 }) (PySem.W.looks_clsIn X hc) ?_))))))
 rw [hd']
 refine wpAny_pure (a:=some dx) (wpAny_bind (wpAny_pure (wpAny_bind ?_)))
 refine wpAny_nsSet1 (s:={ s with toks:=s.toks+1 }) I.ns fun h' hn2 hs2=>?_
 obtain ⟨oD,esD,epD,hoD,hdD,hcD⟩:=hn2.count (PySem.Within.cons name v hw)
 refine wpAny_bind (wpAny_lookBehind hoD (by rw [hdD];exact pastItsLine_dict (Nat.le_trans hcD (by rw [List.length_cons];omega))) ?_)
 exact wpAny_pure (h _ ⟨(hs2.2 _ (Ne.symm I.ne)).trans I.obj,hn2,I.ne⟩ hs2)
theorem make_map {R:Result->Shared->Prop}{vs:List Value}{kw:List (Str×Value)}(X:K.In s.heap)(hm:PySem.W.makesIn K C=true)
  (hi:PySem.W.findIn K (.ref C) "__init__"=some (some (.ref f)))(hf:PySem.W.typeIn K (.ref f)=some (.type "function"))
  (h:codeAny (model prog w) (A.under (.builtin "type.__call__" ⟨.ref C::vs,kw⟩)) (.call (.ref f) ⟨.ref (s.heap.objs.size+1)::vs,kw⟩) (PySem.W.InitBack (s.heap.objs.size+1) R)
   { s with heap:=(s.heap.push PySem.W.emptyDict).push (PySem.W.instObj C s.heap.objs.size) }) :
  codeAny (model prog w) A (.call (.ref C) ⟨vs,kw⟩) R s:=by
 obtain ⟨hh,g,d,t,os⟩:=s
 exact PySem.W.make_core (PySem.W.makes_of X hm) (PySem.W.looks_findIn X hi) (fun self=>PySem.W.bind_fn X self hf) (.inl rfl) h
end
def putF (f:Str)(v:V):List (Str×V)->List (Str×V)
 | []=>[(f,v)]
 | (g,x)::r=>if g=f then (g,v)::r else (g,x)::putF f v r
theorem lookup_putF (f g:Str)(v:V):∀ fs:List (Str×V),(putF f v fs).lookup g=if g=f then some v else fs.lookup g
 | []=>by
  show List.lookup g [(f,v)]=_
  by_cases h:g=f
  · have hb:(g==f)=true:=beq_iff_eq.mpr h
    simp only [List.lookup,hb,if_pos h]
  · have hb:(g==f)=false:=beq_eq_false_iff_ne.mpr h
    simp only [List.lookup,hb,if_neg h]
 | (k,x)::r=>by
  have ih:=lookup_putF f g v r
  rw [show putF f v ((k,x)::r)=(if k=f then (k,v)::r else (k,x)::putF f v r) from rfl]
  by_cases hk:k=f
  · rw [if_pos hk]
    by_cases h:g=k
    · have hb:(g==k)=true:=beq_iff_eq.mpr h
      simp only [List.lookup,hb,if_pos (h.trans hk)]
    · have hb:(g==k)=false:=beq_eq_false_iff_ne.mpr h
      simp only [List.lookup,hb,if_neg (fun e:g=f=>h (e.trans hk.symm))]
  · rw [if_neg hk]
    by_cases h:g=k
    · have hb:(g==k)=true:=beq_iff_eq.mpr h
      simp only [List.lookup,hb,if_neg (fun e:g=f=>hk (h.symm.trans e))]
    · have hb:(g==k)=false:=beq_eq_false_iff_ne.mpr h
      simp only [List.lookup,hb]
      exact ih
theorem keys_putF (f:Str)(v:V):∀ fs:List (Str×V),f∈(putF f v fs).map (·.1)/\∀ g,g∈fs.map (·.1)->g∈(putF f v fs).map (·.1)
 | []=>⟨by simp [putF],fun g h=>by simp at h⟩
 | (k,x)::r=>by
  obtain ⟨i1,i2⟩:=keys_putF f v r
  rw [show putF f v ((k,x)::r)=(if k=f then (k,v)::r else (k,x)::putF f v r) from rfl]
  by_cases hk:k=f
  · rw [if_pos hk]
    subst hk
    exact ⟨by simp,fun g h=>by simpa using h⟩
  · rw [if_neg hk]
    refine ⟨?_,fun g h=>?_⟩
    · rw [List.map_cons]
      exact List.mem_cons_of_mem _ i1
    · rw [List.map_cons] at h ⊢
      rcases List.mem_cons.mp h with e|e
      · exact List.mem_cons.mpr (.inl e)
      · exact List.mem_cons_of_mem _ (i2 g e)
theorem length_putF (f:Str)(v:V):∀ fs:List (Str×V),(putF f v fs).length<=fs.length+1
 | []=>by simp [putF]
 | (k,x)::r=>by
  have ih:=length_putF f v r
  rw [show putF f v ((k,x)::r)=(if k=f then (k,v)::r else (k,x)::putF f v r) from rfl]
  by_cases hk:k=f
  · rw [if_pos hk,List.length_cons,List.length_cons];omega
  · rw [if_neg hk,List.length_cons,List.length_cons];omega
theorem RelO.some_of {v:V}{o:Option Value}(r:RelO (some v) o):∃ u,o=some u/\RelV v u:=by
 cases o with
 | none=>exact (show False from r).elim
 | some u=>exact ⟨u,rfl,r⟩
theorem RelO.none_of {o:Option Value}(r:RelO none o):o=none:=by
 cases o with
 | none=>rfl
 | some u=>exact (show False from r).elim
theorem handed_of {v:V}{u:Value}(r:RelV v u):PySem.W.handedIn u=true:=by
 cases v with
 | non=>cases (show u=Value.none from r);rfl
 | bl b=>cases (show u=Value.bool b from r);rfl
 | int i=>obtain ⟨t,e⟩:=(show ∃ t,u=Value.int i t from r);cases e;rfl
 | str x=>obtain ⟨t,e⟩:=(show ∃ t,u=Value.str x t from r);cases e;rfl
 | byt b=>obtain ⟨t,e⟩:=(show ∃ t,u=Value.bytes b t from r);cases e;rfl
 | flt b=>obtain ⟨t,e⟩:=(show ∃ t,u=Value.float b t from r);cases e;rfl
 | ref a=>cases (show u=Value.ref a from r);rfl
 | ty n=>cases (show u=Value.type n from r);rfl
section
variable {P:Program}{w:World}{H H':Hp}{h h':Heap}{a C dx:Addr}{fs fs':List (Str×V)}
theorem ins_get (hok:HOk P w H h) (e:H a=some (.ins C dx fs)):∃ mA,ObjM h a dx C mA/\(∀ f,RelO (fs.lookup f) (mA f))/\PySem.Within mA (fs.map (·.1))/\fs.length<=1000/\H dx=some (.own a):=by
 obtain ⟨d,z,ne,ob,mA,n,r,q⟩:=(show ObjOk P w H h a (.ins C dx fs) from hok a _ e)
 exact ⟨mA,⟨ob,n,ne⟩,r,q,z,d⟩
end
structure Cls (K:PySem.W.Frag)(C:Addr):Prop where
 pg:PySem.W.plainGet K C Str.empty=true
 hd:PySem.W.hasDictIn K C=true
 po:PySem.W.plainOver K C=true
 sa:PySem.W.findIn K (.ref C) "__setattr__"=some (some (.builtin "object.__setattr__"))
theorem Cls.get {K:PySem.W.Frag}{C:Addr}(c:Cls K C)(f:Str):PySem.W.plainGet K C f=true:=c.pg
def NoAttr (K:PySem.W.Frag)(C:Addr)(f:Str):Prop:=PySem.W.findIn K (.ref C) f=some none
theorem NoAttr.taker {K:PySem.W.Frag}{C:Addr}{f:Str}(n:NoAttr K C f):PySem.W.takerIn K C f=some none:=by
 unfold PySem.W.takerIn
 rw [show PySem.W.findIn K (.ref C) f=some none from n]
 rfl
structure Meth (K:PySem.W.Frag)(C:Addr)(m:Str)(f:Addr):Prop where
 at_:PySem.W.findIn K (.ref C) m=some (some (.ref f))
 fn:PySem.W.isFn K (.ref f)=true
 kp:PySem.W.keepIn K (.ref f)=true
section
variable {X:Cx}{pins:List (Addr×Obj)}{σ:St}{H:Hp}{s:Shared}{a C dx:Addr}{fs:List (Str×V)}{f:Str}{v:V}{A:Around}{E:Value->Shared->Prop}
theorem getattr_ok {b:Bool} {Q:Value->Shared->Prop} (I:Inv X pins σ H s) (e:H a=some (.ins C dx fs)) (c:Cls X.K C) (n:NoAttr X.K C f) (l:fs.lookup f=some v)
  (h:∀ u s',Inv X pins σ H s'->RelV v u->Q u s'):wpAny (model X.prog X.w) A (getAttr (.ref a) f b) Q E s:=by
 obtain ⟨mA,O,r,_,_,_⟩:=ins_get I.hok e
 obtain ⟨u,hu,ru⟩:=RelO.some_of (v:=v) (o:=mA f) (by rw [← l];exact r f)
 exact get_map I.kIn O (c.get f) c.hd n hu (handed_of ru) (h u _ (I.tok _) ru)
theorem getmeth_ok {m:Str}{g:Addr}{pl:Sem Bool}{Q:Value×List Value->Shared->Prop}(I:Inv X pins σ H s)(e:H a=some (.ins C dx fs))(c:Cls X.K C)(k:Meth X.K C m g)(l:fs.lookup m=none)
  (h:Q (.ref g,[.ref a]) s):wpAny (model X.prog X.w) A (getMethod (.ref a) m pl) Q E s:=by
 obtain ⟨mA,O,r,_,_,_⟩:=ins_get I.hok e
 have hn:mA m=none:=RelO.none_of (by rw [← l];exact r m)
 exact get_meth I.kIn O (c.get m) k.at_ k.fn hn h
theorem setattr_ok {y:V}{u:Value}{Q:Unit->Shared->Prop}(I:Inv X pins σ H s)(e:H a=some (.ins C dx fs))(c:Cls X.K C)(n:NoAttr X.K C f)(hl:fs.length < 1000)(ry:RelV y u)
  (h:∀ s',Inv X pins σ (upd H a (.ins C dx (putF f y fs))) s'->Q () s'):wpAny (model X.prog X.w) A (setAttr (.ref a) f u) Q E s:=by
 obtain ⟨mA,O,r,wi,_,ho⟩:=ins_get I.hok e
 have hz:(fs.map (·.1)).length<=sizeLine:=by rw [List.length_map,sizeLine_eq];omega
 refine set_map I.kIn O c.sa c.po n.taker c.hd wi hz fun h' O' sb=>h _ ?_
 have hd:∃ o,h'.get? dx=some o:=let ⟨o,_,_,e',_⟩:=O'.ns;⟨o,e'⟩
 refine I.write (x:=a) (e:=dx) (by rw [e];exact True.intro) (.inr ho) (fun b q hb z=>(sb.2 b hb).trans z) hd ?_
 refine ⟨by rw [upd_ne O.ne];exact ho,?_,O.ne,O'.obj,_,O'.ns,fun g=>?_,fun g hg=>?_⟩
 · have:=length_putF f y fs;omega
 · show RelO ((putF f y fs).lookup g) (if g=f then some u else mA g)
   rw [lookup_putF]
   by_cases q:g=f
   · rw [if_pos q,if_pos q];exact ry
   · rw [if_neg q,if_neg q];exact r g
 · by_cases q:g=f
   · rw [q];exact (keys_putF f y fs).1
   · refine (keys_putF f y fs).2 g (wi g fun z=>hg ?_)
     show (if g=f then some u else mA g)=none
     rw [if_neg q];exact z
theorem Inv.made (I:Inv X pins σ H s):Inv X pins σ (upd (upd H s.heap.objs.size (.own (s.heap.objs.size+1))) (s.heap.objs.size+1) (.ins C s.heap.objs.size []))
  { s with heap:=(s.heap.push PySem.W.emptyDict).push (PySem.W.instObj C s.heap.objs.size) }:=by
 have e1:(s.heap.push PySem.W.emptyDict).get? s.heap.objs.size=some PySem.W.emptyDict:=Heap.get?_push_size s.heap rfl
 have e2:((s.heap.push PySem.W.emptyDict).push (PySem.W.instObj C s.heap.objs.size)).get? (s.heap.objs.size+1)=some (PySem.W.instObj C s.heap.objs.size):=by
  have:=Heap.get?_push_size (s.heap.push PySem.W.emptyDict) (o:=PySem.W.instObj C s.heap.objs.size) rfl
  rwa [Heap.size_push] at this
 have e3:(s.heap.push PySem.W.emptyDict).Ns s.heap.objs.size (fun _=>none):=⟨PySem.W.emptyDict,#[],_,e1,rfl,(fun e he=>absurd he (by simp)),fun _=>rfl⟩
 have I1:=I.laid (a:=s.heap.objs.size) (o:=.own (s.heap.objs.size+1)) (h':=s.heap.push PySem.W.emptyDict) (t':=s.toks) (fun b u q=>Heap.get?_push_of_some _ q) (Nat.le_refl _) ⟨_,e1⟩
 refine I1.laid (a:=s.heap.objs.size+1) (o:=.ins C s.heap.objs.size []) (t':=s.toks) (fun b u q=>Heap.get?_push_of_some _ q) (Nat.le_of_eq (Heap.size_push _ _)) ?_
 have ne:s.heap.objs.size≠s.heap.objs.size+1:=Nat.ne_of_lt (Nat.lt_succ_self _)
 refine ⟨by rw [upd_ne ne,upd_same],Nat.zero_le _,ne,e2,fun _=>none,(Heap.Ns1.of_empty e3).at fun o q=>Heap.get?_push_of_some _ q,fun _=>True.intro,fun y hy=>absurd rfl hy⟩
theorem attr_of {prog:Program}{w:World}{env:Env}{e:Expr}{f:Str}{pos:Pos}{s:Shared}{Q:Value->Shared->Prop}(hb:attributeBase e f env (eval e env)=eval e env)
  (h:wpAny (model prog w) A (eval e env) (fun o s₁=>wpAny (model prog w) A (getAttr o f true) Q E s₁) E s):wpAny (model prog w) A (eval (.Attribute e f pos) env) Q E s :=
 Attribute_any_ h (by rw [arm_eval_Attribute,hb])
end
def tFld (K:PySem.W.Frag)(ta:TE)(f:Str):TE:=fun σ H Q=>ta σ H fun x H1=>∃ a C dx fs v,x=.ref a/\H1 a=some (.ins C dx fs)/\Cls K C/\NoAttr K C f/\fs.lookup f=some v/\Q v H1
def sFld (K:PySem.W.Frag)(ta tv:TE)(f:Str):TS:=fun D σ H=>tv σ H fun y H1=>ta σ H1 fun x H2=>∃ a C dx fs,x=.ref a/\H2 a=some (.ins C dx fs)/\Cls K C/\NoAttr K C f/\fs.length < 1000 /\
 D.nx σ (upd H2 a (.ins C dx (putF f y fs)))
def InOp (X:Cx)(op:Operator)(rd:V->V->Hp->VK->Prop):Prop :=
 ∀ (pins:List (Addr×Obj)) (s:Shared) (σ:St) (H:Hp) (x y:V) (u v:Value) (Q:VK),Inv X pins σ H s->RelV x u->RelV y v->rd x y H Q->wpAny (model X.prog X.w) X.A (inplaceOp op u v) (EP X pins σ Q) X.xe s
def sFldAug (K:PySem.W.Frag)(ta tv:TE)(rd:V->V->Hp->VK->Prop)(f:Str):TS:=fun D σ H=>ta σ H fun x H1=>∃ a C dx fs v,x=.ref a/\H1 a=some (.ins C dx fs)/\Cls K C/\NoAttr K C f/\fs.lookup f=some v /\
 tv σ H1 fun y H2=>rd v y H2 fun z H3=>∃ dx' fs',H3 a=some (.ins C dx' fs')/\fs'.length < 1000/\D.nx σ (upd H3 a (.ins C dx' (putF f z fs')))
section
variable {X:Cx}{o e value:Expr}{f:Str}{pos pos' tpos:Pos}{ta tv:TE}
theorem pe_fld (he:PE X e ta) (hb:attributeBase e f X.env (eval e X.env)=eval e X.env):PE X (.Attribute e f pos) (tFld X.K ta f):=by
 intro pins s σ H Q I h
 refine attr_of hb (thn (he pins s σ H _ I h) fun u s1 ⟨x,H1,I1,rx,a,C,dx,fs,v,ex,ea,c,n,l,q⟩=>?_)
 subst ex
 obtain rfl:u=Value.ref a:=rx
 exact getattr_ok I1 ea c n l fun u' s2 I2 ru=>⟨v,H1,I2,ru,q⟩
theorem ps_fld (ha:PE X o ta)(hv:PE X value tv)(hs:swapsWith value (some (.Attribute o f pos')) pos.line X.env=pure false):PS X (.Assign [.Attribute o f pos'] value pos) (sFld X.K ta tv f):=by
 intro pins s σ H D I h
 refine plainObj_wpAny_Assign_Attribute (thn (hv pins s σ H _ I h) fun u s1 ⟨y,H1,I1,ry,q⟩=>thn (ha pins s1 σ H1 _ I1 q) fun ov s2 ⟨x,H2,I2,rx,a,C,dx,fs,ex,ea,c,n,l,q2⟩=>?_) hs
 subst ex
 obtain rfl:ov=Value.ref a:=rx
 exact setattr_ok I2 ea c n l ry fun s3 I3=>⟨σ,_,I3,q2⟩
theorem ps_fldaug {op:Operator}{rd:V->V->Hp->VK->Prop}(ha:PE X o ta)(hv:PE X value tv)(hop:InOp X op rd):PS X (.AugAssign (.Attribute o f tpos) op value pos) (sFldAug X.K ta tv rd f):=by
 intro pins s σ H D I h
 refine wpAny_AugAssign_AttributeAny (thn (ha pins s σ H _ I h) fun ov s1 ⟨x,H1,I1,rx,a,C,dx,fs,v,ex,ea,c,n,l,q⟩=>?_)
 subst ex
 obtain rfl:ov=Value.ref a:=rx
 refine getattr_ok I1 ea c n l fun u s2 I2 ru=>thn (hv pins s2 σ H1 _ I2 q) fun w3 s3 ⟨y,H2,I3,ry,q3⟩=>thn (hop pins s3 σ H2 v y u w3 _ I3 ru ry q3) fun w4 s4 ⟨z,H3,I4,rz,dx',fs',ea',l',q4⟩=>?_
 exact setattr_ok I4 ea' c n l' rz fun s5 I5=>⟨σ,_,I5,q4⟩
def rAdd:V->V->Hp->VK->Prop:=fun x y H Q=>∃ i j,x=.int i/\y=.int j/\Q (.int (i+j)) H
theorem in_add:InOp X .Add rAdd:=by
 rintro pins s σ H x y u v Q I rx ry ⟨i,j,rfl,rfl,q⟩
 obtain ⟨t,rfl⟩:=(show ∃ t,u=Value.int i t from rx)
 obtain ⟨t',rfl⟩:=(show ∃ t',v=Value.int j t' from ry)
 exact PyProof.Rows.iadd_int ⟨.int (i+j),H,I.tok _,⟨_,rfl⟩,q⟩
end
section
variable {X:Cx}{pins:List (Addr×Obj)}{σ:St}{H:Hp}{s:Shared}{A:Around}{E:Value->Shared->Prop}{Q:Value->Shared->Prop}{c:Value}{b:Bool}
end
structure Room (k:Nat)(A:Around):Prop where
 hd:A.handled=none
 dp:A.depth+3*k+5 < recursionLimit
 un:A.units+16*k+200 < cLine
theorem Room.mono {j k:Nat}{A:Around}(r:Room k A)(h:j<=k):Room j A:=⟨r.hd,by have:=r.dp;omega,by have:=r.un;omega⟩
theorem Room.deeper {k:Nat}{A:Around}(r:Room (k+1) A)(env:Env):Room k (A.deeper env) :=
 ⟨r.hd,by have:=r.dp;show A.depth+1+3*k+5 < _;omega,by have:=r.un;show A.units+3+16*k+200 < _;omega⟩
theorem make_depth {A:Around}{C:Addr}{us:List Value}{kw:List (Str×Value)}:(A.under (.builtin "type.__call__" ⟨.ref C::us,kw⟩)).depth=A.depth+1:=by
 first|rfl|simp [Around.under,Code.weight,Code.isCreation,Code.isGuard,Code.isCaller,Code.frames,Code.isFrame,guardIds]
theorem make_units {A:Around}{C:Addr}{us:List Value}{kw:List (Str×Value)}:(A.under (.builtin "type.__call__" ⟨.ref C::us,kw⟩)).units=A.units+1:=by
 first|rfl|simp [Around.under,Code.cUnits,Code.frames,Code.isFrame]
theorem Room.make {k:Nat}{A:Around}(r:Room (k+1) A)(C:Addr)(us:List Value)(kw:List (Str×Value)):Room k (A.under (.builtin "type.__call__" ⟨.ref C::us,kw⟩)) :=
 ⟨r.hd,by have:=r.dp;rw [make_depth];omega,by have:=r.un;rw [make_units];omega⟩
theorem Room.depth {k:Nat}{A:Around}(r:Room k A):A.depth < recursionLimit:=by have:=r.dp;omega
theorem Room.units {k:Nat}{A:Around}(r:Room k A):A.units+64 < cLine:=by have:=r.un;omega
def tNil:TA:=fun _ H Q=>Q [] H
def tCons (ta:TE)(tr:TA):TA:=fun σ H Q=>ta σ H fun x H1=>tr σ H1 fun xs H2=>Q (x::xs) H2
section
variable {X:Cx}{e:Expr}{es:List Expr}{te:TE}{t:TA}{pos:Pos}
theorem pa_nil:PA X [] tNil:=fun _ _ _ _ H Q I h=>Calls.spliced_nil ⟨[],H,I,.nil,h⟩
theorem pa_cons (ha:PE X e te)(hr:PA X es t)(hs:starEach (e::es) X.env=(false,eval e X.env)::starEach es X.env:=by rfl):PA X (e::es) (tCons te t):=by
 intro pos pins s σ H Q I h
 rw [hs]
 show wpAny _ _ (spliced ((false,eval e X.env)::backTo pos (starEach es X.env))) _ _ s
 refine Calls.spliced_cons (thn (ha pins s σ H _ I h) fun u s1 ⟨x,H1,I1,r1,q1⟩=>?_)
 exact thn (hr pos pins s1 σ H1 _ I1 q1) fun us s2 ⟨xs,H2,I2,r2,q2⟩=>⟨x::xs,H2,I2,.cons r1 r2,q2⟩
def tTup (t:TA):TE:=fun σ H Q=>t σ H fun xs H1=>xs.length<=sizeLine/\∀ p,H1 p=none->Q (.ref p) (upd H1 p (.tup xs))
def tLst (t:TA):TE:=fun σ H Q=>t σ H fun xs H1=>xs.length<=sizeLine/\∀ p,H1 p=none->Q (.ref p) (upd H1 p (.lst xs))
theorem pe_tup {x1}(h:PA X es t):PE X (.Tuple es x1 pos) (tTup t):=by
 intro pins s σ H Q I hq
 refine wpAny_Tuple_spliced (thn (h pos pins s σ H _ I hq) fun us s1 ⟨xs,H1,I1,r,z,q⟩=>⟨by rw [← r.length];exact z,?_⟩)
 have hf:H1 s1.heap.objs.size=none:=I1.hok.fresh (Nat.le_refl _)
 refine ⟨.ref s1.heap.objs.size,upd H1 s1.heap.objs.size (.tup xs),I1.laid (t':=s1.toks) (fun b u e=>Heap.get?_push_of_some _ e) (Nat.le_refl _) ?_,rfl,q _ hf⟩
 exact ⟨z,us,r,⟨_,Heap.get?_push_size _ rfl,rfl,_,rfl⟩⟩
theorem pe_lst (h:PA X es t):PE X (.List es pos) (tLst t):=by
 intro pins s σ H Q I hq
 refine wpAny_List_spliced (thn (h pos pins s σ H _ I hq) fun us s1 ⟨xs,H1,I1,r,z,q⟩=>⟨by rw [← r.length];exact z,?_⟩)
 have hf:H1 s1.heap.objs.size=none:=I1.hok.fresh (Nat.le_refl _)
 refine ⟨.ref s1.heap.objs.size,upd H1 s1.heap.objs.size (.lst xs),I1.laid (t':=s1.toks) (fun b u e=>Heap.get?_push_of_some _ e) (Nat.le_refl _) ?_,rfl,q _ hf⟩
 exact ⟨z,us,0,r,Heap.get?_push_size _ rfl⟩
end
abbrev Sp:=List V->Hp->VK->XK->Prop
abbrev CXT:=List Env->Hp->Shared->XK->Value->Shared->Prop
structure Env0 (P:Program)(w:World)(K:PySem.W.Frag)(mg:Str->Option Value)(base:Heap)(A:Around)(outer:List Env)(s:Shared)(H:Hp):Prop where
 frames:A.frames=some outer
 mod:Mod K mg base
 bs:∀ b o,base.get? b=some o->s.heap.get? b=some o/\H b=none
 bsz:base.objs.size<=s.heap.objs.size
 funs:s.heap.FunFrames base outer
 frf:∀ b∈frs outer,H b=none
 hok:HOk P w H s.heap
 bare:AllBare s.gens
def CE (outer:List Env)(P:Program)(w:World)(H:Hp)(s:Shared)(Q:VK)(u:Value)(s':Shared):Prop :=
 ∃ v H',s'.os=s.os/\AllBare s'.gens/\Un (frs outer) [] H H' s.heap s'.heap/\HOk P w H' s'.heap/\RelV v u/\Q v H'
def CR (CX:CXT)(outer:List Env)(P:Program)(w:World)(H:Hp)(s:Shared)(Q:VK)(E:XK)(r:Result)(s':Shared):Prop :=
 match r with
 | .ok (.ret u)=>CE outer P w H s Q u s'
 | .ok _=>False
 | .error e=>CX outer H s E e s'
structure FnOk (P:Program)(w:World)(K:PySem.W.Frag)(mg:Str->Option Value)(base:Heap)(CX:CXT)(k:Nat)(f:Addr)(fd:FuncData)(ps:List Str)(sp:Sp):Prop where
 len:∀ vs H Q E,sp vs H Q E->vs.length=ps.length
 run:∀ (A:Around) (outer:List Env) (s:Shared) (H:Hp) (args:Args) (us:List Value) (vs:List V) (Q:VK) (E:XK),Room k A->Env0 P w K mg base A outer s H->BindsTo s fd args (ps.zip us)->Vals vs us->sp vs H Q E ->
  codeAny (model P w) A (.call (.ref f) args) (CR CX outer P w H s Q E) s
theorem FnOk.mono {P:Program}{w:World}{K:PySem.W.Frag}{mg:Str->Option Value}{base:Heap}{CX:CXT}{j k:Nat}{f:Addr}{fd:FuncData}{ps:List Str}{sp:Sp}(F:FnOk P w K mg base CX j f fd ps sp)(h:j<=k) :
  FnOk P w K mg base CX k f fd ps sp:=⟨F.len,fun A outer s H args us vs Q E hr=>F.run A outer s H args us vs Q E (hr.mono h)⟩
theorem Env0.make {P:Program}{w:World}{K:PySem.W.Frag}{mg:Str->Option Value}{base:Heap}{A:Around}{outer:List Env}{s:Shared}{H:Hp}(e:Env0 P w K mg base A outer s H)(C:Addr)(us:List Value)(kw:List (Str×Value)) :
  Env0 P w K mg base (A.under (.builtin "type.__call__" ⟨.ref C::us,kw⟩)) outer s H:=⟨by first|exact e.frames|(simpa [Around.under,Code.envs,Code.isFrame,pushEnvs] using e.frames),e.mod,e.bs,e.bsz,e.funs,e.frf,e.hok,e.bare⟩
section
variable {X:Cx}{pins:List (Addr×Obj)}{σ:St}{H:Hp}{s s':Shared}
theorem Inv.env0 (I:Inv X pins σ H s):Env0 X.prog X.w X.K X.mg X.base X.A X.stack s H :=
 ⟨I.ok.frames,I.ok.mod,I.bs,Nat.le_trans I.ok.bsz I.sz,I.stack,I.stkFree,I.hok,I.bare⟩
theorem Inv.after {Q:VK}{u:Value}(I:Inv X pins σ H s)(h:CE X.stack X.prog X.w H s Q u s'):EP X pins σ Q u s':=by
 obtain ⟨v,H',os,bare,un,hok,r,q⟩:=h
 obtain ⟨hh,g,d,t,os'⟩:=s'
 obtain rfl:os'=s.os:=os
 exact ⟨v,H',I.call (h':=hh) (g':=g) (d':=d) (t':=t) (ch:=[]) un hok bare (fun b z=>absurd z (by simp)),r,q⟩
end
def tCall (sp:Sp)(dvs:List V)(E:XK)(t:TA):TE:=fun σ H Q=>t σ H fun vs H1=>sp (vs++dvs) H1 Q E
def tMeth (C:Addr)(m:Str)(sp:Sp)(dvs:List V)(E:XK)(ta:TE)(t:TA):TE:=fun σ H Q=>ta σ H fun x H1=>∃ a dx fs,x=.ref a/\H1 a=some (.ins C dx fs)/\fs.lookup m=none /\
 t σ H1 fun vs H2=>sp (x::(vs++dvs)) H2 Q E
def tMake (C:Addr)(sp:Sp)(dvs:List V)(E:XK)(t:TA):TE:=fun σ H Q=>t σ H fun vs H1=>∀ x dx,H1 x=none->H1 dx=none->dx≠x ->
 sp (.ref x::(vs++dvs)) (upd (upd H1 dx (.own x)) x (.ins C dx [])) (fun v H2=>v=.non/\Q (.ref x) H2) E
def Binds (K:PySem.W.Frag)(fd:FuncData)(ps:List Str)(ds:List Value):Prop :=
 ∀ (s:Shared) (us:List Value),K.In s.heap->(us++ds).length=ps.length->BindsTo s fd ⟨us,[]⟩ (ps.zip (us++ds))
theorem Binds.all {K:PySem.W.Frag}{fd:FuncData}{ps:List Str}(h:∀ us:List Value,us.length=ps.length->bindArgs fd ⟨us,[]⟩=pure (ps.zip us)):Binds K fd ps []:=fun s us _ hl=>by
 rw [List.append_nil] at hl ⊢
 exact .of_eq (h us hl)
def Passes (CX:CXT)(X:Cx)(E:XK):Prop:=∀ (pins:List (Addr×Obj)) (σ:St) (H:Hp) (s:Shared) (e:Value) (s':Shared),Inv X pins σ H s->CX X.stack H s E e s'->X.xe e s'
section
variable {X:Cx}{CX:CXT}{k:Nat}{f C:Addr}{fd:FuncData}{ps:List Str}{sp:Sp}{dvs:List V}{ds:List Value}{E:XK}{x m:Str}{p pos apos:Pos}{e o:Expr}{es:List Expr}{ta:TE}{t:TA}
theorem run_fn {pins:List (Addr×Obj)} {σ:St} {H:Hp} {s:Shared} {Q:VK} {us:List Value} {vs:List V} (F:FnOk X.prog X.w X.K X.mg X.base CX k f fd ps sp) (hr:Room k X.A) (hb:Binds X.K fd ps ds) (hd:Vals dvs ds) (hx:Passes CX X E)
  (I:Inv X pins σ H s) (r:Vals vs us) (h:sp (vs++dvs) H Q E):wpAny (model X.prog X.w) X.A (call (.ref f) us) (EP X pins σ Q) X.xe s:=by
 have r2:Vals (vs++dvs) (us++ds):=r.append hd
 have hl:(us++ds).length=ps.length:=by rw [← r2.length];exact F.len _ _ _ _ h
 refine wpAny_call (codeAny_mono (F.run X.A X.stack s H ⟨us,[]⟩ (us++ds) (vs++dvs) Q E hr I.env0 (hb s us I.kIn hl) r2 h) fun r s' hq=>?_)
 cases r with
 | error e=>exact hx pins σ H s e s' I hq
 | ok fl =>
  cases fl with
  | ret u=>exact I.after hq
  | next=>exact False.elim hq
  | brk=>exact False.elim hq
  | cont=>exact False.elim hq
theorem pe_call (F:FnOk X.prog X.w X.K X.mg X.base CX k f fd ps sp)(hr:Room k X.A)(hg:Gl X x)(hm:X.mg x=some (.ref f))(hk:PySem.W.keepIn X.K (.ref f)=true)(hb:Binds X.K fd ps ds)(hd:Vals dvs ds)(hx:Passes CX X E)
  (ha:PA X (e::es) t)(hdb:(x==("__debug__":Str))=false:=by decide)(he:starEach (e::es) X.env=(false,eval e X.env)::starEach es X.env:=by rfl)(hpl:(backTo pos (starEach es X.env)).any (·.1)=false:=by rfl) :
  PE X (.Call (.Name x p) (e::es) [] pos) (tCall sp dvs E t):=by
 intro pins s σ H Q I h
 refine wpAny_Call_Name_kw (ld_glob I hg hm ?_ hdb)
 refine PySem.W.callWith_K (h₀:=X.base) I.ok.mod.kin hk (thn (ha pos pins s σ H _ I h) fun us s1 ⟨vs,H1,I1,r,q⟩=>⟨I1.kIn,?_⟩) he hpl
 exact run_fn F hr hb hd hx I1 r q
theorem pe_meth {pl:Sem Bool}(he:PE X o ta)(c:Cls X.K C)(hm:Meth X.K C m f)(F:FnOk X.prog X.w X.K X.mg X.base CX k f fd ps sp)(hr:Room k X.A)(hb:Binds X.K fd ps ds)(hd:Vals dvs ds)(hx:Passes CX X E)(ha:PA X (e::es) t)
  (hst:starEach (e::es) X.env=(false,eval e X.env)::starEach es X.env:=by rfl)(hpl:(backTo pos (starEach es X.env)).any (·.1)=false:=by rfl)
  (ht:eval (.Call (.Attribute o m apos) (e::es) [] pos) X.env=(do
   let ov ← eval o X.env
   standAt apos.atName
   let (f,first) ← holding [ov] (getMethod ov m pl)
   callWith pos f first (backTo pos (starEach (e::es) X.env)) (backToKw pos (keywordEach [] X.env))):=by rfl) :
  PE X (.Call (.Attribute o m apos) (e::es) [] pos) (tMeth C m sp dvs E ta t):=by
 intro pins s σ H Q I h
 refine PySem.W.methodCall_KW (pl:=pl) (thn (he pins s σ H _ I h) fun u s1 ⟨x,H1,I1,rx,a,dx,fs,ex,ea,l,q⟩=>?_) ht
 subst ex
 obtain rfl:u=Value.ref a:=rx
 refine getmeth_ok I1 ea c hm l ?_
 refine PySem.W.callWith_K (first:=[.ref a]) (h₀:=X.base) I.ok.mod.kin hm.kp (thn (ha pos pins s1 σ H1 _ I1 q) fun us s2 ⟨vs,H2,I2,r,q2⟩=>⟨I2.kIn,?_⟩) hst hpl
 exact run_fn (us:=.ref a::us) (vs:=.ref a::vs) F hr hb hd hx I2 (.cons rfl r) q2
theorem pe_meth0 {pl:Sem Bool}(he:PE X o ta)(c:Cls X.K C)(hm:Meth X.K C m f)(F:FnOk X.prog X.w X.K X.mg X.base CX k f fd ps sp)(hr:Room k X.A)(hb:Binds X.K fd ps ds)(hd:Vals dvs ds)(hx:Passes CX X E)
  (ht:eval (.Call (.Attribute o m apos) [] [] pos) X.env=(do
   let ov ← eval o X.env
   standAt apos.atName
   let (f,first) ← holding [ov] (getMethod ov m pl)
   callWith pos f first (backTo pos (starEach [] X.env)) (backToKw pos (keywordEach [] X.env))):=by rfl) :
  PE X (.Call (.Attribute o m apos) [] [] pos) (tMeth C m sp dvs E ta tNil):=by
 intro pins s σ H Q I h
 refine PySem.W.methodCall_KW (pl:=pl) (thn (he pins s σ H _ I h) fun u s1 ⟨x,H1,I1,rx,a,dx,fs,ex,ea,l,q⟩=>?_) ht
 subst ex
 obtain rfl:u=Value.ref a:=rx
 refine getmeth_ok I1 ea c hm l ?_
 exact PySem.W.callWith_K0 (first:=[.ref a]) I1.kIn hm.kp (run_fn (us:=[.ref a]) (vs:=[.ref a]) F hr hb hd hx I1 (.cons rfl .nil) q)
structure Mk (K:PySem.W.Frag)(C f:Addr):Prop where
 makes:PySem.W.makesIn K C=true
 init:PySem.W.findIn K (.ref C) "__init__"=some (some (.ref f))
 fn:PySem.W.isFn K (.ref f)=true
 kp:PySem.W.keepIn K (.ref C)=true
theorem run_make {pins:List (Addr×Obj)}{σ:St}{H:Hp}{s:Shared}{Q:VK}{us:List Value}{vs:List V}(M:Mk X.K C f)(F:FnOk X.prog X.w X.K X.mg X.base CX k f fd ps sp)(hr:Room (k+1) X.A)(hb:Binds X.K fd ps ds)(hd:Vals dvs ds)
  (hx:Passes CX X E)(I:Inv X pins σ H s)(r:Vals vs us)
  (h:∀ x dx,H x=none->H dx=none->dx≠x->sp (.ref x::(vs++dvs)) (upd (upd H dx (.own x)) x (.ins C dx [])) (fun v H2=>v=.non/\Q (.ref x) H2) E) :
  wpAny (model X.prog X.w) X.A (call (.ref C) us) (EP X pins σ Q) X.xe s:=by
 have hq:=h (s.heap.objs.size+1) s.heap.objs.size (I.hok.fresh (Nat.le_succ _)) (I.hok.fresh (Nat.le_refl _)) (Nat.ne_of_lt (Nat.lt_succ_self _))
 have I2:=Inv.made (C:=C) I
 have r2:Vals (V.ref (s.heap.objs.size+1)::(vs++dvs)) (Value.ref (s.heap.objs.size+1)::(us++ds)):=.cons rfl (r.append hd)
 have hl:(Value.ref (s.heap.objs.size+1)::us++ds).length=ps.length:=by
  have e:=r2.length
  rw [F.len _ _ _ _ hq] at e
  exact e.symm
 refine wpAny_call (make_map (f:=f) I.kIn M.makes M.init (beq_iff_eq.mp M.fn) (codeAny_mono (F.run _ X.stack _ _ ⟨Value.ref (s.heap.objs.size+1)::us,[]⟩ (Value.ref (s.heap.objs.size+1)::(us++ds)) _ _ E (hr.make C us [])
  (I2.env0.make C us []) (hb _ (Value.ref (s.heap.objs.size+1)::us) I2.kIn hl) r2 hq) fun r s' hq'=>?_))
 cases r with
 | error e=>exact hx pins σ _ _ e s' I2 hq'
 | ok fl =>
  cases fl with
  | ret u =>
   obtain ⟨v,H',I3,rv,ev,q3⟩:=I2.after hq'
   subst ev
   exact ⟨rv,⟨V.ref (s.heap.objs.size+1),H',I3,rfl,q3⟩⟩
  | next=>exact False.elim hq'
  | brk=>exact False.elim hq'
  | cont=>exact False.elim hq'
theorem pe_make (M:Mk X.K C f)(F:FnOk X.prog X.w X.K X.mg X.base CX k f fd ps sp)(hr:Room (k+1) X.A)(hg:Gl X x)(hm:X.mg x=some (.ref C))(hb:Binds X.K fd ps ds)(hd:Vals dvs ds)(hx:Passes CX X E)
  (ha:PA X (e::es) t)(hdb:(x==("__debug__":Str))=false:=by decide)(he:starEach (e::es) X.env=(false,eval e X.env)::starEach es X.env:=by rfl)(hpl:(backTo pos (starEach es X.env)).any (·.1)=false:=by rfl) :
  PE X (.Call (.Name x p) (e::es) [] pos) (tMake C sp dvs E t):=by
 intro pins s σ H Q I h
 refine wpAny_Call_Name_kw (ld_glob I hg hm ?_ hdb)
 refine PySem.W.callWith_K (h₀:=X.base) I.ok.mod.kin M.kp (thn (ha pos pins s σ H _ I h) fun us s1 ⟨vs,H1,I1,r,q⟩=>⟨I1.kIn,?_⟩) he hpl
 exact run_make M F hr hb hd hx I1 r q
end
section
variable {X:Cx}{CX:CXT}{k:Nat}{f C:Addr}{fd:FuncData}{ps ks:List Str}{sp:Sp}{E:XK}{x m:Str}{p pos apos kpos:Pos}{e o:Expr}{es:List Expr}{kws:List Keyword}{te ta:TE}{t tk:TA}{nm:Option Str}
variable {g:List Value->List Value->List Value} {gV:List V->List V->List V}
end
structure FnScope (N P:List Str)(sc:Scope):Prop where
 kind:sc.kind=.function
 co:sc.isCoroutine=false
 gen:sc.isGenerator=false
 nd:N.Nodup
 pre:N.take P.length=P
 par:∀ x∈P,sc.names.lookup x=some .local∨sc.names.lookup x=some .cell
 nofree:∀ y∈sc.names,y.2≠.free
theorem bindL_out {kindOf:Str->Option NameKind}{x:Str}:∀ {binds:List (Str×Value)} {m:Str->Option Value},(∀ v,(x,v)∉binds)->bindL kindOf binds m x=m x
 | [],_,_=>rfl
 | (n,v)::r,m,h=>by
  unfold bindL
  rw [bindL_out fun w hw=>h w (List.mem_cons_of_mem _ hw)]
  split
  · have:x≠n:=by rintro rfl;exact h v List.mem_cons_self
    simp [this]
  · rfl
theorem bindC_out {kindOf:Str->Option NameKind}{x:Str}:∀ {binds:List (Str×Value)} {m:Str->Option Value},(∀ v,(x,v)∉binds)->bindC kindOf binds m x=m x
 | [],_,_=>rfl
 | (n,v)::r,m,h=>by
  unfold bindC
  rw [bindC_out fun w hw=>h w (List.mem_cons_of_mem _ hw)]
  split
  · rfl
  · have:x≠n:=by rintro rfl;exact h v List.mem_cons_self
    simp [this]
theorem bindL_get {kindOf:Str->Option NameKind}{x:Str}{v:Value}:∀ {P:List Str} {vs:List Value} {i:Nat} {m:Str->Option Value},P.Nodup->P[i]?=some x->vs[i]?=some v->kindOf x=some .local ->
  bindL kindOf (P.zip vs) m x=some v
 | [],_,_,_,_,h,_,_=>by simp at h
 | _::_,[],_,_,_,_,h,_=>by simp at h
 | p::P,w::vs,0,m,nd,h1,h2,hk=>by
  simp at h1 h2;subst h1;subst h2
  show bindL kindOf ((p,w)::P.zip vs) m p=_
  unfold bindL
  rw [bindL_out fun v hv=>(List.nodup_cons.mp nd).1 (List.of_mem_zip hv).1,if_pos hk]
  simp
 | p::P,w::vs,i+1,m,nd,h1,h2,hk=>by
  show bindL kindOf ((p,w)::P.zip vs) m x=_
  unfold bindL
  exact bindL_get (i:=i) (List.nodup_cons.mp nd).2 (by simpa using h1) (by simpa using h2) hk
theorem bindC_get {kindOf:Str->Option NameKind}{x:Str}{v:Value}:∀ {P:List Str} {vs:List Value} {i:Nat} {m:Str->Option Value},P.Nodup->P[i]?=some x->vs[i]?=some v->kindOf x≠some .local ->
  bindC kindOf (P.zip vs) m x=some v
 | [],_,_,_,_,h,_,_=>by simp at h
 | _::_,[],_,_,_,_,h,_=>by simp at h
 | p::P,w::vs,0,m,nd,h1,h2,hk=>by
  simp at h1 h2;subst h1;subst h2
  show bindC kindOf ((p,w)::P.zip vs) m p=_
  unfold bindC
  rw [bindC_out fun v hv=>(List.nodup_cons.mp nd).1 (List.of_mem_zip hv).1,if_neg hk]
  simp
 | p::P,w::vs,i+1,m,nd,h1,h2,hk=>by
  show bindC kindOf ((p,w)::P.zip vs) m x=_
  unfold bindC
  exact bindC_get (i:=i) (List.nodup_cons.mp nd).2 (by simpa using h1) (by simpa using h2) hk
def start (N:List Str)(vs:List V):St:=vs.map some++List.replicate (N.length - vs.length) none
def cxOf (CX:CXT)(P:Program)(w:World)(K:PySem.W.Frag)(mg:Str->Option Value)(base:Heap)(N:List Str)(qual:Str)(scope:Scope)(f:Addr)(cd:Value)(A:Around)(outer:List Env)(s:Shared)(H:Hp)(E:XK):Cx where
 prog:=P
 w:=w
 K:=K
 mg:=mg
 base:=base
 A:=A.deeper (envOfC qual scope s.heap.objs.size f cd)
 N:=N
 s_0:=s
 H_0:=H
 env:=envOfC qual scope s.heap.objs.size f cd
 outer:=outer
 stack:=envOfC qual scope s.heap.objs.size f cd::outer
 ex:=[]
 calm:=true
 fn:=fun _=>true
 pn:=[]
 xe:=fun e s'=>wpAny (model P w) (A.deeper (envOfC qual scope s.heap.objs.size f cd)) (leaving (envOfC qual scope s.heap.objs.size f cd) e) (fun _ s''=>CX outer H s E e s'') (fun e' s''=>CX outer H s E e' s'') s'
theorem cell_has {sc:Scope}{n:Nat}{x:Str}(h:sc.names.lookup x=some .cell):∃ c,(cellsFrom n sc.names []).lookup x=some c:=by
 have q:=PySem.W.cellsFrom_some sc.names n [] (.inl h)
 exact Option.isSome_iff_exists.mp q
theorem inv_start {CX:CXT}{P:Program}{w:World}{K:PySem.W.Frag}{mg:Str->Option Value}{base:Heap}{N ps:List Str}{qual:Str}{scope:Scope}{f:Addr}{cd:Value}{A:Around}{outer:List Env}{s s1:Shared}{H:Hp}{E:XK}{us:List Value}{vs:List V}
  (S:FnScope N ps scope)(hd:A.handled=none)(e0:Env0 P w K mg base A outer s H)(hl:vs.length=ps.length)(r:Vals vs us)
  (x:InCallC s s.heap.objs.size (bindL (envOfC qual scope s.heap.objs.size f cd).kindOf (ps.zip us) fun _=>none) (cellsFrom (s.heap.objs.size+1) scope.names []) (bindC (envOfC qual scope s.heap.objs.size f cd).kindOf (ps.zip us) fun _=>none) s1) :
  Inv (cxOf CX P w K mg base N qual scope f cd A outer s H E) [] (start N vs) H s1:=by
 have hpl:ps.length<=N.length:=by have:=congrArg List.length S.pre;rw [List.length_take] at this;omega
 obtain ⟨h1,tk,rfl,hk⟩:=x.done
 have noA:∀ b:Addr,b∉(cxOf CX P w K mg base N qual scope f cd A outer s H E).ex:=fun b z=>absurd (show b∈([]:List Addr) from z) (by simp)
 refine ⟨⟨e0.mod,S.kind,rfl,rfl,Nat.le_refl _,fun y z c h1 h2=>?_,fun y hy=>?_,fun y c _ h=>?_,fun _=>hd,Around.frames_deeper e0.frames,.inr ⟨rfl,rfl⟩,fun b z=>absurd z (noA b),e0.bs,e0.bsz,fun b _ _=>noA b,fun b z=>absurd z (noA b),e0.funs,e0.frf⟩,
  rfl,e0.bare,Un.kept hk,⟨_,x.toInCall.ns,fun i y v h1 h2 h3=>?_⟩,fun y c h=>⟨_,x.cell y c h⟩,e0.hok.fresh (Nat.le_refl _),fun y c h=>?_,fun p hp=>absurd (show p∈([]:List (Addr×Obj)) from hp) (by simp),e0.hok.kept hk,?_⟩
 · exact name_of_addr x.apart (PySem.mem_of_lookup h1) (PySem.mem_of_lookup h2)
 · have hy:scope.names.lookup y=some .cell∨scope.names.lookup y=some .free:=hy
   rcases hy with hy|hy
   · exact cell_has hy
   · exact absurd rfl (S.nofree _ (PySem.mem_of_lookup hy))
 · exact Nat.le_of_lt (x.above y c (PySem.mem_of_lookup h))
 · have hi:i < vs.length:=by
    unfold start at h2
    by_cases hi:i < vs.length
    · exact hi
    · rw [List.getElem?_append_right (by simpa using hi)] at h2
      rw [List.getElem?_replicate] at h2
      split at h2 <;> cases h2
   have ha:vs[i]?=some v:=by
    unfold start at h2
    rw [List.getElem?_append_left (by simpa using hi),List.getElem?_map] at h2
    cases e:vs[i]? with
    | none=>rw [e] at h2;cases h2
    | some a=>rw [e] at h2;cases h2;rfl
   obtain ⟨u,hu,rv⟩:=r.get ha
   have hp:ps[i]?=some y:=by
    rw [← S.pre,List.getElem?_take_of_lt (by omega)];exact h1
   have ndP:ps.Nodup:=by rw [← S.pre];exact S.nd.sublist (List.take_sublist _ _)
   refine ⟨u,rv,?_⟩
   rcases S.par y (List.mem_of_getElem? hp) with k|k
   · exact .inl ⟨k,bindL_get ndP hp hu k⟩
   · obtain ⟨c,e⟩:=cell_has (n:=s.heap.objs.size+1) k
     refine .inr ⟨.inl k,c,e,?_⟩
     have q:=x.cell y c e
     rw [bindC_get ndP hp hu (by show scope.names.lookup y≠_;rw [k];decide)] at q
     exact q
 · exact e0.hok.fresh (Nat.le_of_lt (x.above y c (PySem.mem_of_lookup h)))
 · unfold start
   show _=N.length
   rw [List.length_append,List.length_map,List.length_replicate]
   omega
theorem fn_of0 {CX:CXT}{P:Program}{w:World}{K:PySem.W.Frag}{mg:Str->Option Value}{base:Heap}{k:Nat}{f:Addr}{name qual:Str}{params:Arguments}{body:List Stmt}{scope:Scope}{dV kV doc pm cdv ct oc:Value}{an od:Option Addr}
  {osl:Array (Option Value)}{N ps:List Str}{sp:Sp}(lk:K.lookup f=some ⟨oc,od,.func (PySem.W.fnOf name qual params body scope dV kV doc pm an cdv ct),osl⟩)(hcd:PySem.W.codeIn K cdv qual=true)(S:FnScope N ps scope)
  (len:∀ vs H Q E,sp vs H Q E->vs.length=ps.length)
  (hbody:∀ (A:Around) (outer:List Env) (s:Shared) (H:Hp) (vs:List V) (Q:VK) (E:XK),Room k (A.deeper (envOfC qual scope s.heap.objs.size f cdv))->sp vs H Q E ->
   ∃ t,PSs0 (cxOf CX P w K mg base N qual scope f cdv A outer s H E) body t/\t { nx:=fun _ H'=>Q .non H',rt:=Q } (start N vs) H) :
  FnOk P w K mg base CX (k+1) f (PySem.W.fnOf name qual params body scope dV kV doc pm an cdv ct) ps sp:=by
 refine ⟨len,fun A outer s H args us vs Q E hr e0 hb r hsp=>?_⟩
 have hl:=len _ _ _ _ hsp
 have KX:K.In s.heap:=e0.mod.kin.keeps fun b o e=>(e0.bs b o e).1
 have lim:s.heap.NoLimit:=e0.mod.nolimit.keeps fun b o e=>(e0.bs b o e).1
 have hkind:∀ y∈ps.zip us,scope.names.lookup y.1=some .local∨(scope.names.lookup y.1=some .cell/\((cellsFrom (s.heap.objs.size+1) scope.names []).lookup y.1).isSome=true):=fun ⟨n,v⟩ hy=>by
  rcases S.par n (List.of_mem_zip hy).1 with q|q
  · exact .inl q
  · exact .inr ⟨q,PySem.W.cellsFrom_some _ _ _ (.inl q)⟩
 refine codeAny_call_function hr.depth (KX _ _ lk) rfl S.co S.gen rfl (PySem.W.codeRec_of KX hcd) (hb _ _ _ _ ?_)
 refine wpAny_newFunctionEnv_cells S.kind hkind fun env he s1 x=>?_
 subst he
 refine ⟨lim.keeps x.toInCall.keep,codeAny_func ?_⟩
 obtain ⟨t,ht,hq⟩:=hbody A outer s H vs Q E (hr.deeper _) hsp
 have I:Inv (cxOf CX P w K mg base N qual scope f cdv A outer s H E) [] (start N vs) H s1:=inv_start S hr.hd e0 hl r x
 refine wpAny_mono (ht s1 (start N vs) H _ I hq) (fun fl s' hs=>?_) fun e s' hs=>hs
 have fin:∀ {σ':St} {H':Hp} {v:V} {u:Value},Inv (cxOf CX P w K mg base N qual scope f cdv A outer s H E) [] σ' H' s'->RelV v u->Q v H'->CE outer P w H s Q u s' :=
  fun {σ' H' v u} J rv q=>⟨v,H',J.os,J.bare,J.base,J.hok,rv,q⟩
 cases fl with
 | ret u =>
  obtain ⟨v,σ',H',J,rv,q⟩:=hs
  exact fin J rv q
 | next =>
  obtain ⟨σ',H',J,q⟩:=hs
  exact fin (v:=V.non) (u:=Value.none) J rfl q
 | brk =>
  obtain ⟨_,_,_,q⟩:=hs
  exact False.elim q
 | cont =>
  obtain ⟨_,_,_,q⟩:=hs
  exact False.elim q
theorem fn_of {CX:CXT}{P:Program}{w:World}{K:PySem.W.Frag}{mg:Str->Option Value}{base:Heap}{k:Nat}{f:Addr}{name qual:Str}{params:Arguments}{body:List Stmt}{scope:Scope}{dV kV doc pm cdv ct oc:Value}{an od:Option Addr}
  {osl:Array (Option Value)}{N ps:List Str}{sp:Sp}(lk:K.lookup f=some ⟨oc,od,.func (PySem.W.fnOf name qual params body scope dV kV doc pm an cdv ct),osl⟩)(hcd:PySem.W.codeIn K cdv qual=true)(S:FnScope N ps scope)
  (len:∀ vs H Q E,sp vs H Q E->vs.length=ps.length)
  (hbody:∀ (A:Around) (outer:List Env) (s:Shared) (H:Hp) (vs:List V) (Q:VK) (E:XK),Room k (A.deeper (envOfC qual scope s.heap.objs.size f cdv))->sp vs H Q E ->
   ∃ t,PSs (cxOf CX P w K mg base N qual scope f cdv A outer s H E) body t/\t { nx:=fun _ H'=>Q .non H',rt:=Q } (start N vs) H) :
  FnOk P w K mg base CX (k+1) f (PySem.W.fnOf name qual params body scope dV kV doc pm an cdv ct) ps sp:=fn_of0 lk hcd S len fun A outer s H vs Q E hr hs=>let ⟨t,ht,hq⟩:=hbody A outer s H vs Q E hr hs;⟨t,fun s σ H D=>ht [] s σ H D,hq⟩
section
variable {X:Cx}{x:Str}{p pos:Pos}{e:Expr}{es:List Expr}{t:TA}{id T:String}{r:List V->Hp->VK->Prop}
def tCB (r:List V->Hp->VK->Prop) (t:TA):TE:=fun σ H Q=>t σ H fun vs H1=>r vs H1 Q
theorem pe_callB (hc:CallR X (.builtin id) r)(hg:Gl X x)(hm:X.mg x=none)(hv:bootBuiltins x=some (.builtin id))(ha:PA X (e::es) t)(hn:x≠"__name__":=by decide)(hdb:(x==("__debug__":Str))=false:=by decide)
  (he:starEach (e::es) X.env=(false,eval e X.env)::starEach es X.env:=by rfl)(hpl:(backTo pos (starEach es X.env)).any (·.1)=false:=by rfl):PE X (.Call (.Name x p) (e::es) [] pos) (tCB r t):=by
 intro pins s σ H Q I h
 refine wpAny_Call_Name_kw (ld_blt I hg hm hv ?_ hn hdb)
 exact PyProof.Rows.callWith_builtin1 (thn (ha pos pins s σ H _ I h) fun us s1 ⟨vs,H1,I1,r1,q1⟩=>hc pins s1 σ H1 vs us Q I1 r1 q1) he hpl
theorem pe_callTy (hc:CallR X (.type T) r)(hg:Gl X x)(hm:X.mg x=none)(hv:bootBuiltins x=some (.type T))(ha:PA X (e::es) t)(hn:x≠"__name__":=by decide)(hdb:(x==("__debug__":Str))=false:=by decide)
  (he:starEach (e::es) X.env=(false,eval e X.env)::starEach es X.env:=by rfl)(hpl:(backTo pos (starEach es X.env)).any (·.1)=false:=by rfl):PE X (.Call (.Name x p) (e::es) [] pos) (tCB r t):=by
 intro pins s σ H Q I h
 refine wpAny_Call_Name_kw (ld_blt I hg hm hv ?_ hn hdb)
 exact PyProof.Rows.callWith_type1 (thn (ha pos pins s σ H _ I h) fun us s1 ⟨vs,H1,I1,r1,q1⟩=>hc pins s1 σ H1 vs us Q I1 r1 q1) he hpl
end
end L2
namespace HT
open PySem PyProof.Rows
section
open PySem.SeqAt
open PySem.AutoSeq1 (wpAny_loadPart')
open PySem.MeetsSeq PySem.MeetsSeq2 PySem.MeetsSeq3
end
section
variable {prog:Program}{w:World}{A:Around}{E:Value->Shared->Prop}{s:Shared}
theorem cat_tup {t b:Addr} {vs ws:List Value} {Q:Value->Shared->Prop} (ht:IsTup s.heap t vs.toArray) (hb:IsTup s.heap b ws.toArray) (hv:vs≠[])
  (h1:ws=[]->Q (.ref t) s) (h2:ws≠[]->Q (.ref s.heap.objs.size) { s with heap:=s.heap.push { cls:=.type "tuple",data:=.seq (vs++ws).toArray } })
  (hsz:vs.length+ws.length<=sizeLine):wpAny (model prog w) A (binaryOp .Add (.ref t) (.ref b)) Q E s:=by
 obtain ⟨⟨cls,dd,data,sl⟩,ho,hc,n,hd⟩:=id ht
 obtain ⟨⟨cls2,dd2,data2,sl2⟩,ho2,hc2,n2,hd2⟩:=id hb
 simp only at hc hd hc2 hd2
 subst hc hd hc2 hd2
 have e:vs.toArray++ws.toArray=(vs++ws).toArray:=by simp
 by_cases hw:ws=[]
 · exact concat_meets ⟨_,ho,rfl⟩ ⟨_,ho2,rfl⟩ noFill_tuple_add seq_tuple_add PySem.F.slot_tuple_add PySem.F.entry_tuple_add (PySem.F.args_tuple_add_2 _ _)
    (tuple_addW1 t b vs.toArray ws.toArray n n2 dd dd2 sl sl2 (by simpa using hv) (by simp [hw])) ⟨ho,ho2,h1 hw⟩
 · refine concat_meets ⟨_,ho,rfl⟩ ⟨_,ho2,rfl⟩ noFill_tuple_add seq_tuple_add PySem.F.slot_tuple_add PySem.F.entry_tuple_add (PySem.F.args_tuple_add_2 _ _)
    (tuple_addW2 t b vs.toArray ws.toArray n n2 dd dd2 sl sl2 (by simpa using hv) (by simpa using hw) (by rw [List.size_toArray,List.size_toArray];exact hsz)) ⟨ho,ho2,?_⟩
   rw [e]
   exact h2 hw
def sIx (n d:Nat):Option Int->Nat
 | none=>d
 | some v=>if v < 0 then (v+(n:Int)).toNat else min v.toNat n
theorem sIx_none (n d:Nat):sIx n d none=d:=rfl
theorem sIx_nat (n d k:Nat):sIx n d (some (k:Int))=min k n:=by
 show (if (k:Int) < 0 then ((k:Int)+(n:Int)).toNat else min (k:Int).toNat n)=min k n
 rw [if_neg (by omega),Int.toNat_natCast]
theorem sIx_le (n d:Nat)(hd:d<=n)(o:Option Int):sIx n d o<=n:=by
 cases o with
 | none=>exact hd
 | some v =>
  show (if v < 0 then (v+(n:Int)).toNat else min v.toNat n)<=n
  by_cases hv:v < 0
  · rw [if_pos hv];omega
  · rw [if_neg hv];exact Nat.min_le_right _ _
end
end HT
namespace L2
open PySem PySem.Spec PyProof.Rows
abbrev TO:=St->Hp->(Option Int->Hp->Prop)->Prop
def PO (X:Cx)(e:Option Expr)(t:TO):Prop :=
 ∀ (pins:List (Addr×Obj)) (s:Shared) (σ:St) (H:Hp) (Q:Option Int->Hp->Prop),Inv X pins σ H s->t σ H Q ->
  wpAny (model X.prog X.w) X.A (evalPart e X.env) (fun u s'=>∃ o H',Inv X pins σ H' s'/\IsPart u o/\Q o H') X.xe s
def tNoPart:TO:=fun _ H Q=>Q none H
def tPart (t:TE):TO:=fun σ H Q=>t σ H fun x H1=>∃ i,x=.int i/\Q (some i) H1
section
variable {X:Cx}{e:Expr}{te:TE}{lo hi:Option Expr}{tl th:TO}{pos p2:Pos}
theorem po_none:PO X none tNoPart:=by
 intro pins s σ H Q I h
 rw [evalPart_none]
 exact wpAny_pure ⟨none,H,I,.none,h⟩
theorem po_some (h:PE X e te):PO X (some e) (tPart te):=by
 intro pins s σ H Q I hw
 rw [evalPart_some]
 refine thn (h pins s σ H _ I hw) fun u s1 ⟨x,H1,I1,r1,q1⟩=>?_
 obtain ⟨i,rfl,q⟩:=q1
 obtain ⟨t,rfl⟩:=r1
 exact ⟨some i,H1,I1,.int i t,q⟩
def SlR (X:Cx)(r:V->Option Int->Option Int->Hp->VK->Prop):Prop :=
 ∀ (pins:List (Addr×Obj)) (s:Shared) (σ:St) (H:Hp) (x:V) (v vl vu:Value) (lo hi:Option Int) (sl:Addr) (Q:VK),Inv X pins σ H s->RelV x v->s.heap.IsSliceOf sl vl vu .none->IsPart vl lo->IsPart vu hi->r x lo hi H Q ->
  ∃ T id,typeLookup (.type T) "__getitem__"=pure (some (.builtin id))/\s.TypeIs v T/\wpAny (model X.prog X.w) X.A (getItem v (.ref sl)) (EP X pins σ Q) X.xe s
def tSl (r:V->Option Int->Option Int->Hp->VK->Prop)(te:TE)(tl th:TO):TE:=fun σ H Q=>te σ H fun x H1=>tl σ H1 fun l H2=>th σ H2 fun u H3=>r x l u H3 Q
theorem pe_slice {r:V->Option Int->Option Int->Hp->VK->Prop}(hr:SlR X r)(he:PE X e te)(hl:PO X lo tl)(hu:PO X hi th):PE X (.Subscript e (.Slice lo hi none p2) pos) (tSl r te tl th):=by
 intro pins s σ H Q I h
 refine Subscript_ (thn (he pins s σ H _ I h) fun v s1 ⟨x,H1,I1,r1,q1⟩=>?_)
 refine wpAny_Slice (thn (hl pins s1 σ H1 _ I1 q1) fun vl s2 ⟨l,H2,I2,pl,q2⟩=>thn (hu pins s2 σ H2 _ I2 q2) fun vu s3 ⟨u,H3,I3,pu,q3⟩=>?_)
 rw [evalPart_none]
 refine wpAny_pure ?_
 have I4:Inv X pins σ H3 { s3 with heap:=s3.heap.push { cls:=.type "slice",data:=.fields #[vl,vu,.none] } }:=I3.kept (t':=s3.toks) fun b ob q=>Heap.get?_push_of_some _ q
 obtain ⟨T,id,hT,ht,hg⟩:=hr pins { s3 with heap:=s3.heap.push { cls:=.type "slice",data:=.fields #[vl,vu,.none] } } σ H3 x v vl vu l u s3.heap.objs.size Q I4 r1 (Heap.IsSliceOf.new ..) pl pu q3
 show wpAny (model X.prog X.w) X.A (subscriptTail e (.Slice lo hi none p2) v (.ref s3.heap.objs.size)) (EP X pins σ Q) X.xe { s3 with heap:=s3.heap.push { cls:=.type "slice",data:=.fields #[vl,vu,.none] } }
 exact tail_any (ops:=[.ref s3.heap.objs.size,v]) ht hT hg (by with_unfolding_all rfl)
def cutV (xs:List V)(lo hi:Option Int):List V:=(xs.drop (HT.sIx xs.length 0 lo)).take (HT.sIx xs.length xs.length hi - HT.sIx xs.length 0 lo)
theorem cutV_length (xs:List V)(lo hi:Option Int):(cutV xs lo hi).length<=xs.length:=by
 unfold cutV
 rw [List.length_take,List.length_drop]
 omega
def rCatT (K:PySem.W.Frag):R2:=fun x y H Q=>∃ a b xs ys,x=.ref a/\y=.ref b/\SqT K H a xs/\SqT K H b ys/\xs≠[]/\xs.length+ys.length<=sizeLine /\
 (ys=[]->Q (.ref a) H)/\(ys≠[]->∀ p,H p=none->Q (.ref p) (upd H p (.tup (xs++ys))))
theorem Vals.nil_iff {xs:List V}{us:List Value}(r:Vals xs us):us=[]↔xs=[]:=by
 cases r with
 | nil=>simp
 | cons _ _=>simp
theorem op_catT:OpR X (binaryOp .Add) (rCatT X.K):=by
 intro pins s σ H x y v u Q I rx ry h
 obtain ⟨a,b,xs,ys,rfl,rfl,ha,hb,hx,hz,q1,q2⟩:=h
 cases rx
 cases ry
 obtain ⟨its,r1,p1,_⟩:=I.tuple ha
 obtain ⟨its2,r2,p2,_⟩:=I.tuple hb
 refine HT.cat_tup p1 p2 (fun z=>hx (r1.nil_iff.mp z)) (fun z=>⟨.ref a,H,I,rfl,q1 (r2.nil_iff.mp z)⟩) (fun z=>?_) (by rw [← r1.length,← r2.length];exact hz)
 refine ⟨.ref s.heap.objs.size,_,I.laid (t':=s.toks) (o:=.tup (xs++ys)) (fun b ob q=>Heap.get?_push_of_some _ q) (Nat.le_refl _) ?_,rfl,q2 (fun w=>z (r2.nil_iff.mpr w)) _ (I.hok.fresh (Nat.le_refl _))⟩
 exact ⟨by rw [List.length_append];exact hz,_,r1.append r2,IsTup.new _ _⟩
end
def ixN (n:Nat)(i:Int):Option Nat:=if 0<=i then (if i < n then some i.toNat else none) else if -(n:Int)<=i then some (i+n).toNat else none
def atI {α:Type}(xs:List α)(i:Int):Option α:=(ixN xs.length i).bind fun j=>xs[j]?
theorem ixN_seq {n:Nat}{i:Int}{j:Nat}(h:ixN n i=some j):seqIndex? i n=some j/\j < n/\-(n:Int)<=i/\i < n:=by
 unfold ixN at h
 by_cases h0:0<=i
 · rw [if_pos h0] at h
   by_cases h1:i < n
   · rw [if_pos h1] at h
     have e:i.toNat=j:=Option.some.inj h
     exact ⟨by rw [seqIndex_of h0 h1,e],by omega,by omega,h1⟩
   · rw [if_neg h1] at h;cases h
 · rw [if_neg h0] at h
   by_cases h1:-(n:Int)<=i
   · rw [if_pos h1] at h
     have e:(i+n).toNat=j:=Option.some.inj h
     exact ⟨by rw [seqIndex_neg (by omega) h1,e],by omega,h1,by omega⟩
   · rw [if_neg h1] at h;cases h
theorem atI_get {α:Type}{xs:List α}{i:Int}{v:α}(h:atI xs i=some v):∃ j,seqIndex? i xs.length=some j/\xs[j]?=some v/\j < xs.length/\-(xs.length:Int)<=i/\i < xs.length:=by
 unfold atI at h
 cases e:ixN xs.length i with
 | none=>rw [e] at h;cases h
 | some j =>
  rw [e] at h
  obtain ⟨h1,h2,h3,h4⟩:=ixN_seq e
  exact ⟨j,h1,h,h2,h3,h4⟩
theorem atI_nat {α:Type}{xs:List α}{j:Nat}{v:α}(h:xs[j]?=some v):atI xs (j:Int)=some v:=by
 have hj:j < xs.length:=(List.getElem?_eq_some_iff.mp h).1
 have e:ixN xs.length (j:Int)=some j:=by
  unfold ixN
  rw [if_pos (by omega),if_pos (by omega)];simp
 unfold atI;rw [e];exact h
def PlainIx (b:Expr):Prop:=∀ o i,subscripted b false o i=operate [o,i] (getItem o i)
def IxR (X:Cx)(r:R2):Prop :=
 ∀ (value slice:Expr) (pins:List (Addr×Obj)) (s:Shared) (σ:St) (H:Hp) (x y:V) (v u:Value) (Q:VK),Inv X pins σ H s->RelV x v->RelV y u->r x y H Q ->
  subscripted slice false v u=operate [v,u] (getItem v u)->wpAny (model X.prog X.w) X.A (subscriptTail value slice v u) (EP X pins σ Q) X.xe s
def MtR (X:Cx)(id:String)(r:V->List V->Hp->VK->Prop):Prop :=
 ∀ (pins:List (Addr×Obj)) (s:Shared) (σ:St) (H:Hp) (x:V) (xs:List V) (v:Value) (us:List Value) (Q:VK),Inv X pins σ H s->RelV x v->Vals xs us->r x xs H Q ->
  wpAny (model X.prog X.w) X.A (call (.builtin id) (v::us)) (EP X pins σ Q) X.xe s
section
variable {X:Cx}{a b:Expr}{ta tb:TE}{pos:Pos}
theorem pe_ix {r:R2} (hr:IxR X r) (ha:PE X a ta) (hb:PE X b tb) (hs:PlainIx b):PE X (.Subscript a b pos) (tOp r ta tb):=by
 intro pins s σ H Q I h
 exact Subscript_ (binT ha hb I h fun v u s2 x y H2 I2 rx ry q=>hr a b pins s2 σ H2 x y v u Q I2 rx ry q (hs _ _))
def rIxL (K:PySem.W.Frag):R2:=fun x y H Q=>∃ p xs i v,x=.ref p/\y=.int i/\SqL K H p xs/\atI xs i=some v/\Q v H
def rIxT (K:PySem.W.Frag):R2:=fun x y H Q=>∃ p xs i v,x=.ref p/\y=.int i/\SqT K H p xs/\atI xs i=some v/\Q v H
def rIxS:R2:=fun x y H Q=>∃ z i c,x=.str z/\y=.int i/\z.length<=sizeLine/\atI z.cps.toList i=some c/\Q (.str ⟨#[c]⟩) H
theorem ix_list:IxR X (rIxL X.K):=by
 intro value slice pins s σ H x y v u Q I rx ry h hs
 obtain ⟨p,xs,i,z,rfl,rfl,hq,he,q⟩:=h
 cases rx
 obtain ⟨t,rfl⟩:=ry
 obtain ⟨its,r,pl,hz⟩:=I.list hq
 obtain ⟨j,h1,h2,h3,h4,h5⟩:=atI_get he
 obtain ⟨w,ew,rw'⟩:=r.get h2
 have hl:=r.length
 have hn:=line63
 have fin:EP X pins σ Q w s:=⟨z,H,I,rw',q⟩
 by_cases h0:0<=i
 · have hj:i.toNat=j:=by
    rw [seqIndex_of h0 h5] at h1
    exact Option.some.inj h1
   exact item_listR pl.isList h0 (by omega) (by rw [hj];simpa using ew) fin hs
 · have hj:(i+(its.toArray.size:Int)).toNat=j:=by
    rw [seqIndex_neg (by omega) h4] at h1
    rw [List.size_toArray,← hl]
    exact Option.some.inj h1
   exact subscriptTail_builtinR (x:=w) pl.isList.typeIs slot_list_getitem.lookup
    (wpAny_getItem_list_neg (Q:=fun r s'=>r=w/\EP X pins σ Q r s') pl.isList (by omega) (by rw [List.size_toArray] <;> omega) (by omega) (by rw [hj];simpa using ew) ⟨rfl,fin⟩) hs
theorem ix_tup:IxR X (rIxT X.K):=by
 intro value slice pins s σ H x y v u Q I rx ry h hs
 obtain ⟨p,xs,i,z,rfl,rfl,hq,he,q⟩:=h
 cases rx
 obtain ⟨t,rfl⟩:=ry
 obtain ⟨its,r,pl,hz⟩:=I.tuple hq
 obtain ⟨j,h1,h2,h3,h4,h5⟩:=atI_get he
 obtain ⟨w,ew,rw'⟩:=r.get h2
 have hl:=r.length
 have hn:=line63
 have fin:EP X pins σ Q w s:=⟨z,H,I,rw',q⟩
 exact subscriptTail_builtinR (x:=w) pl.typeIs slot_tuple_getitem.lookup
  (getItem_tuple (j:=j) (Q:=fun r s'=>r=w/\EP X pins σ Q r s') pl (by omega) (by omega) (by rw [List.size_toArray,← hl];exact h1) (by simpa using ew) ⟨rfl,fin⟩) hs
theorem ix_str:IxR X rIxS:=by
 intro value slice pins s σ H x y v u Q I rx ry h hs
 obtain ⟨z,i,c,rfl,rfl,hz,he,q⟩:=h
 obtain ⟨t,rfl⟩:=rx
 obtain ⟨t',rfl⟩:=ry
 obtain ⟨j,h1,h2,h3,h4,h5⟩:=atI_get he
 have hl:z.cps.toList.length=z.length:=by simp [Str.length]
 rw [hl] at h1 h4 h5
 have hn:=line63
 exact tail_any (typeIs_str s z t) slot_str_getitem.lookup (getItem_str (c:=c) (by
  have e1:decide (i < -(2 ^ 63:Int))=false:=decide_eq_false (by omega)
  have e2:decide (i ≥ 2 ^ 63)=false:=decide_eq_false (by omega)
  rw [e1,e2,Bool.or_false]) (by rw [h1];simpa using h2) ⟨.str ⟨#[c]⟩,H,I.tok _,⟨_,rfl⟩,q⟩) hs
theorem mapSeq_set (its:List Value)(n j:Nat)(u:Value):Obj.mapSeq (·.setIfInBounds j u) { cls:=.type "list",data:=.seq its.toArray n }={ cls:=.type "list",data:=.seq (its.set j u).toArray n }:=by
 simp [Obj.mapSeq]
theorem Inv.lst {pins:List (Addr×Obj)}{σ:St}{H:Hp}{s:Shared}{p:Addr}{xs:List V}(I:Inv X pins σ H s)(h:H p=some (.lst xs)) :
  ∃ (its:List Value) (n:Nat),Vals xs its/\s.heap.get? p=some { cls:=.type "list",data:=.seq its.toArray n }/\xs.length<=sizeLine:=by
 obtain ⟨z,its,n,r,e⟩:=I.hok p _ h
 exact ⟨its,n,r,e,z⟩
theorem Inv.lstUpd {pins:List (Addr×Obj)}{σ:St}{H:Hp}{s:Shared}{p:Addr}{xs ys:List V}{its its':List Value}{n n':Nat}{f:Obj->Obj}(I:Inv X pins σ H s)(h:H p=some (.lst xs))
  (ho:s.heap.get? p=some { cls:=.type "list",data:=.seq its.toArray n })(hf:f { cls:=.type "list",data:=.seq its.toArray n }={ cls:=.type "list",data:=.seq its'.toArray n' })(r:Vals ys its')(hz:ys.length<=sizeLine)(t:Nat) :
  Inv X pins σ (upd H p (.lst ys)) { s with heap:=s.heap.update p f,toks:=t }:=by
 have e:(s.heap.update p f).get? p=some { cls:=.type "list",data:=.seq its'.toArray n' }:=by
  rw [Heap.get?_update_self f ho (by rw [hf] <;> rfl),hf]
 refine I.write (x:=p) (e:=p) (by rw [h];trivial) (.inl rfl) (fun b u hb q=>(Heap.get?_update_other _ _ (Ne.symm hb)).trans q) ⟨_,e⟩ ?_
 exact ⟨hz,its',n',r,e⟩
def rSetL:V->V->V->Hp->(Hp->Prop)->Prop:=fun o i v H Q=>∃ p xs k j,o=.ref p/\i=.int k/\H p=some (.lst xs)/\ixN xs.length k=some j/\Q (upd H p (.lst (xs.set j v)))
theorem set_list:PSet X rSetL:=by
 intro pins s σ H o i v ov iv u Q I ro ri rv h
 obtain ⟨p,xs,k,j,rfl,rfl,hp,hj,q⟩:=h
 cases ro
 obtain ⟨t,rfl⟩:=ri
 obtain ⟨its,n,r,ho,hz⟩:=I.lst hp
 obtain ⟨h1,h2,h3,h4⟩:=ixN_seq hj
 have hl:=r.length
 have hn:=line63
 have I':Inv X pins σ (upd H p (.lst (xs.set j v))) { s with heap:=s.heap.update p (Obj.mapSeq (·.setIfInBounds j u)) } :=
  I.lstUpd hp ho (mapSeq_set its n j u) (r.set rv j) (by rw [List.length_set];exact hz) s.toks
 by_cases h0:0<=k
 · have hk:k.toNat=j:=by
    rw [seqIndex_of h0 h4] at h1
    exact Option.some.inj h1
   exact PySem.W.ki_setAt ho h0 (by omega) (by rw [List.size_toArray,← hl];exact h4) (by rw [hk];exact ⟨_,I',q⟩)
 · have hk:(k+(its.toArray.size:Int)).toNat=j:=by
    rw [seqIndex_neg (by omega) h3] at h1
    rw [List.size_toArray,← hl]
    exact Option.some.inj h1
   exact PySem.W.ki_setBack ho (by omega) (by rw [List.size_toArray,← hl];exact h3) (by omega) (by rw [hk];exact ⟨_,I',q⟩)
theorem slice_bounds (lo hi:Option Int)(n:Nat):(sliceBounds lo hi none n).1=((HT.sIx n 0 lo:Nat):Int)/\(sliceBounds lo hi none n).2.1=((HT.sIx n n hi:Nat):Int)/\(sliceBounds lo hi none n).2.2=1:=by
 refine ⟨?_,?_,rfl⟩
 · cases lo with
   | none=>simp [sliceBounds,HT.sIx]
   | some i =>
    simp only [sliceBounds,HT.sIx,Option.getD_none,show (1:Int) > 0 by decide,if_true]
    by_cases h:i < 0
    · simp only [h,if_true] <;> omega
    · simp only [h,if_false] <;> omega
 · cases hi with
   | none=>simp [sliceBounds,HT.sIx]
   | some i =>
    simp only [sliceBounds,HT.sIx,Option.getD_none,show (1:Int) > 0 by decide,if_true]
    by_cases h:i < 0
    · simp only [h,if_true] <;> omega
    · simp only [h,if_false] <;> omega
theorem slicePick_cut (its:List Value)(lo hi:Option Int):slicePick its.toArray lo hi none=((its.drop (HT.sIx its.length 0 lo)).take (HT.sIx its.length its.length hi - HT.sIx its.length 0 lo)).toArray:=by
 obtain ⟨h1,h2,h3⟩:=slice_bounds lo hi its.toArray.size
 unfold slicePick
 rw [h1,h2,h3]
 simp only [sliceRange_one,pick_run,List.size_toArray] <;> rfl
def rSlL (K:PySem.W.Frag):V->Option Int->Option Int->Hp->VK->Prop:=fun x lo hi H Q=>∃ a xs,x=.ref a/\SqL K H a xs/\∀ p,H p=none->Q (.ref p) (upd H p (.lst (cutV xs lo hi)))
theorem sl_list:SlR X (rSlL X.K):=by
 intro pins s σ H x v vl vu lo hi sl Q I rx hs pl pu h
 obtain ⟨a,xs,rfl,hx,q⟩:=h
 cases rx
 obtain ⟨its,r,ht,hz⟩:=I.list hx
 have hlen:=r.length
 refine ⟨"list",_,slot_list_getitem.lookup,ht.isList.typeIs,?_⟩
 refine wpAny_getItem_list_slice ht.isList hs pl pu .none (by simp) ?_ (by rw [List.size_toArray] <;> omega)
 rw [slicePick_cut,← hlen]
 refine ⟨.ref s.heap.objs.size,_,I.laid (t':=s.toks) (o:=.lst (cutV xs lo hi)) (fun b ob q=>Heap.get?_push_of_some _ q) (Nat.le_refl _) ?_,rfl,q _ (I.hok.fresh (Nat.le_refl _))⟩
 exact ⟨Nat.le_trans (cutV_length xs lo hi) hz,_,0,(r.drop (HT.sIx xs.length 0 lo)).take (HT.sIx xs.length xs.length hi - HT.sIx xs.length 0 lo),Heap.get?_push_size _ rfl⟩
def flatV:V->Bool
 | .non=>true
 | .bl _=>true
 | .int _=>true
 | .str _=>true
 | _=>false
def eqV:V->V->Bool
 | .non,.non=>true
 | .bl a,.bl b=>a==b
 | .bl a,.int b=>(if a then 1 else 0)==b
 | .int a,.bl b=>a==(if b then 1 else 0)
 | .int a,.int b=>a==b
 | .str a,.str b=>a==b
 | _,_=>false
theorem eqAt_V {A:Around}{s:Shared}{y x:V}{u v:Value}(ry:RelV y u)(rx:RelV x v)(fy:flatV y=true)(fx:flatV x=true):SeqAt.EqAt A s u v (eqV y x):=by
 cases y with
 | non =>
  cases ry
  cases x with
  | non=>cases rx;exact SeqAt.EqAt.same _
  | bl b=>cases rx;exact SeqAt.EqAt.none_bool b
  | int b=>obtain ⟨t,rfl⟩:=rx;exact SeqAt.EqAt.none_int b t
  | str b=>obtain ⟨t,rfl⟩:=rx;exact SeqAt.EqAt.none_str b t
  | _=>exact absurd (show false=true from fx) Bool.false_ne_true
 | bl a =>
  cases ry
  cases x with
  | non=>cases rx;exact SeqAt.EqAt.bool_none a
  | bl b=>cases rx;exact SeqAt.EqAt.bool_bool a b
  | int b=>obtain ⟨t,rfl⟩:=rx;exact SeqAt.EqAt.bool_int a b t
  | str b=>obtain ⟨t,rfl⟩:=rx;exact SeqAt.EqAt.bool_str a b t
  | _=>exact absurd (show false=true from fx) Bool.false_ne_true
 | int a =>
  obtain ⟨t',rfl⟩:=ry
  cases x with
  | non=>cases rx;exact SeqAt.EqAt.int_none a t'
  | bl b=>cases rx;exact SeqAt.EqAt.int_bool a t' b
  | int b=>obtain ⟨t,rfl⟩:=rx;exact SeqAt.EqAt.int_int a t' b t
  | str b=>obtain ⟨t,rfl⟩:=rx;exact SeqAt.EqAt.int_str a t' b t
  | _=>exact absurd (show false=true from fx) Bool.false_ne_true
 | str a =>
  obtain ⟨t',rfl⟩:=ry
  cases x with
  | non=>cases rx;exact SeqAt.EqAt.str_none a t'
  | bl b=>cases rx;exact SeqAt.EqAt.str_bool a t' b
  | int b=>obtain ⟨t,rfl⟩:=rx;exact SeqAt.EqAt.str_int a t' b t
  | str b=>obtain ⟨t,rfl⟩:=rx;exact SeqAt.EqAt.str_str a t' b t
  | _=>exact absurd (show false=true from fx) Bool.false_ne_true
 | _=>exact absurd (show false=true from fy) Bool.false_ne_true
def eqU (x:V)(u:Value):Bool:=match u with
 | .none=>eqV .non x
 | .bool b=>eqV (.bl b) x
 | .int i _=>eqV (.int i) x
 | .str z _=>eqV (.str z) x
 | _=>false
theorem eqU_of {x y:V}{u:Value}(r:RelV y u)(f:flatV y=true):eqU x u=eqV y x:=by
 cases y with
 | non=>cases r;rfl
 | bl b=>cases r;rfl
 | int i=>obtain ⟨t,rfl⟩:=r;rfl
 | str z=>obtain ⟨t,rfl⟩:=r;rfl
 | _=>exact absurd (show false=true from f) Bool.false_ne_true
theorem any_eqU {x:V}:∀ {xs:List V} {us:List Value},Vals xs us->xs.all flatV=true->us.any (eqU x)=xs.any fun y=>eqV y x
 | _,_,.nil,_=>rfl
 | y::xs,u::us,.cons r t,f=>by
  rw [List.all_cons,Bool.and_eq_true] at f
  rw [List.any_cons,List.any_cons,eqU_of r f.1,any_eqU t f.2]
theorem mem_eqAt {A:Around}{s:Shared}{x:V}{v:Value}(rx:RelV x v)(fx:flatV x=true):∀ {xs:List V} {us:List Value},Vals xs us->xs.all flatV=true->∀ u∈us,SeqAt.EqAt A s u v (eqU x u)
 | _,_,.nil,_=>fun u hu=>by cases hu
 | y::xs,u::us,.cons r t,f=>fun u' hu=>by
  rw [List.all_cons,Bool.and_eq_true] at f
  rcases List.mem_cons.mp hu with rfl|hu
  · rw [eqU_of r f.1];exact eqAt_V r rx f.1 fx
  · exact mem_eqAt rx fx t f.2 u' hu
def inV (x:V)(xs:List V):Bool:=xs.any fun y=>eqV y x
def rIn (K:PySem.W.Frag)(neg:Bool):R2:=fun x y H Q=>∃ p xs,y=.ref p/\(SqL K H p xs∨SqT K H p xs)/\flatV x=true/\xs.all flatV=true/\Q (.bl (if neg then !inV x xs else inV x xs)) H
theorem op_in_seq:OpR X (compareOp .In) (rIn X.K false):=by
 intro pins s σ H x y v u Q I rx ry h
 obtain ⟨p,xs,rfl,hq,fx,fs,q⟩:=h
 cases ry
 rcases hq with hq|hq
 · obtain ⟨its,r,pl,hz⟩:=I.list hq
   refine SeqAt.in_listAt (eqU x) pl.isList (fun w hw=>mem_eqAt rx fx r fs w (by simpa using hw)) ⟨.bl _,H,I,rfl,?_⟩
   rw [show its.toArray.any (eqU x)=its.any (eqU x) by simp,any_eqU r fs]
   exact q
 · obtain ⟨its,r,pl,hz⟩:=I.tuple hq
   refine SeqAt.in_tupleAt (eqU x) pl (fun w hw=>mem_eqAt rx fx r fs w (by simpa using hw)) ⟨.bl _,H,I,rfl,?_⟩
   rw [show its.toArray.any (eqU x)=its.any (eqU x) by simp,any_eqU r fs]
   exact q
theorem op_notIn_seq:OpR X (compareOp .NotIn) (rIn X.K true):=by
 intro pins s σ H x y v u Q I rx ry h
 obtain ⟨p,xs,rfl,hq,fx,fs,q⟩:=h
 cases ry
 rcases hq with hq|hq
 · obtain ⟨its,r,pl,hz⟩:=I.list hq
   refine SeqAt.notIn_listAt (eqU x) pl.isList (fun w hw=>mem_eqAt rx fx r fs w (by simpa using hw)) ⟨.bl _,H,I,rfl,?_⟩
   rw [show its.toArray.any (eqU x)=its.any (eqU x) by simp,any_eqU r fs]
   exact q
 · obtain ⟨its,r,pl,hz⟩:=I.tuple hq
   refine SeqAt.notIn_tupleAt (eqU x) pl (fun w hw=>mem_eqAt rx fx r fs w (by simpa using hw)) ⟨.bl _,H,I,rfl,?_⟩
   rw [show its.toArray.any (eqU x)=its.any (eqU x) by simp,any_eqU r fs]
   exact q
theorem call_len_seq:CallR X (.builtin "len") (fun xs H Q=>∃ p ys,xs=[.ref p]/\(SqL X.K H p ys∨SqT X.K H p ys)/\Q (.int ys.length) H):=by
 intro pins s σ H xs us Q I r h
 obtain ⟨p,ys,rfl,hq,q⟩:=h
 obtain ⟨u,rfl,rx⟩:=vals1 r
 cases rx
 have hn:=line63
 rcases hq with hq|hq
 · obtain ⟨its,r',pl,hz⟩:=I.list hq
   have hlen:=r'.length
   exact Calls.call_len_list pl.isList (by simp only [List.size_toArray] <;> omega) ⟨.int ys.length,H,I.tok _,⟨s.toks+1,by rw [List.size_toArray,hlen]⟩,q⟩
 · obtain ⟨its,r',pl,hz⟩:=I.tuple hq
   have hlen:=r'.length
   exact len_tuple pl (by simp only [List.size_toArray] <;> omega) ⟨.int ys.length,H,I.tok _,⟨s.toks+1,by rw [List.size_toArray,hlen]⟩,q⟩
theorem call_len_str:CallR X (.builtin "len") (fun xs H Q=>∃ z,xs=[.str z]/\z.length<=sizeLine/\Q (.int z.length) H):=by
 intro pins s σ H xs us Q I r h
 obtain ⟨z,rfl,hz,q⟩:=h
 obtain ⟨u,rfl,t,rfl⟩:=vals1 r
 have hn:=line63
 exact len_str (by omega) ⟨.int z.length,H,I.tok _,⟨_,rfl⟩,q⟩
theorem call_tuple_of:CallR X (.type "tuple") (fun xs H Q=>∃ p ys,xs=[.ref p]/\((SqL X.K H p ys/\∀ l,H l=none->Q (.ref l) (upd H l (.tup ys)))∨(SqT X.K H p ys/\Q (.ref p) H))):=by
 intro pins s σ H xs us Q I r h
 obtain ⟨p,ys,rfl,h⟩:=h
 obtain ⟨u,rfl,rx⟩:=vals1 r
 cases rx
 rcases h with ⟨hq,q⟩|⟨hq,q⟩
 · obtain ⟨its,r',pl,hz⟩:=I.list hq
   have hlen:=r'.length
   refine call_tuple_list pl.isList (fun h' kp=>?_) (by simp only [List.size_toArray] <;> omega)
   have I1:Inv X pins σ H { s with heap:=h' }:=I.kept (t':=s.toks) kp
   have I2:Inv X pins σ (upd H h'.objs.size (.tup ys)) { s with heap:=h'.push { cls:=.type "tuple",data:=.seq its.toArray } } :=
    I1.laid (t':=s.toks) (fun b o e=>Heap.get?_push_of_some _ e) (Nat.le_refl _) (show ObjOk X.prog X.w _ _ _ (.tup ys) from ⟨hz,its,r',IsTup.new _ _⟩)
   exact ⟨.ref h'.objs.size,_,I2,rfl,q _ (I1.hok.fresh (Nat.le_refl _))⟩
 · obtain ⟨its,r',pl,hz⟩:=I.tuple hq
   exact call_tuple_same pl ⟨.ref p,H,I,rfl,q⟩
def tyV (K:PySem.W.Frag)(T:String)(x:V)(H:Hp):Prop:=match x with
 | .str _=>T="str"
 | .int _=>T="int"
 | .ref p=>(T="list"/\∃ xs,SqL K H p xs)∨(T="tuple"/\∃ o,K.lookup p=some o/\o.cls=.type "tuple"/\o.dict=none) ∨
   (T="dict"/\((∃ kvs,H p=some (.dK kvs))∨∃ kvs,H p=some (.dT kvs)))∨(T="set"/\∃ S n,H p=some (.set S n))
 | _=>False
theorem tyV_is {pins:List (Addr×Obj)}{σ:St}{H:Hp}{s:Shared}{T:String}{x:V}{v:Value}(I:Inv X pins σ H s)(r:RelV x v)(ty:tyV X.K T x H) :
  s.TypeIs v T/\∀ a,v=.ref a->∃ ob,s.heap.get? a=some ob/\ob.dict=none:=by
 cases x with
 | str z =>
  obtain ⟨t,rfl⟩:=r
  cases (show T="str" from ty)
  exact ⟨typeIs_str s z t,fun _ e=>nomatch e⟩
 | int i =>
  obtain ⟨t,rfl⟩:=r
  cases (show T="int" from ty)
  exact ⟨typeIs_int s i t,fun _ e=>nomatch e⟩
 | ref p =>
  cases r
  rcases ty with ⟨rfl,xs,hq⟩|⟨rfl,o,hk,hc,hd⟩|⟨rfl,hk⟩|⟨rfl,S,n,hk⟩
  · obtain ⟨its,_,pl,_⟩:=I.list hq
    refine ⟨pl.isList.typeIs,fun a e=>?_⟩
    cases e
    obtain ⟨o,n,e,c,hd,_⟩:=pl
    exact ⟨o,e,hd⟩
  · refine ⟨⟨o,I.kIn p o hk,hc⟩,fun a e=>?_⟩
    cases e
    exact ⟨o,I.kIn _ o hk,hd⟩
  · have z:∃ o,s.heap.get? p=some o/\o.ExactDict:=by
     rcases hk with ⟨kvs,hk⟩|⟨kvs,hk⟩
     · obtain ⟨_,_,_,_,o,_,_,e,ex,_⟩:=I.hok p _ hk
       exact ⟨o,e,ex⟩
     · obtain ⟨_,_,_,_,o,_,_,e,ex,_⟩:=I.hok p _ hk
       exact ⟨o,e,ex⟩
    obtain ⟨o,e,ex⟩:=z
    refine ⟨⟨o,e,ex.1⟩,fun a e2=>?_⟩
    cases e2
    exact ⟨o,e,ex.2.1⟩
  · obtain ⟨o,_,_,_,e,ex,_⟩:=I.hok p _ hk
    refine ⟨⟨o,e,ex.1⟩,fun a e2=>?_⟩
    cases e2
    exact ⟨o,e,ex.2.1⟩
 | _=>exact False.elim ty
def tBM (K:PySem.W.Frag)(T:String)(r:V->List V->Hp->VK->Prop)(to:TE)(t:TA):TE:=fun σ H Q=>to σ H fun x H1=>tyV K T x H1/\t σ H1 fun xs H2=>r x xs H2 Q
variable {o e:Expr}{es:List Expr}{to:TE}{t:TA}{name:Str}{apos cpos:Pos}{T id:String}{r:V->List V->Hp->VK->Prop}
theorem pe_bm (pa:PlainAttrs T) (slot:Slot T name id) (hty:typeOf (.builtin id)=pure (.type "method_descriptor")) (hm:MtR X id r) (ho:PE X o to) (ha:PA X (e::es) t)
  (hbase:attributeBase o name X.env (eval o X.env)=eval o X.env:=by rfl)
  (hfew:((backTo cpos (starEach (e::es) X.env)).all (fun x=>!x.1)&&(backToKw cpos (keywordEach [] X.env)).all (fun x=>x.1.isSome)
   && decide ((e::es).length+([]:List Keyword).length+(if ([]:List Keyword).isEmpty then 0 else 1) < 30))=true:=by rfl)
  (hline:(apos.endLine==cpos.line)=true:=by rfl) (hs:starEach (e::es) X.env=(false,eval e X.env)::starEach es X.env:=by rfl) (hplain:(backTo cpos (starEach es X.env)).any (·.1)=false:=by rfl) :
  PE X (.Call (.Attribute o name apos) (e::es) [] cpos) (tBM X.K T r to t):=by
 intro pins s σ H Q I h
 refine wpAny_Call_method_late hbase hfew hline rfl (thn (ho pins s σ H _ I h) fun v s1 ⟨x,H1,I1,r1,ty,q1⟩=>?_)
 obtain ⟨h1,h2⟩:=tyV_is I1 r1 ty
 refine ⟨T,id,pa,slot,hty,h1,h2,?_⟩
 have hA:=ha cpos pins s1 σ H1 _ I1 q1
 rw [hs] at hA ⊢
 refine Calls.callWith_builtin (by show (false||(backTo cpos (starEach es X.env)).any (·.1))=false;rw [hplain] <;> rfl) (Calls.evalArgs_plain ?_)
 exact thn hA fun us s2 ⟨vs,H2,I2,r2,q2⟩=>hm pins s2 σ H2 x vs v us Q I2 r1 r2 q2
end
def MtM (X:Cx)(id:String)(r:V->List V->Hp->VK->Prop):Prop :=
 ∀ (pins:List (Addr×Obj)) (s:Shared) (σ:St) (H:Hp) (x:V) (xs:List V) (v:Value) (us:List Value) (Q:VK),Inv X pins σ H s->RelV x v->Vals xs us->r x xs H Q ->
  wpAny (model X.prog X.w) X.A (call (.builtin id) (v::us)) (EP X pins σ Q) X.xe s
theorem Vals.one:∀ {x:V} {us:List Value},Vals [x] us->∃ u,us=[u]/\RelV x u
 | _,_,.cons r .nil=>⟨_,rfl,r⟩
section
variable {X:Cx}{pins:List (Addr×Obj)}{σ:St}{H:Hp}{s:Shared}{l b:Addr}{xs ys zs:List V}
theorem Inv.lset {its its':List Value} {n:Nat} {f:Array Value->Array Value} {t':Nat} (I:Inv X pins σ H s) (hH:H l=some (.lst xs))
  (e:s.heap.get? l=some { cls:=.type "list",data:=.seq its.toArray n }) (hf:f its.toArray=its'.toArray) (hv:Vals ys its') (hz:ys.length<=sizeLine) :
  Inv X pins σ (upd H l (.lst ys)) { s with heap:=s.heap.update l (Obj.mapSeq f),toks:=t' }:=by
 have q:=PySem.IsL.update e f
 rw [hf] at q
 refine I.write (x:=l) (e:=l) (by rw [hH];exact trivial) (.inl rfl) (fun b' u hb hu=>(Heap.get?_update_other s.heap (Obj.mapSeq f) (Ne.symm hb)).trans hu) ⟨_,q⟩ ?_
 exact ⟨hz,its',_,hv,q⟩
theorem Inv.lnew {its:List Value}{t':Nat}(I:Inv X pins σ H s)(hv:Vals ys its)(hz:ys.length<=sizeLine) :
  Inv X pins σ (upd H s.heap.objs.size (.lst ys)) { s with heap:=s.heap.push { cls:=.type "list",data:=.seq its.toArray },toks:=t' } :=
 I.laid (fun _ _ q=>Heap.get?_push_of_some _ q) (Nat.le_refl _) ⟨hz,its,0,hv,Heap.get?_push_size _ rfl⟩
theorem Inv.fresh (I:Inv X pins σ H s):H s.heap.objs.size=none:=I.hok.fresh (Nat.le_refl _)
theorem Inv.lstM (I:Inv X pins σ H s)(hH:H l=some (.lst xs)):xs.length<=sizeLine/\∃ (its:List Value) (n:Nat),Vals xs its/\xs.length=its.length/\s.heap.get? l=some { cls:=.type "list",data:=.seq its.toArray n }:=by
 obtain ⟨z,its,n,r,e⟩:=I.hok l _ hH
 exact ⟨z,its,n,r,r.length,e⟩
theorem notLongL {n:Nat}(h:n<=sizeLine):Builtin.List.listTooLong n=false:=by
 unfold Builtin.List.listTooLong
 exact decide_eq_false (by omega)
end
section
variable {X:Cx}
def rAppend:V->List V->Hp->VK->Prop:=fun x vs H Q=>∃ l xs y,x=.ref l/\vs=[y]/\H l=some (.lst xs)/\xs.length < sizeLine/\Q .non (upd H l (.lst (xs++[y])))
theorem mt_append:MtM X "list.append" rAppend:=by
 intro pins s σ H x vs v us Q I rx rv h
 obtain ⟨l,xs,y,rfl,rfl,hH,hz,q⟩:=h
 cases rx
 obtain ⟨u,rfl,ru⟩:=rv.one
 obtain ⟨z,its,n,r,hl,e⟩:=I.lstM hH
 refine call_meets F.slot_list_append ⟨_,e,rfl⟩ F.entry_list_append (F.args_list_append_2 _ _) (PySem.list_append l its.toArray n u (by rw [List.size_toArray];omega)) ⟨e,?_⟩
 refine ⟨.non,_,I.lset (its':=its++[u]) hH e (by simp) (r.append (.cons ru .nil)) ?_,rfl,q⟩
 rw [List.length_append,List.length_singleton]
 omega
def rExtend:V->List V->Hp->VK->Prop:=fun x vs H Q=>∃ l b xs zs,x=.ref l/\vs=[.ref b]/\H l=some (.lst xs)/\H b=some (.lst zs)/\xs.length+zs.length<=sizeLine/\Q .non (upd H l (.lst (xs++zs)))
theorem mt_extend:MtM X "list.extend" rExtend:=by
 intro pins s σ H x vs v us Q I rx rv h
 obtain ⟨l,b,xs,zs,rfl,rfl,hH,hB,hz,q⟩:=h
 cases rx
 obtain ⟨u,rfl,ru⟩:=rv.one
 cases ru
 obtain ⟨z,its,n,r,hl,e⟩:=I.lstM hH
 obtain ⟨z2,its2,n2,r2,hl2,e2⟩:=I.lstM hB
 have hsz:its.toArray.size+its2.toArray.size<=sizeLine:=by rw [List.size_toArray,List.size_toArray];omega
 have hlong:¬ (!its.toArray.isEmpty&&Builtin.List.listTooLong (its.toArray.size+its2.toArray.size))=true:=by
  rw [notLongL hsz,Bool.and_false]
  exact Bool.false_ne_true
 refine call_meets F.slot_list_extend ⟨_,e,rfl⟩ F.entry_list_extend (F.args_list_extend_2 _ _)
  (AutoSeq1.list_extend_list_list_0 l its.toArray n b its2.toArray n2 hlong (by rw [List.size_toArray];omega) (by omega)) ⟨e,e2,?_⟩
 refine ⟨.non,_,I.lset (its':=its++its2) hH e (by simp) (r.append r2) ?_,rfl,q⟩
 rw [List.length_append]
 omega
def rCat:R2:=fun x y H Q=>∃ l b xs zs,x=.ref l/\y=.ref b/\H l=some (.lst xs)/\H b=some (.lst zs)/\xs.length+zs.length<=sizeLine/\∀ p,H p=none->Q (.ref p) (upd H p (.lst (xs++zs)))
theorem op_cat:OpR X (binaryOp .Add) rCat:=by
 intro pins s σ H x y v u Q I rx ry h
 obtain ⟨l,b,xs,zs,rfl,rfl,hH,hB,hz,q⟩:=h
 cases rx
 cases ry
 obtain ⟨z,its,n,r,hl,e⟩:=I.lstM hH
 obtain ⟨z2,its2,n2,r2,hl2,e2⟩:=I.lstM hB
 refine PySem.P.add_list e e2 ?_ (by rw [List.size_toArray,List.size_toArray];omega)
 have ea:its.toArray++its2.toArray=(its++its2).toArray:=by simp
 rw [ea]
 exact ⟨.ref _,_,I.lnew (t':=s.toks) (r.append r2) (by rw [List.length_append];omega),rfl,q _ I.fresh⟩
end
section
variable {prog:Program}{w:World}{A:Around}{E:Value->Shared->Prop}{s:Shared}
end
section
variable {X:Cx}
end
theorem Vals.ints:∀ {ns:List Int} {us:List Value},Vals (ns.map V.int) us->IntsAre us ns
 | [],us,h=>by
  rw [List.map_nil] at h
  cases h
  exact IntsAre.nil
 | n::ns,us,h=>by
  rw [List.map_cons] at h
  cases h with
  | cons r t =>
   obtain ⟨k,rfl⟩:=r
   exact IntsAre.cons n k (Vals.ints t)
theorem vals_of_ints:∀ {us:List Value} {ns:List Int},IntsAre us ns->Vals (ns.map V.int) us
 | _,_,.nil=>by rw [List.map_nil];exact Paired.nil
 | _,_,.cons n t h=>by rw [List.map_cons];exact Paired.cons (show RelV (V.int n) (Value.int n t) from ⟨t,rfl⟩) (vals_of_ints h)
theorem Vals.bls:∀ {bs:List Bool} {us:List Value},Vals (bs.map V.bl) us->us=bs.map Value.bool
 | [],us,h=>by
  rw [List.map_nil] at h
  cases h
  rfl
 | b::bs,us,h=>by
  rw [List.map_cons] at h
  cases h with
  | cons r t =>
   cases r
   rw [Vals.bls t,List.map_cons]
theorem Vals.ref1 {a:Addr}{us:List Value}(r:Vals [V.ref a] us):us=[Value.ref a]:=by
 cases r with
 | cons r t =>
  cases t
  cases r
  rfl
section
variable {prog:Program}{w:World}{A:Around}{E:Value->Shared->Prop}{s:Shared}{l:Addr}{its:List Value}{ns:List Int}{Q:Value->Shared->Prop}
theorem sum_raw (hh:A.handled=none) (hl:s.heap.IsList l its.toArray) (hi:IntsAre its ns)
  (h:∀ h' tk t',(∀ b o,s.heap.get? b=some o->h'.get? b=some o)->Q (.int ns.sum t') { s with heap:=h',toks:=tk }):wpAny (model prog w) A (call (.builtin "sum") [.ref l]) Q E s:=by
 obtain ⟨xs,e⟩:=hi.allInts.items
 have hn:numsOf (intItems xs).toList=ns:=by rw [← e];exact hi.numsOf
 rw [nums_intItems] at hn
 rw [e] at hl
 refine PySem.sum_intListG hh hl fun h' tk t' hk=>?_
 have:=h h' tk t' hk
 rw [preSum_eq,List.take_of_length_le (by simp),hn];exact this
end
section
variable {X:Cx}
def rSum (K:PySem.W.Frag):List V->Hp->VK->Prop:=fun vs H Q=>∃ (a:Addr) (ns:List Int),vs=[V.ref a]/\SqL K H a (ns.map V.int)/\Q (.int ns.sum) H
theorem cr_sum (hc:X.calm=true):CallR X (.builtin "sum") (rSum X.K):=by
 intro pins s σ H vs us Q I r h
 obtain ⟨a,ns,rfl,hs,q⟩:=h
 obtain ⟨its,rv,hl,_⟩:=I.list hs
 rw [Vals.ref1 r]
 exact sum_raw (I.ok.hd hc) hl.isList rv.ints fun h' tk t' hk=>⟨.int _,H,I.kept hk,⟨_,rfl⟩,q⟩
theorem small64 {n:Nat}(h:n < 64):n<=sizeLine:=by rw [sizeLine_eq];omega
end
section
variable {X:Cx}
def rIndex (K:PySem.W.Frag):V->List V->Hp->VK->Prop:=fun x xs H Q=>∃ (a:Addr) (ys:List V) (y:V) (j:Nat) (z:V),x=V.ref a/\xs=[y]/\SqL K H a ys/\flatV y=true/\ys.all flatV=true/\ys[j]?=some z/\eqV z y=true /\
 (∀ (m:Nat) (z':V),m < j->ys[m]?=some z'->eqV z' y=false)/\Q (.int (j:Nat)) H
theorem flat_at {ys:List V}(f:ys.all flatV=true){j:Nat}{z:V}(h:ys[j]?=some z):flatV z=true:=List.all_eq_true.mp f z (List.mem_of_getElem? h)
theorem mt_index:MtR X "list.index" (rIndex X.K):=by
 intro pins s σ H x xs v us Q I rx rxs h
 obtain ⟨a,ys,y,j,z,rfl,rfl,hs,fy,fys,hz,hzj,hno,q⟩:=h
 cases rx
 cases rxs with
 | cons ry rt =>
  rename_i uy ut
  cases rt
  obtain ⟨its,rv,⟨⟨cls,dd,data,sl⟩,n,ho,hc,hdn,hd⟩,hlen⟩:=I.list hs
  simp only at hc hd
  subst hc hd
  obtain ⟨u,hu,ru⟩:=rv.get hz
  obtain ⟨hjl,hje⟩:=List.getElem?_eq_some_iff.mp hu
  have hvl:=rv.length
  have hj:j < its.toArray.size:=by simpa using hjl
  have hsl:=sizeLine_eq
  refine call_meets PySem.F.slot_list_index ⟨_,ho,rfl⟩ PySem.F.entry_list_index (PySem.F.args_list_index_2 _ _)
   (SeqAt.list_indexAt a its.toArray n dd sl uy (eqU y) j hj (by omega) ?_ ?_) ⟨ho,fun u' hu'=>mem_eqAt ry fy rv fys u' (by simpa using hu'),?_⟩
  · have e1:its.toArray[j]=u:=by simpa using hje
    rw [e1,eqU_of ru (flat_at fys hz)]
    exact hzj
  · intro m hm hmj
    have hml:m < its.length:=by simpa using hm
    have hmy:m < ys.length:=by omega
    have hy':ys[m]?=some ys[m]:=List.getElem?_eq_getElem hmy
    obtain ⟨u2,hu2,ru2⟩:=rv.get hy'
    obtain ⟨_,hme⟩:=List.getElem?_eq_some_iff.mp hu2
    have e1:its.toArray[m]=u2:=by simpa using hme
    rw [e1,eqU_of ru2 (flat_at fys hy')]
    exact hno m _ hmj hy'
  · exact ⟨.int (j:Nat),H,I.tok _,⟨_,rfl⟩,q⟩
end
section
variable {X:Cx}
end
theorem iter_any {prog:Program}{w:World}{A:Around}{E:Value->Shared->Prop}{s:Shared}{l:Addr}{items:Array Value}{Q:Value->Shared->Prop}(hl:s.heap.IsList l items)
  (h:∀ s₂:Shared,s₂={ s with heap:=s.heap.push { cls:=.type "list_iterator",data:=.fields #[.ref l,.int 0 0] } } ->
   (s₂.heap.IsListIter s.heap.objs.size l 0/\s₂.heap.IsList l items)->l≠s.heap.objs.size->Q (.ref s.heap.objs.size) s₂):wpAny (model prog w) A (pyIter (.ref l)) Q E s:=by
 have hlt:l < s.heap.objs.size:=by obtain ⟨_,e,_⟩:=hl;exact Heap.lt_size e
 exact wpAny_pyIter_list hl (h _ rfl ⟨⟨_,Heap.get?_push_size _ rfl,rfl,rfl⟩,hl.push _⟩ (Nat.ne_of_lt hlt))
theorem truth_bools {prog:Program}{w:World}{A:Around}{bs:List Bool}{its:List Value}(e:its=bs.map Value.bool) :
  TruthOf prog w A (fun i v=>its.toArray[i]?=some v) (fun i=>bs.getD i false):=fun i v s Q E hv hq=>by
 have hv':its[i]?=some v:=by simpa using hv
 rw [e,List.getElem?_map] at hv'
 obtain ⟨b,hb,rfl⟩:=Option.map_eq_some_iff.mp hv'
 have hg:bs.getD i false=b:=by rw [List.getD_eq_getElem?_getD,hb] <;> rfl
 have hq':Q (bs.getD i false) s:=hq
 rw [hg] at hq'
 exact wpAny_truthy_bool hq'
theorem any_range:∀ bs:List Bool,(List.range bs.length).any (fun i=>bs.getD i false)=bs.any id
 | []=>rfl
 | b::bs=>by
  rw [List.length_cons,List.range_succ_eq_map,List.any_cons,List.any_map,List.any_cons,← any_range bs]
  all_goals rfl
theorem all_range:∀ bs:List Bool,(List.range bs.length).all (fun i=>bs.getD i false)=bs.all id
 | []=>rfl
 | b::bs=>by
  rw [List.length_cons,List.range_succ_eq_map,List.all_cons,List.all_map,List.all_cons,← all_range bs]
  all_goals rfl
section
variable {X:Cx}
def rAny (K:PySem.W.Frag):List V->Hp->VK->Prop:=fun vs H Q=>∃ (a:Addr) (bs:List Bool),vs=[V.ref a]/\SqL K H a (bs.map V.bl)/\Q (.bl (bs.any id)) H
def rAll (K:PySem.W.Frag):List V->Hp->VK->Prop:=fun vs H Q=>∃ (a:Addr) (bs:List Bool),vs=[V.ref a]/\SqL K H a (bs.map V.bl)/\Q (.bl (bs.all id)) H
theorem cr_any (hc:X.calm=true):CallR X (.builtin "any") (rAny X.K):=by
 intro pins s σ H vs us Q I r h
 obtain ⟨a,bs,rfl,hs,q⟩:=h
 obtain ⟨its,rv,hl,_⟩:=I.list hs
 rw [Vals.ref1 r]
 have hb:=rv.bls
 refine call_any_walk (iter_any hl.isList fun s₂ e2 st hne=>?_)
 subst e2
 refine ⟨_,_,_,_,_,_,_,rfl,Walks.list (A:=X.A.in1) (I.ok.hd hc) _ a hne its.toArray,st,truth_bools hb,fun h' tk hk=>?_⟩
 refine ⟨.bl _,H,I.kept fun b o eo=>hk b o (fun hmem=>?_) (Heap.get?_push_of_some _ eo),?_,q⟩
 · rcases List.mem_cons.mp hmem with e1|hmem
   · exact absurd (e1 ▸ Heap.lt_size eo) (Nat.lt_irrefl _)
   · cases hmem
 · show Value.bool _=Value.bool _
   rw [← any_range,hb,List.size_toArray,List.length_map]
theorem cr_all (hc:X.calm=true):CallR X (.builtin "all") (rAll X.K):=by
 intro pins s σ H vs us Q I r h
 obtain ⟨a,bs,rfl,hs,q⟩:=h
 obtain ⟨its,rv,hl,_⟩:=I.list hs
 rw [Vals.ref1 r]
 have hb:=rv.bls
 refine call_all_walk (iter_any hl.isList fun s₂ e2 st hne=>?_)
 subst e2
 refine ⟨_,_,_,_,_,_,_,rfl,Walks.list (A:=X.A.in1) (I.ok.hd hc) _ a hne its.toArray,st,truth_bools hb,fun h' tk hk=>?_⟩
 refine ⟨.bl _,H,I.kept fun b o eo=>hk b o (fun hmem=>?_) (Heap.get?_push_of_some _ eo),?_,q⟩
 · rcases List.mem_cons.mp hmem with e1|hmem
   · exact absurd (e1 ▸ Heap.lt_size eo) (Nat.lt_irrefl _)
   · cases hmem
 · show Value.bool _=Value.bool _
   rw [← all_range,hb,List.size_toArray,List.length_map]
end
section
variable {X:Cx}{pins:List (Addr×Obj)}{σ:St}{H:Hp}{s:Shared}
end
section
variable {X:Cx}
end
abbrev CellAt (h:Heap)(c:Addr)(v:Option Value):Prop:=h.IsCell c v
def relS (scope sc:Scope):Scope :=
 { scope with names:=scope.names.map fun (n,k)=>if (k==.free&&sc.kind==.function&&sc.names.lookup n==some .cell) then (n,.cell) else (n,k) }
def cloFrom (cells:List (Str×Addr)):List (Str×NameKind)->List (Str×Addr)->List (Str×Addr)
 | [],acc=>acc
 | (n,k)::r,acc=>if k==.free then cloFrom cells r ((n,(cells.lookup n).getD 0)::acc) else cloFrom cells r acc
theorem closure_loop (env:Env)(f:Str×NameKind->List (Str×Addr)->Sem (ForInStep (List (Str×Addr))))
  (hf:∀ n k c,f (n,k) c=if k==.free then (do let a ← cellOf env n;pure (.yield ((n,a)::c))) else pure (.yield c)) :
  ∀ (names:List (Str×NameKind)) (acc:List (Str×Addr)),(∀ y∈names,y.2=.free->∃ c,env.cells.lookup y.1=some c)->forIn names acc f=pure (cloFrom env.cells names acc)
 | [],acc,_=>by rw [List.forIn_nil];rfl
 | (n,k)::r,acc,h=>by
  rw [List.forIn_cons,hf]
  have ih:=fun acc=>closure_loop env f hf r acc fun y hy=>h y (List.mem_cons_of_mem _ hy)
  unfold cloFrom
  by_cases hk:(k==NameKind.free)=true
  · rw [if_pos hk,if_pos hk]
    obtain ⟨c,hc⟩:=h (n,k) List.mem_cons_self (by simpa using hk)
    have e:cellOf env n=pure c:=by unfold cellOf;rw [hc]
    rw [e]
    have e2:(env.cells.lookup n).getD 0=c:=by rw [hc];rfl
    rw [e2]
    exact ih _
  · rw [if_neg hk,if_neg hk]
    exact ih _
theorem closure_ok {scope:Scope}{env:Env}(h:∀ y∈scope.names,y.2=.free->∃ c,env.cells.lookup y.1=some c):closureFor scope env=pure (cloFrom env.cells scope.names []):=by
 simp only [closureFor]
 rw [closure_loop env _ (fun n k c=>rfl) scope.names [] h]
 rfl
theorem mem_lookup {α:Type}:∀ {l:List (Str×α)} {n:Str} {c:α},(n,c)∈l->∃ c',l.lookup n=some c'
 | (k,v)::r,n,c,h=>by
  rw [List.lookup_cons]
  cases hb:n==k with
  | true=>exact ⟨_,rfl⟩
  | false =>
   rcases List.mem_cons.mp h with e|h
   · cases e;simp at hb
   · exact mem_lookup h
theorem cloFrom_mem {cells:List (Str×Addr)}:∀ {names:List (Str×NameKind)} {acc:List (Str×Addr)} {n:Str} {c:Addr},(n,c)∈cloFrom cells names acc->(n,c)∈acc∨((n,.free)∈names/\c=(cells.lookup n).getD 0)
 | [],_,_,_,h=>.inl h
 | (m,k)::r,acc,n,c,h=>by
  unfold cloFrom at h
  split at h
  · rename_i hk
    have hk:k=.free:=by simpa using hk
    rcases cloFrom_mem h with h|⟨h1,h2⟩
    · rcases List.mem_cons.mp h with e|h
      · cases e;exact .inr ⟨hk ▸ List.mem_cons_self,rfl⟩
      · exact .inl h
    · exact .inr ⟨List.mem_cons_of_mem _ h1,h2⟩
  · rcases cloFrom_mem h with h|⟨h1,h2⟩
    · exact .inl h
    · exact .inr ⟨List.mem_cons_of_mem _ h1,h2⟩
theorem cloFrom_acc {cells:List (Str×Addr)}:∀ {names:List (Str×NameKind)} {acc:List (Str×Addr)} {p:Str×Addr},p∈acc->p∈cloFrom cells names acc
 | [],_,_,h=>h
 | (m,k)::r,acc,p,h=>by
  unfold cloFrom
  split
  · exact cloFrom_acc (List.mem_cons_of_mem _ h)
  · exact cloFrom_acc h
theorem cloFrom_has {cells:List (Str×Addr)}:∀ {names:List (Str×NameKind)} {acc:List (Str×Addr)} {n:Str},(n,.free)∈names->(n,(cells.lookup n).getD 0)∈cloFrom cells names acc
 | (m,k)::r,acc,n,h=>by
  unfold cloFrom
  rcases List.mem_cons.mp h with e|h
  · cases e
    exact cloFrom_acc List.mem_cons_self
  · split
    · exact cloFrom_has h
    · exact cloFrom_has h
theorem cells_mem:∀ {names:List (Str×NameKind)} {h:Heap} {acc:List (Str×Addr)} {x:Str} {c:Addr},(x,c)∈cellsFrom h.objs.size names acc ->
  (x,c)∈acc∨((x,.cell)∈names/\h.objs.size<=c/\CellAt (pushCells h names) c none)
 | [],_,_,_,_,h=>.inl h
 | (n,k)::r,h,acc,x,c,hm=>by
  unfold cellsFrom at hm
  unfold pushCells
  split at hm
  · rename_i hk
    rw [if_pos hk]
    have hk:k=.cell:=by simpa using hk
    rw [← Heap.size_push h { cls:=.type "cell",data:=.cell none }] at hm
    rcases cells_mem hm with hm|⟨h1,h2,h3⟩
    · rcases List.mem_cons.mp hm with e|hm
      · cases e
        exact .inr ⟨hk ▸ List.mem_cons_self,Nat.le_refl _,_,pushCells_keeps r _ _ _ (Heap.get?_push_size _ rfl),rfl⟩
      · exact .inl hm
    · rw [Heap.size_push] at h2
      exact .inr ⟨List.mem_cons_of_mem _ h1,Nat.le_of_succ_le h2,h3⟩
  · rename_i hk
    rw [if_neg hk]
    rcases cells_mem hm with hm|⟨h1,h2,h3⟩
    · exact .inl hm
    · exact .inr ⟨List.mem_cons_of_mem _ h1,h2,h3⟩
theorem cells_acc:∀ {names:List (Str×NameKind)} {n:Nat} {acc:List (Str×Addr)} {p:Str×Addr},p∈acc->p∈cellsFrom n names acc
 | [],_,_,_,h=>h
 | (m,k)::r,n,acc,p,h=>by
  unfold cellsFrom
  split
  · exact cells_acc (List.mem_cons_of_mem _ h)
  · exact cells_acc h
theorem cells_has:∀ {names:List (Str×NameKind)} {n:Nat} {acc:List (Str×Addr)} {x:Str},(x,.cell)∈names->∃ c,(x,c)∈cellsFrom n names acc
 | (m,k)::r,n,acc,x,h=>by
  unfold cellsFrom
  rcases List.mem_cons.mp h with e|h
  · cases e
    exact ⟨n,cells_acc List.mem_cons_self⟩
  · split
    · exact cells_has h
    · exact cells_has h
theorem cells_inj:∀ {names:List (Str×NameKind)} {h:Heap} {acc:List (Str×Addr)} {x y:Str} {c:Addr},(∀ p∈acc,p.2 < h.objs.size)->(∀ x y c,(x,c)∈acc->(y,c)∈acc->x=y) ->
  (x,c)∈cellsFrom h.objs.size names acc->(y,c)∈cellsFrom h.objs.size names acc->x=y
 | [],_,_,_,_,_,_,hi,h1,h2=>hi _ _ _ h1 h2
 | (n,k)::r,h,acc,x,y,c,hl,hi,h1,h2=>by
  unfold cellsFrom at h1 h2
  split at h1
  · rename_i hk
    rw [if_pos hk] at h2
    rw [← Heap.size_push h { cls:=.type "cell",data:=.cell none }] at h1 h2
    refine cells_inj (h:=h.push _) (fun p hp=>?_) (fun x y c a b=>?_) h1 h2
    · rw [Heap.size_push]
      rcases List.mem_cons.mp hp with rfl|hp
      · exact Nat.lt_succ_self _
      · exact Nat.lt_succ_of_lt (hl p hp)
    · rcases List.mem_cons.mp a with e|a <;> rcases List.mem_cons.mp b with e'|b
      · cases e;cases e';rfl
      · cases e;exact absurd (hl _ b) (Nat.lt_irrefl _)
      · cases e';exact absurd (hl _ a) (Nat.lt_irrefl _)
      · exact hi _ _ _ a b
  · rename_i hk
    rw [if_neg hk] at h2
    exact cells_inj hl hi h1 h2
theorem newEnv_comp {M:Model}{A:Around}{E:Value->Shared->Prop}{s:Shared}{scope:Scope}{globals:Addr}{closure:List (Str×Addr)}{qual:Str}{func:Option Addr}{code:Value}{around:Env}{builtins:Addr}{Q:Env->Shared->Prop}
  (h:Q (newEnv scope s.heap.objs.size globals (cellsFrom (s.heap.objs.size+1) scope.names closure) qual func code (some around) builtins)
   { s with heap:=pushCells (s.heap.push { cls:=.type "dict",data:=.dict #[] }) scope.names }) :
  wpAny M A (newFunctionEnv scope globals closure [] qual func code (some around) builtins) Q E s:=by
 simp only [newFunctionEnv,Option.isSome_some,if_true]
 refine wpAny_bind (wpAny_alloc ?_)
 refine wpAny_bind (wpAny_layCells _ (fun n k c=>rfl) scope.names closure _ _ ?_)
 rw [show ({ s with heap:=s.heap.push { cls:=.type "dict",data:=.dict #[] } }:Shared).heap.objs.size=s.heap.objs.size+1 from Heap.size_push ..]
 rw [List.forIn_nil]
 exact wpAny_bind (wpAny_pure (wpAny_pure h))
theorem lookup_relS {sc:Scope}:∀ {names:List (Str×NameKind)} {x:Str} {k:NameKind},
  (names.map fun (n,k)=>if (k==NameKind.free&&sc.kind==.function&&sc.names.lookup n==some .cell) then (n,NameKind.cell) else (n,k)).lookup x=some k ->
  ∃ k',names.lookup x=some k'/\(k=k'∨(k'=.free/\k=.cell))
 | [],_,_,h=>by simp at h
 | (n,k₀)::r,x,k,h=>by
  have ih:=@lookup_relS sc r x k
  have h':List.lookup x ((if (k₀==NameKind.free&&sc.kind==.function&&sc.names.lookup n==some .cell)=true then (n,NameKind.cell) else (n,k₀))::(r.map _))=some k:=h
  cases hx:x==n with
  | true =>
   simp only [List.lookup_cons,hx]
   by_cases hc:(k₀==NameKind.free&&sc.kind==.function&&sc.names.lookup n==some .cell)=true
   · rw [if_pos hc] at h'
     simp only [List.lookup_cons,hx] at h'
     cases h'
     simp only [Bool.and_eq_true,beq_iff_eq] at hc
     exact ⟨k₀,rfl,.inr ⟨hc.1.1,rfl⟩⟩
   · rw [if_neg hc] at h'
     simp only [List.lookup_cons,hx] at h'
     cases h'
     exact ⟨_,rfl,.inl rfl⟩
  | false =>
   simp only [List.lookup_cons,hx]
   by_cases hc:(k₀==NameKind.free&&sc.kind==.function&&sc.names.lookup n==some .cell)=true
   · rw [if_pos hc] at h'
     simp only [List.lookup_cons,hx] at h'
     exact ih h'
   · rw [if_neg hc] at h'
     simp only [List.lookup_cons,hx] at h'
     exact ih h'
structure BlkOk (N:List Str)(sc scope:Scope)(own:List (Str×Nat)):Prop where
 kind:scope.kind=.function
 uniq:∀ y∈scope.names,scope.names.lookup y.1=some y.2
 ix:∀ p∈own,N[p.2]?=some p.1
 free:∀ y∈scope.names,y.2=.free->sc.names.lookup y.1=some .cell∨sc.names.lookup y.1=some .free
 own:∀ y∈scope.names,y.2=.local∨y.2=.cell->y.1∈own.map (·.1)∨y.1∉N
def wipe (σ:St):List Nat->St
 | []=>σ
 | v::vs=>(wipe σ vs).set v none
theorem wipe_length (σ:St):∀ vs:List Nat,(wipe σ vs).length=σ.length
 | []=>rfl
 | v::vs=>by unfold wipe;rw [List.length_set,wipe_length σ vs]
theorem wipe_some {σ:St}{i:Nat}{x:V}:∀ {vs:List Nat},(wipe σ vs)[i]?=some (some x)->σ[i]?=some (some x)/\i∉vs
 | [],h=>⟨h,by simp⟩
 | v::vs,h=>by
  unfold wipe at h
  by_cases hi:v=i
  · subst hi
    by_cases hv:v < (wipe σ vs).length
    · rw [List.getElem?_set_self hv] at h;cases h
    · rw [List.getElem?_eq_none (by simpa using hv)] at h;cases h
  · rw [List.getElem?_set_ne hi] at h
    obtain ⟨h1,h2⟩:=wipe_some h
    exact ⟨h1,by simp only [List.mem_cons,not_or];exact ⟨fun e=>hi e.symm,h2⟩⟩
abbrev Cx.blk (X:Cx)(s:Shared)(H:Hp)(scope:Scope)(cenv:Env)(fp:List Addr):Cx:={ X with s_0:=s,H_0:=H,env:=cenv,outer:=X.stack,ex:=fp,fn:=fun x=>scope.names.lookup x==some .cell,pn:=[],xe:=fun _ _=>False }
section
variable {X:Cx}{pins:List (Addr×Obj)}{σ:St}{H:Hp}{s:Shared}
theorem block_start {scope:Scope} {own:List (Str×Nat)} {fp:List Addr} (I:Inv X pins σ H s) (ok:BlkOk X.N X.env.scope scope own) (hN:X.N.Nodup) (hfp:∀ b∈fp,FpOk X pins H b/\b < s.heap.objs.size) :
  Inv (X.blk s H scope (compEnvC scope (cellsFrom (s.heap.objs.size+1) scope.names (cloFrom X.env.cells scope.names [])) s.heap.objs.size X.env) fp) [] (wipe σ (own.map (·.2))) H { s with heap:=pushCells (s.heap.push { cls:=.type "dict",data:=.dict #[] }) scope.names }:=by
 have hfree:∀ y∈scope.names,y.2=.free->∃ c,X.env.cells.lookup y.1=some c:=fun y hy e=>by
  rcases ok.free y hy e with k|k
  · exact I.ok.has _ (.inl k)
  · exact I.ok.has _ (.inr k)
 generalize hcenv:compEnvC scope (cellsFrom (s.heap.objs.size+1) scope.names (cloFrom X.env.cells scope.names [])) s.heap.objs.size X.env=cenv
 have kp:∀ b o,s.heap.get? b=some o->(pushCells (s.heap.push { cls:=.type "dict",data:=.dict #[] }) scope.names).get? b=some o:=fun b o e=>pushCells_keeps _ _ _ _ (Heap.get?_push_of_some _ e)
 have hL:cenv.locals=s.heap.objs.size:=by rw [← hcenv];rfl
 have hcl:cenv.cells=cellsFrom (s.heap.objs.size+1) scope.names (cloFrom X.env.cells scope.names []):=by rw [← hcenv];rfl
 have hsc:cenv.scope=relS scope X.env.scope:=by rw [← hcenv];rfl
 rw [← Heap.size_push s.heap { cls:=.type "dict",data:=.dict #[] }] at hcl
 have cm:∀ {y c},(y,c)∈cloFrom X.env.cells scope.names []->X.env.cells.lookup y=some c/\c < s.heap.objs.size:=fun {y c} hm=>by
  rcases cloFrom_mem hm with hm|⟨h1,rfl⟩
  · cases hm
  · obtain ⟨c,hc⟩:=hfree _ h1 rfl
    rw [hc]
    obtain ⟨w,z⟩:=I.cell _ _ hc
    exact ⟨rfl,z.lt⟩
 have mem:∀ {y c},cenv.cells.lookup y=some c->(X.env.cells.lookup y=some c/\c < s.heap.objs.size)∨(s.heap.objs.size+1<=c/\CellAt (pushCells (s.heap.push { cls:=.type "dict",data:=.dict #[] }) scope.names) c none):=fun {y c} e=>by
  rw [hcl] at e
  rcases cells_mem (PySem.mem_of_lookup e) with hm|⟨_,h2,h3⟩
  · exact .inl (cm hm)
  · rw [Heap.size_push] at h2;exact .inr ⟨h2,h3⟩
 have look:∀ {y},scope.names.lookup y=some .free->∃ c,cenv.cells.lookup y=some c/\X.env.cells.lookup y=some c:=fun {y} hl=>by
  have hy:(y,NameKind.free)∈scope.names:=PySem.mem_of_lookup hl
  obtain ⟨c',e'⟩:=mem_lookup (cells_acc (names:=scope.names) (n:=(s.heap.push { cls:=.type "dict",data:=.dict #[] }).objs.size) (cloFrom_has (cells:=X.env.cells) (acc:=[]) hy))
  rw [← hcl] at e'
  refine ⟨c',e',?_⟩
  rw [hcl] at e'
  rcases cells_mem (PySem.mem_of_lookup e') with hm|⟨h1,_,_⟩
  · exact (cm hm).1
  · have:=ok.uniq _ h1
    rw [hl] at this;cases this
 have okB:(X.blk s H scope cenv fp).Ok:=by
  refine ⟨I.ok.mod,by show cenv.scope.kind=_;rw [hsc];exact ok.kind,by show cenv.globals=_;rw [← hcenv];exact I.ok.glob,by show cenv.builtins=_;rw [← hcenv];exact I.ok.blt,by show s.heap.objs.size<=cenv.locals;rw [hL];exact Nat.le_refl _,
   fun y z c e1 e2=>?_,fun y hy=>?_,fun y c z e=>?_,I.ok.hd,I.ok.frames,.inl rfl,fun b hb=>⟨?_,fun y c e z=>?_⟩,I.bs,Nat.le_trans I.ok.bsz I.sz,fun b o e hb=>?_,fun b hb z=>?_,I.stack,I.stkFree⟩
  · have e1:cenv.cells.lookup y=some c:=e1
    have e2:cenv.cells.lookup z=some c:=e2
    rw [hcl] at e1 e2
    refine cells_inj (fun p hp=>?_) (fun y z c a b=>I.ok.inj y z c (cm a).1 (cm b).1) (PySem.mem_of_lookup e1) (PySem.mem_of_lookup e2)
    rw [Heap.size_push]
    exact Nat.lt_succ_of_lt (cm (y:=p.1) (c:=p.2) hp).2
  · show ∃ c,cenv.cells.lookup y=some c
    have key:∀ k,cenv.kindOf y=some k->(k=.cell∨k=.free)->∃ c,cenv.cells.lookup y=some c:=fun k hk hk'=>by
     unfold Env.kindOf at hk
     rw [hsc] at hk
     obtain ⟨k',e,r⟩:=lookup_relS hk
     have:k'=.cell∨k'=.free:=by
      rcases r with rfl|⟨rfl,_⟩
      · exact hk'
      · exact .inr rfl
     rcases this with rfl|rfl
     · obtain ⟨c,hm⟩:=cells_has (n:=(s.heap.push { cls:=.type "dict",data:=.dict #[] }).objs.size) (acc:=cloFrom X.env.cells scope.names []) (PySem.mem_of_lookup e)
       obtain ⟨c',e'⟩:=mem_lookup hm
       exact ⟨c',by rw [hcl];exact e'⟩
     · obtain ⟨c,h1,_⟩:=look e
       exact ⟨c,h1⟩
    rcases hy with hy|hy
    · exact key _ hy (.inl rfl)
    · exact key _ hy (.inr rfl)
  · have z:(scope.names.lookup y==some NameKind.cell)=true:=z
    have z:scope.names.lookup y=some .cell:=by simpa using z
    have e:cenv.cells.lookup y=some c:=e
    rw [hcl] at e
    rcases cells_mem (PySem.mem_of_lookup e) with hm|⟨_,h2,_⟩
    · rcases cloFrom_mem hm with hm|⟨h1,_⟩
      · cases hm
      · have q:=ok.uniq _ h1
        rw [z] at q;cases q
    · rw [Heap.size_push] at h2
      exact Nat.le_of_succ_le h2
  · show b≠cenv.locals
    rw [hL];exact Nat.ne_of_lt (hfp b hb).2
  · have e:cenv.cells.lookup y=some c:=e
    rcases mem e with ⟨h1,_⟩|⟨h1,_⟩
    · exact (hfp b hb).1.2.2.2.2.1 y c h1 z
    · have h2:s.heap.objs.size+1<=b:=by rw [← z];exact h1
      exact absurd (Nat.lt_of_lt_of_le (hfp b hb).2 (Nat.le_of_succ_le h2)) (Nat.lt_irrefl _)
  · rcases (hfp b hb).1.2.2.2.1 with z|z
    · exact I.ok.noex b o e z
    · exact absurd (Nat.lt_of_lt_of_le (Heap.lt_size e) (Nat.le_trans I.ok.bsz z)) (Nat.lt_irrefl _)
  · rcases List.mem_cons.mp (I.stkSub b z) with z|z
    · exact (hfp b hb).1.2.1 z
    · exact (hfp b hb).1.2.2.1 z
 refine ⟨okB,rfl,I.bare,Un.kept kp,⟨fun _=>none,?_,fun i y av e1 e2 e3=>?_⟩,fun y c e=>?_,?_,fun y c e=>?_,fun p hp=>?_,I.hok.kept kp,by rw [wipe_length];exact I.len⟩
 · show Heap.Ns _ cenv.locals _
   rw [hL]
   exact Heap.Ns.keeps (Heap.Ns.new ..) fun b o e=>pushCells_keeps _ _ _ _ e
 · obtain ⟨e2,hne⟩:=wipe_some e2
   have hfr:scope.names.lookup y=some .free/\(cenv.kindOf y=some .cell∨cenv.kindOf y=some .free):=by
    have key:∀ k,cenv.scope.names.lookup y=some k->k=.local∨k=.cell∨k=.free->scope.names.lookup y=some .free/\(cenv.kindOf y=some .cell∨cenv.kindOf y=some .free):=fun k hk hk'=>by
     have hk0:=hk
     rw [hsc] at hk
     obtain ⟨k',e,r⟩:=lookup_relS hk
     have no:¬ (k'=.local∨k'=.cell):=fun hh=>by
      rcases ok.own _ (PySem.mem_of_lookup e) hh with e'|e'
      · obtain ⟨p,hp,hpy⟩:=List.mem_map.mp e'
        have e3:=ok.ix p hp
        have:p.1=y:=hpy
        rw [this] at e3
        exact hne (List.mem_map.mpr ⟨p,hp,nodup_ix hN e3 e1⟩)
      · exact e' (List.mem_of_getElem? e1)
     rcases r with rfl|⟨rfl,rfl⟩
     · rcases hk' with rfl|rfl|rfl
       · exact absurd (.inl rfl) no
       · exact absurd (.inr rfl) no
       · exact ⟨e,.inr hk0⟩
     · exact ⟨e,.inl hk0⟩
    have e3:Vis cenv.scope y:=e3
    rcases e3 with e3|e3|e3
    · exact key _ e3 (.inl rfl)
    · exact key _ e3 (.inr (.inl rfl))
    · exact key _ e3 (.inr (.inr rfl))
   obtain ⟨m,hn,hl⟩:=I.loc
   have hvis:Vis X.env.scope y:=(ok.free _ (PySem.mem_of_lookup hfr.1) rfl).elim (fun k=>.inr (.inl k)) (fun k=>.inr (.inr k))
   obtain ⟨w,r,q⟩:=hl i y av e1 e2 hvis
   refine ⟨w,r,.inr ⟨hfr.2,?_⟩⟩
   obtain ⟨c,h1,h2⟩:=look hfr.1
   rcases q with ⟨k,_⟩|⟨_,c',e',z⟩
   · have k:X.env.scope.names.lookup y=some .local:=k
     rcases ok.free _ (PySem.mem_of_lookup hfr.1) rfl with k'|k' <;> rw [show X.env.scope.names.lookup y=_ from k'] at k <;> cases k
   · rw [h2] at e';cases e'
     exact ⟨c,h1,z.keeps kp⟩
 · have e:cenv.cells.lookup y=some c:=e
   rcases mem e with ⟨h1,_⟩|⟨_,z⟩
   · obtain ⟨w,z⟩:=I.cell y c h1
     exact ⟨w,z.keeps kp⟩
   · exact ⟨_,z⟩
 · show H cenv.locals=none
   rw [hL];exact I.hok.fresh (Nat.le_refl _)
 · have e:cenv.cells.lookup y=some c:=e
   rcases mem e with ⟨h1,_⟩|⟨h1,_⟩
   · exact I.freeC y c h1
   · exact I.hok.fresh (Nat.le_of_succ_le h1)
 · exact absurd (show p∈([]:List (Addr×Obj))++[] from hp) (by simp)
theorem app_ok {E:Value->Shared->Prop}{D:Addr}{xs:List V}{y:V}{v:Value}{Q:Value->Shared->Prop}(I:Inv X pins σ H s)(hD:H D=some (.lst xs))(hz:xs.length < sizeLine)(r:RelV y v)
  (h:∀ s',Inv X pins σ (upd H D (.lst (xs++[y]))) s'->Q .none s'):wpAny (model X.prog X.w) X.A (call (.builtin "list.append") [.ref D,v]) Q E s:=by
 obtain ⟨hz',its,n,ri,e⟩:=I.hok D _ hD
 have hl:=ri.length
 refine append_at (hsz:=by rw [List.size_toArray];omega) e fun h' sb ho'=>?_
 refine h { s with heap:=h' } (I.write (t':=s.toks) (by rw [hD];trivial) (.inl rfl) (fun b u hb q=>(sb.2 b hb).trans q) ⟨_,ho'⟩ ⟨by rw [List.length_append];exact hz,its++[v],n+1,ri.append (.cons r .nil),?_⟩)
 rw [ho']
 simp
def PTs (X:Cx)(ifs:List Expr)(t:TT):Prop :=
 ∀ (pins:List (Addr×Obj)) (s:Shared) (σ:St) (H:Hp) (Q:Bool->Hp->Prop),Inv X pins σ H s->t σ H Q ->
  wpAny (model X.prog X.w) X.A (forIn ifs true fun c r=>if r=true then do let ok ← isTrue c X.env (eval c X.env);pure (ForInStep.yield ok) else pure (ForInStep.yield r)) (TP X pins σ Q) X.xe s
def tYes:TT:=fun _ H Q=>Q true H
theorem pts_nil:PTs X [] tYes:=fun _ _ _ H _ I h=>wpAny_tests_nil ⟨H,I,h⟩
theorem pts_one {c:Expr}{t:TT}(h:PT X c t):PTs X [c] t:=fun pins s σ H Q I hw=>wpAny_tests_one (h pins s σ H Q I hw)
end
theorem thnF {α:Type}{t:Sem α}{Q Q':α->Shared->Prop}{M:Model}{A:Around}{E:Value->Shared->Prop}{s:Shared}(h:wpAny M A t Q (fun _ _=>False) s)(hQ:∀ a s,Q a s->Q' a s):wpAny M A t Q' E s:=wpAny_mono h hQ fun _ _ z=>False.elim z
theorem compLoop_any {prog:Program}{w:World}{A:Around}{R:Result->Shared->Prop}{s:Shared}{elt target iter:Expr}{ifs:List Expr}{scope:Scope}{pos:Pos}{it acc:Value}{env:Env}(I:Nat->Shared->Prop)
  (turn:∀ n s,I n s->wpAny (model prog w) A (pyNext it) (fun r s₁=>match r with
   | none=>R (.ok .next) s₁
   | some v=>wpAny (model prog w) A (letOwnedTupleGo target it v) (fun _ s₁'=>wpAny (model prog w) A (assign target env v) (fun _ s₂ =>
     wpAny (model prog w) A (forIn ifs true fun c r=>if r=true then do let ok ← isTrue c env (eval c env);pure (ForInStep.yield ok) else pure (ForInStep.yield r)) (fun ok s₃ =>
      if ok=true then wpAny (model prog w) A (eval elt env) (fun x s₄ =>
       wpAny (model prog w) A (call (.builtin "list.append") [acc,x]) (fun _ s₅=>∃ m,m < n/\I m s₅) (notedBy (model prog w) A env fun e s'=>R (.error e) s') s₄) (notedBy (model prog w) A env fun e s'=>R (.error e) s') s₃
      else ∃ m,m < n/\I m s₃) (notedBy (model prog w) A env fun e s'=>R (.error e) s') s₂) (notedBy (model prog w) A env fun e s'=>R (.error e) s') s₁') (notedBy (model prog w) A env fun e s'=>R (.error e) s') s₁) (notedBy (model prog w) A env fun e s'=>R (.error e) s') s)
  (n:Nat) (h:I n s) :
  codeAny (model prog w) A (.compLoop (.ListComp elt [⟨target,iter,ifs,0⟩] scope pos) 0 it acc env) R s:=by
 refine codeAny_loop rfl I (fun n s hI=>?_) n h
 show wpAny _ A ((compTurn (.ListComp elt [⟨target,iter,ifs,0⟩] scope pos) 0 it acc env).onRaise (fun x=>do noteFrame x env;theTreesLotGoes x)) _ _ s
 refine wpAny_noted ?_
 rw [compTurn_list]
 refine wpAny_bind (wpAny_standAt (wpAny_bind (wpAny_mono (turn n s hI) (fun r s₁ h₁=>?_) fun _ _ h'=>h')))
 cases r with
 | none=>exact wpAny_pure h₁
 | some v =>
  refine wpAny_bind (wpAny_mono h₁ (fun _ s₁' h₁'=>?_) fun _ _ h'=>h')
  refine wpAny_bind (wpAny_mono h₁' (fun _ s₂ h₂=>wpAny_bind (wpAny_mono h₂ (fun ok s₃ h₃=>?_) fun _ _ h'=>h')) fun _ _ h'=>h')
  cases ok with
  | false=>exact wpAny_pure ⟨rfl,h₃⟩
  | true =>
   exact wpAny_bind (wpAny_bind (wpAny_mono h₃ (fun x s₄ h₄=>wpAny_bind (wpAny_mono h₄ (fun _ s₅ h₅=>wpAny_pure (wpAny_pure ⟨rfl,h₅⟩)) fun _ _ h'=>h')) fun _ _ h'=>h'))
section
variable {X:Cx}
def tLc (wi:TI) (g:TG) (tt:TT) (te:TE) (vs:List Nat):TE:=fun σ H Q=>wi σ H fun J H1=>∀ D,H1 D=none->∃ W:Nat->Nat->Hp->Prop,(∃ m,W 0 m (upd H1 D (.lst [])))/\∀ i m H,W i m H ->
 (J.stop i H/\Q (.ref D) H)∨(J.go i H/\∃ Nx:Hp->Prop,(∀ H',Nx H'->∃ m',m' < m/\W (i+1) m' H')/\∀ x H',J.yld i H x H'->g x (wipe σ vs) H' fun σ2 H2=>wipe σ2 vs=wipe σ vs/\tt σ2 H2 fun b H3 =>
  if b=true then te σ2 H3 fun y H4=>∃ acc,H4 D=some (.lst acc)/\acc.length < sizeLine/\Nx (upd H4 D (.lst (acc++[y]))) else Nx H3)
theorem lc_core {pins:List (Addr×Obj)}{s:Shared}{σ:St}{H:Hp}{Q:VK}{elt tg iter:Expr}{ifs:List Expr}{scope:Scope}{own:List (Str×Nat)}{pos pos':Pos}{wi:TI}{g:TG}{tt:TT}{te:TE}{use:Option (Value->Sem Unit)}{Qf:Value->Shared->Prop}
  (hc:X.calm=true)(hN:X.N.Nodup)(I:Inv X pins σ H s)(hi:PI X tg iter wi)(ok:BlkOk X.N X.env.scope scope own)
  (hg:∀ (s:Shared) (H:Hp) (C:Addr) (cl:List (Str×Addr)) (fp:List Addr),PG (X.blk s H scope (compEnvC scope cl C X.env) fp) tg g)(ht:∀ (s:Shared) (H:Hp) (C:Addr) (cl:List (Str×Addr)) (fp:List Addr),PTs (X.blk s H scope (compEnvC scope cl C X.env) fp) ifs tt)
  (he:∀ (s:Shared) (H:Hp) (C:Addr) (cl:List (Str×Addr)) (fp:List Addr),PE (X.blk s H scope (compEnvC scope cl C X.env) fp) elt te)(hs:∀ x,foldedSetIterable iter X.env x=pure x)
  (h:tLc wi g tt te (own.map (·.2)) σ H Q)
  (hRR:∀ D C s' m H',Inv X pins σ H' s'->Q (.ref D) H'->s'.heap.Ns C m->FpOk X pins H' C->compPost (model X.prog X.w) X.A X.xe use Qf (.ref D) C (.ok .next) s') :
  wpAny (model X.prog X.w) X.A (comprehension (.ListComp elt [⟨tg,iter,ifs,0⟩] scope pos) scope X.env pos' (newList []) false (eval iter X.env) use) Qf X.xe s:=by
 have hfree:∀ y∈scope.names,y.2=.free->∃ c,X.env.cells.lookup y.1=some c:=fun y hy e=>by
  rcases ok.free y hy e with k|k
  · exact I.ok.has _ (.inl k)
  · exact I.ok.has _ (.inr k)
 refine wpAny_comprehension_free (use:=use) rfl hs (closure_ok hfree) ok.kind (fun y hy e=>by rw [ok.uniq y hy,e])
  (thn (hi pins s σ H _ I h) fun xv s1 hx=>thn hx fun itv s2 h2=>?_)
 obtain ⟨it,fp,tn,J,H2,e,I2,T,st2,f2,q⟩:=h2
 subst e
 refine wpAny_newObj_type (newEnv_comp ?_) (by show 0<=sizeLine;decide)
 generalize hD:s2.heap.objs.size=D
 have hDn:H2 D=none:=I2.hok.fresh (Nat.le_of_eq hD)
 obtain ⟨W,⟨m0,w0⟩,turn⟩:=q D hDn
 generalize hs3:({ s2 with heap:=s2.heap.push { cls:=.type "list",data:=.seq ([]:List Value).toArray } }:Shared)=s3
 have I3:Inv X pins σ (upd H2 D (.lst [])) s3:=by
  rw [← hs3]
  refine I2.laid (t':=s2.toks) (fun b o e=>Heap.get?_push_of_some _ e) (Nat.le_of_eq hD) ⟨Nat.zero_le _,[],0,.nil,?_⟩
  rw [← hD]
  exact Heap.get?_push_size _ rfl
 have h3:s3.heap=s2.heap.push { cls:=.type "list",data:=.seq ([]:List Value).toArray }:=by rw [← hs3]
 have sz:∀ b∈fp,b < s2.heap.objs.size:=fun b hb=>by
  obtain ⟨o,e,_⟩:=T.obj _ _ st2 b hb
  exact Heap.lt_size e
 have f3:∀ b∈fp,FpOk X pins (upd H2 D (.lst [])) b/\b < s3.heap.objs.size:=fun b hb=>by
  have hlt:=sz b hb
  refine ⟨⟨?_,(f2 b hb).2⟩,by rw [h3,Heap.size_push];exact Nat.lt_succ_of_lt hlt⟩
  rw [upd_ne (by rw [← hD];exact Nat.ne_of_lt hlt)]
  exact (f2 b hb).1
 have st3:tn 0 s3.heap:=T.keep _ _ _ st2 fun b _ o e=>by rw [h3];exact Heap.get?_push_of_some _ e
 have I4:=block_start I3 ok hN f3
 have pg:=hg s3 (upd H2 D (.lst [])) s3.heap.objs.size (cellsFrom (s3.heap.objs.size+1) scope.names (cloFrom X.env.cells scope.names [])) fp
 have pt:=ht s3 (upd H2 D (.lst [])) s3.heap.objs.size (cellsFrom (s3.heap.objs.size+1) scope.names (cloFrom X.env.cells scope.names [])) fp
 have pe:=he s3 (upd H2 D (.lst [])) s3.heap.objs.size (cellsFrom (s3.heap.objs.size+1) scope.names (cloFrom X.env.cells scope.names [])) fp
 show codeAny _ _ (.compStart (.ListComp elt [⟨tg,iter,ifs,0⟩] scope pos) 0 (.ref it) (.ref D) (compEnvC scope (cellsFrom (s3.heap.objs.size+1) scope.names (cloFrom X.env.cells scope.names [])) s3.heap.objs.size X.env)) (compPost (model X.prog X.w) X.A X.xe use Qf (.ref D) s3.heap.objs.size) { s3 with heap:=pushCells (s3.heap.push { cls:=.type "dict",data:=.dict #[] }) scope.names }
 have nfp:∀ b∈fp,(upd H2 D (.lst [])) b=none:=fun b hb=>(f3 b hb).1.1
 generalize hce:compEnvC scope (cellsFrom (s3.heap.objs.size+1) scope.names (cloFrom X.env.cells scope.names [])) s3.heap.objs.size X.env=ce at I4 pg pt pe ⊢
 have cL:ce.locals=s3.heap.objs.size:=by subst hce;rfl
 generalize hH3:upd H2 D (.lst [])=H3 at I3 I4 pg pt pe w0 nfp f3
 generalize hs4:({ s3 with heap:=pushCells (s3.heap.push { cls:=.type "dict",data:=.dict #[] }) scope.names }:Shared)=s4 at I4 ⊢
 have st4:tn 0 s4.heap:=T.keep _ _ _ st3 fun b _ o e=>by rw [← hs4];exact pushCells_keeps _ _ _ _ (Heap.get?_push_of_some _ e)
 have stat:∀ {σ':St} {H':Hp} {s':Shared},Inv (X.blk s3 H3 scope ce fp) [] σ' H' s'->(∀ b∈fp,H' b=none)->∀ b∈fp,FpOk (X.blk s3 H3 scope ce fp) [] H' b:=fun {σ' H' s'} I' hn b hb =>
  ⟨hn b hb,(I'.ok.exf b hb).1,I'.ok.exfs b hb,.inl hb,fun x c e=>(I'.ok.exf b hb).2 x c e,fun p hp=>absurd (show p∈([]:List (Addr×Obj))++[] from hp) (by simp)⟩
 have loop:codeAny (model X.prog X.w) X.A (.compLoop (.ListComp elt [⟨tg,iter,ifs,0⟩] scope pos) 0 (.ref it) (.ref D) ce) (compPost (model X.prog X.w) X.A X.xe use Qf (.ref D) s3.heap.objs.size) s4:=by
  refine compLoop_any (fun n s'=>∃ i H',Inv (X.blk s3 H3 scope ce fp) [] (wipe σ (own.map (·.2))) H' s'/\tn i s'.heap/\(∀ b∈fp,H' b=none)/\W i n H') ?_ m0 ⟨0,H3,I4,st4,nfp,w0⟩
  rintro n s5 ⟨i,H5,I5,st5,n5,w5⟩
  rcases turn i n H5 w5 with ⟨stop,qq⟩|⟨go,Nx,hNx,step⟩
  · have td:=T.done (X.blk s3 H3 scope ce fp) rfl rfl rfl hc i [] s5 _ H5 (fun _ _=>False) I5 (stat I5 n5) st5 stop
    refine thnF td fun r s6 ⟨hr,I6⟩=>?_
    subst hr
    have I7:Inv X pins σ H5 s6:=I3.call' (ch:=fp) I6.os I6.base I6.hok I6.bare fun b hb=>⟨(f3 b hb).1.2.2.2.1,(f3 b hb).1.2.1,(f3 b hb).1.2.2.2.2.1,(f3 b hb).1.2.2.2.2.2⟩
    have nC:H5 s3.heap.objs.size=none:=by
     have z:H5 ce.locals=none:=I6.free
     rw [cL] at z
     exact z
    obtain ⟨m,hn,_⟩:=I6.loc
    have hn:s6.heap.Ns ce.locals m:=hn
    rw [cL] at hn
    exact hRR D s3.heap.objs.size s6 m H5 I7 qq hn (I3.fpOk (Nat.le_refl _) nC)
  · have ti:=T.item (X.blk s3 H3 scope ce fp) rfl rfl rfl hc i [] s5 _ H5 (fun _ _=>False) I5 (stat I5 n5) st5 go
    refine thnF ti fun r s6 ⟨u,hr,h6⟩=>?_
    subst hr
    refine thnF h6 fun _ s7 ⟨x,H7,I7,r7,y7,st7,n7⟩=>?_
    have I7':=I7.pinned (stat I7 n7) (T.obj _ _ st7)
    refine thnF (pg _ s7 _ H7 x u _ I7' r7 (step x H7 y7)) fun _ s8 ⟨σ8,H8,I8,hw8,q8⟩=>?_
    refine thnF (pt _ s8 σ8 H8 _ I8 q8) fun b s9 ⟨H9,I9,q9⟩=>?_
    have fin:∀ {s':Shared} {H':Hp},Inv (X.blk s3 H3 scope ce fp) ([]++pinsAt fp s7.heap) σ8 H' s'->Nx H'->∃ m,m < n/\∃ i H',Inv (X.blk s3 H3 scope ce fp) [] (wipe σ (own.map (·.2))) H' s'/\tn i s'.heap/\(∀ b∈fp,H' b=none)/\W i m H':=fun {s' H'} I' nx=>by
     obtain ⟨m',hm,w'⟩:=hNx H' nx
     have pin':∀ b∈fp,∀ o,s7.heap.get? b=some o->s'.heap.get? b=some o/\H' b=none:=fun b hb o e =>
      let z:=I'.pin (b,o) (List.mem_append_right _ (List.mem_append_right _ (mem_pinsAt hb e)))
      ⟨z.1,z.2.1⟩
     have hl:(wipe σ (own.map (·.2))).length=σ8.length:=by rw [← hw8,wipe_length]
     refine ⟨m',hm,i+1,H',(I'.unpinned (pins:=[])).weak hl (fun j v e=>?_),T.keep _ _ _ st7 fun b hb o e=>(pin' b hb o e).1,fun b hb=>?_,w'⟩
     · rw [← hw8] at e
       exact (wipe_some e).1
     · obtain ⟨o,e,_⟩:=T.obj _ _ st7 b hb
       exact (pin' b hb o e).2
    cases b with
    | false =>
     simp only [Bool.false_eq_true,if_false] at q9 ⊢
     exact fin I9 q9
    | true =>
     simp only [if_true] at q9 ⊢
     refine thnF (pe _ s9 σ8 H9 _ I9 q9) fun z s10 ⟨yv,H10,I10,r10,acc,hD10,hz10,nx⟩=>?_
     exact app_ok (X:=X.blk s3 H3 scope ce fp) I10 hD10 hz10 r10 fun s11 I11=>fin I11 nx
 exact codeAny_compStart_list loop (T.self X.A 0 _ _ _ st4 loop)
theorem pe_lc {elt tg iter:Expr}{ifs:List Expr}{scope:Scope}{own:List (Str×Nat)}{pos:Pos}{wi:TI}{g:TG}{tt:TT}{te:TE}(hc:X.calm=true)(hN:X.N.Nodup)(hi:PI X tg iter wi)(ok:BlkOk X.N X.env.scope scope own)
  (hg:∀ (s:Shared) (H:Hp) (C:Addr) (cl:List (Str×Addr)) (fp:List Addr),PG (X.blk s H scope (compEnvC scope cl C X.env) fp) tg g)(ht:∀ (s:Shared) (H:Hp) (C:Addr) (cl:List (Str×Addr)) (fp:List Addr),PTs (X.blk s H scope (compEnvC scope cl C X.env) fp) ifs tt)
  (he:∀ (s:Shared) (H:Hp) (C:Addr) (cl:List (Str×Addr)) (fp:List Addr),PE (X.blk s H scope (compEnvC scope cl C X.env) fp) elt te)(hs:∀ x,foldedSetIterable iter X.env x=pure x:=by intro _;rfl) :
  PE X (.ListComp elt [⟨tg,iter,ifs,0⟩] scope pos) (tLc wi g tt te (own.map (·.2))):=by
 intro pins s σ H Q I h
 rw [eval_ListComp]
 refine lc_core hc hN I hi ok hg ht he hs h fun D C s' m H' I' q hn f=>⟨m,hn,fun h'' sb=>?_⟩
 obtain ⟨f0,f1,f2,f3,f4,f5⟩:=f
 exact ⟨.ref D,H',I'.turned (t':=s'.toks) (fun b o hb e=>(sb.2 b hb).trans e) f0 f1 f3 f4 f5,rfl,q⟩
theorem ps_setLc {i:Nat}{y:Str}{py:Pos}{elt tg iter:Expr}{ifs:List Expr}{scope:Scope}{own:List (Str×Nat)}{pos spos:Pos}{wi:TI}{g:TG}{tt:TT}{te:TE}(hc:X.calm=true)(hN:X.N.Nodup)(hy:X.N[i]?=some y)(hyl:X.env.scope.names.lookup y=some .local)
  (hsw:swapsWith (.ListComp elt [⟨tg,iter,ifs,0⟩] scope pos) (some (.Name y py)) spos.line X.env=pure true)(hi:PI X tg iter wi)(ok:BlkOk X.N X.env.scope scope own)
  (hg:∀ (s:Shared) (H:Hp) (C:Addr) (cl:List (Str×Addr)) (fp:List Addr),PG (X.blk s H scope (compEnvC scope cl C X.env) fp) tg g)(ht:∀ (s:Shared) (H:Hp) (C:Addr) (cl:List (Str×Addr)) (fp:List Addr),PTs (X.blk s H scope (compEnvC scope cl C X.env) fp) ifs tt)
  (he:∀ (s:Shared) (H:Hp) (C:Addr) (cl:List (Str×Addr)) (fp:List Addr),PE (X.blk s H scope (compEnvC scope cl C X.env) fp) elt te)(hs:∀ x,foldedSetIterable iter X.env x=pure x:=by intro _;rfl) :
  PS X (.Assign [.Name y py] (.ListComp elt [⟨tg,iter,ifs,0⟩] scope pos) spos) (tAsg (tLc wi g tt te (own.map (·.2))) (gName i)):=by
 intro pins s σ H D I h
 rw [exec_Assign_Name_used _ _ _ _ hsw]
 refine wpAny_bind (wpAny_standAt (wpAny_bind ?_))
 show wpAny _ X.A (do let _ ← comprehension (.ListComp elt [⟨tg,iter,ifs,0⟩] scope pos) scope X.env (firstIterPos [⟨tg,iter,ifs,0⟩] pos) (newList []) false (eval iter X.env) (some (assign (.Name y py) X.env))) _ _ s
 have h:tLc wi g tt te (own.map (·.2)) σ H (fun x H1=>gName i x σ H1 D.nx):=h
 refine wpAny_bind (thn (lc_core (Qf:=fun _ s'=>SP X pins D .next s') hc hN I hi ok hg ht he hs h fun L C s' m H' I' q hn f=>?_) fun _ s' hq=>wpAny_pure (wpAny_pure hq))
 show wpAny _ _ (assign (.Name y py) X.env (.ref L)) _ _ _
 refine wpAny_assign_Name (store_ok2 (v:=V.ref L) I' hN hy (.inl hyl) rfl (fun s2 I2 ⟨a,sb,ha⟩=>?_) (.inr hyl))
 obtain ⟨f0,f1,f2,f3,f4,f5⟩:=f
 have haC:C≠a:=by
  rcases ha with z|z
  · rw [z];exact f1
  · exact fun e=>f4 y a z e.symm
 refine ⟨m,hn.sameBut sb haC,fun h3 sb3=>?_⟩
 exact ⟨_,H',I2.turned (t':=s2.toks) (fun b o hb e=>(sb3.2 b hb).trans e) f0 f1 f3 f4 f5,q⟩
theorem sw_true {elt:Expr}{gs:List Comprehension}{scope:Scope}{pos py:Pos}{y:Str}{l:Nat}{env:Env}(hk:env.scope.kind=.function)(hy:env.scope.names.lookup y=some .local)(hl:(py.line==pos.line)=true)
  (ha:(scope.names.any fun (n,k)=>n==y&&(k==.local||k==.cell))=false):swapsWith (.ListComp elt gs scope pos) (some (.Name y py)) l env=pure true:=by
 have ky:env.kindOf y=some .local:=hy
 have hb:env.blockKind=.function:=by unfold Env.blockKind;rw [hk];rfl
 unfold swapsWith
 simp only [hb,ky,ha,Expr.pos,hl]
 rfl
end
theorem lc_range {lo:Int}{n:Nat}{g:TG}{tt:TT}{te:TE}{vs:List Nat}{σ:St}{H1:Hp}{D:Addr}{Qd:Hp->Prop}(Pv:Nat->Hp->Prop)(h0:Pv 0 (upd H1 D (.lst [])))
  (hs:∀ i H,i < n->Pv i H->g (.int (lo+i)) (wipe σ vs) H fun σ2 H2=>wipe σ2 vs=wipe σ vs/\tt σ2 H2 fun b H3 =>
   if b=true then te σ2 H3 fun y H4=>∃ acc,H4 D=some (.lst acc)/\acc.length < sizeLine/\Pv (i+1) (upd H4 D (.lst (acc++[y]))) else Pv (i+1) H3) (hd:∀ H,Pv n H->Qd H) :
  ∃ W:Nat->Nat->Hp->Prop,(∃ m,W 0 m (upd H1 D (.lst [])))/\∀ i m H,W i m H ->
   ((Itr lo n).stop i H/\Qd H)∨((Itr lo n).go i H/\∃ Nx:Hp->Prop,(∀ H',Nx H'->∃ m',m' < m/\W (i+1) m' H')/\∀ x H',(Itr lo n).yld i H x H'->g x (wipe σ vs) H' fun σ2 H2=>wipe σ2 vs=wipe σ vs/\tt σ2 H2 fun b H3 =>
    if b=true then te σ2 H3 fun y H4=>∃ acc,H4 D=some (.lst acc)/\acc.length < sizeLine/\Nx (upd H4 D (.lst (acc++[y]))) else Nx H3):=by
 refine ⟨fun i m H=>m=n - i/\i<=n/\Pv i H,⟨n,by simp,Nat.zero_le _,h0⟩,?_⟩
 rintro i m H ⟨rfl,hi,p⟩
 by_cases hlt:i < n
 · refine .inr ⟨hlt,Pv (i+1),fun H' p'=>⟨n - (i+1),by omega,rfl,hlt,p'⟩,fun x H' y=>?_⟩
   obtain ⟨e,y⟩:=y
   subst e y
   exact hs i _ hlt p
 · have e:i=n:=by omega
   subst e
   exact .inl ⟨Nat.le_refl _,hd H p⟩
theorem lc_list {K:PySem.W.Frag}{a:Addr}{xs:List V}{g:TG}{tt:TT}{te:TE}{vs:List Nat}{σ:St}{H1:Hp}{D:Addr}{Qd:Hp->Prop}(Pv:Nat->Hp->Prop)(h0:Pv 0 (upd H1 D (.lst [])))(hl:∀ i H,i<=xs.length->Pv i H->SqL K H a xs)
  (hs:∀ i x H,xs[i]?=some x->Pv i H->g x (wipe σ vs) H fun σ2 H2=>wipe σ2 vs=wipe σ vs/\tt σ2 H2 fun b H3 =>
   if b=true then te σ2 H3 fun y H4=>∃ acc,H4 D=some (.lst acc)/\acc.length < sizeLine/\Pv (i+1) (upd H4 D (.lst (acc++[y]))) else Pv (i+1) H3) (hd:∀ H,Pv xs.length H->Qd H) :
  ∃ W:Nat->Nat->Hp->Prop,(∃ m,W 0 m (upd H1 D (.lst [])))/\∀ i m H,W i m H ->
   ((Itl K a).stop i H/\Qd H)∨((Itl K a).go i H/\∃ Nx:Hp->Prop,(∀ H',Nx H'->∃ m',m' < m/\W (i+1) m' H')/\∀ x H',(Itl K a).yld i H x H'->g x (wipe σ vs) H' fun σ2 H2=>wipe σ2 vs=wipe σ vs/\tt σ2 H2 fun b H3 =>
    if b=true then te σ2 H3 fun y H4=>∃ acc,H4 D=some (.lst acc)/\acc.length < sizeLine/\Nx (upd H4 D (.lst (acc++[y]))) else Nx H3):=by
 refine ⟨fun i m H=>m=xs.length - i/\i<=xs.length/\Pv i H,⟨xs.length,by simp,Nat.zero_le _,h0⟩,?_⟩
 rintro i m H ⟨rfl,hi,p⟩
 have q:=hl i H hi p
 by_cases hlt:i < xs.length
 · refine .inr ⟨⟨xs,xs[i],q,by simp [hlt]⟩,Pv (i+1),fun H' p'=>⟨xs.length - (i+1),by omega,rfl,hlt,p'⟩,fun x H' y=>?_⟩
   obtain ⟨e,y⟩:=y
   subst e
   exact hs i x _ (y xs q) p
 · have e:i=xs.length:=by omega
   subst e
   exact .inl ⟨⟨xs,q,Nat.le_refl _⟩,hd H p⟩
theorem lc_tup {K:PySem.W.Frag}{a:Addr}{xs:List V}{g:TG}{tt:TT}{te:TE}{vs:List Nat}{σ:St}{H1:Hp}{D:Addr}{Qd:Hp->Prop}(Pv:Nat->Hp->Prop)(h0:Pv 0 (upd H1 D (.lst [])))(hl:∀ i H,i<=xs.length->Pv i H->SqT K H a xs)
  (hs:∀ i x H,xs[i]?=some x->Pv i H->g x (wipe σ vs) H fun σ2 H2=>wipe σ2 vs=wipe σ vs/\tt σ2 H2 fun b H3 =>
   if b=true then te σ2 H3 fun y H4=>∃ acc,H4 D=some (.lst acc)/\acc.length < sizeLine/\Pv (i+1) (upd H4 D (.lst (acc++[y]))) else Pv (i+1) H3) (hd:∀ H,Pv xs.length H->Qd H) :
  ∃ W:Nat->Nat->Hp->Prop,(∃ m,W 0 m (upd H1 D (.lst [])))/\∀ i m H,W i m H ->
   ((Itt K a).stop i H/\Qd H)∨((Itt K a).go i H/\∃ Nx:Hp->Prop,(∀ H',Nx H'->∃ m',m' < m/\W (i+1) m' H')/\∀ x H',(Itt K a).yld i H x H'->g x (wipe σ vs) H' fun σ2 H2=>wipe σ2 vs=wipe σ vs/\tt σ2 H2 fun b H3 =>
    if b=true then te σ2 H3 fun y H4=>∃ acc,H4 D=some (.lst acc)/\acc.length < sizeLine/\Nx (upd H4 D (.lst (acc++[y]))) else Nx H3):=by
 refine ⟨fun i m H=>m=xs.length - i/\i<=xs.length/\Pv i H,⟨xs.length,by simp,Nat.zero_le _,h0⟩,?_⟩
 rintro i m H ⟨rfl,hi,p⟩
 have q:=hl i H hi p
 by_cases hlt:i < xs.length
 · refine .inr ⟨⟨xs,xs[i],q,by simp [hlt]⟩,Pv (i+1),fun H' p'=>⟨xs.length - (i+1),by omega,rfl,hlt,p'⟩,fun x H' y=>?_⟩
   obtain ⟨e,y⟩:=y
   subst e
   exact hs i x _ (y xs q) p
 · have e:i=xs.length:=by omega
   subst e
   exact .inl ⟨⟨xs,q,Nat.le_refl _⟩,hd H p⟩
def blkC (N:List Str)(sc scope:Scope)(own:List (Str×Nat)):Bool :=
 (match scope.kind with|.function=>true|_=>false)&&(scope.names.all fun y=>decide (scope.names.lookup y.1=some y.2))&&(own.all fun p=>decide (N[p.2]?=some p.1)) &&
  (scope.names.all fun y=>match y.2 with
   | .free=>(match sc.names.lookup y.1 with|some .cell=>true|some .free=>true|_=>false)
   | .local=>decide (y.1∈own.map (·.1))||decide (y.1∉N)
   | .cell=>decide (y.1∈own.map (·.1))||decide (y.1∉N)
   | _=>true)
theorem blkOk_by {N:List Str}{sc scope:Scope}{own:List (Str×Nat)}(h:blkC N sc scope own=true):BlkOk N sc scope own:=by
 unfold blkC at h
 simp only [Bool.and_eq_true,List.all_eq_true,decide_eq_true_eq] at h
 obtain ⟨⟨⟨h1,h2⟩,h3⟩,h4⟩:=h
 refine ⟨?_,h2,h3,fun y hy e=>?_,fun y hy e=>?_⟩
 · split at h1
   · assumption
   · cases h1
 · have q:=h4 y hy
   simp only [e] at q
   split at q <;> first|exact .inl (by assumption)|exact .inr (by assumption)|cases q
 · have q:=h4 y hy
   rcases e with e|e <;> (simp only [e,Bool.or_eq_true,decide_eq_true_eq] at q;exact q)
section
variable {prog:Program}{w:World}{A:Around}{R:Result->Shared->Prop}{s:Shared}{elt t0 i0 t1 i1:Expr}{ifs0 ifs1:List Expr}{scope:Scope}{pos:Pos}{it acc:Value}{env:Env}
end
section
variable {X:Cx}
end
section
variable {κ:Type} [DecidableEq κ]
def valV (kvs:List (κ×V)) (k:κ):Option V:=(kvs.find? fun kv=>decide (kv.1=k)).map (·.2)
def putK (kvs:List (κ×V))(k:κ)(v:V):List (κ×V) :=
 if (kvs.any fun kv=>decide (kv.1=k))=true then kvs.map (fun kv=>if kv.1=k then (kv.1,v) else kv) else kvs++[(k,v)]
theorem valV_pos {p:κ×V}{r:List (κ×V)}{k:κ}(e:p.1=k):valV (p::r) k=some p.2:=by simp [valV,List.find?_cons,e]
theorem valV_neg {p:κ×V}{r:List (κ×V)}{k:κ}(e:¬ p.1=k):valV (p::r) k=valV r k:=by simp [valV,List.find?_cons,e]
theorem valV_any (k:κ):∀ kvs:List (κ×V),(kvs.any fun kv=>decide (kv.1=k))=(valV kvs k).isSome
 | []=>rfl
 | p::r=>by
  rw [List.any_cons]
  by_cases e:p.1=k
  · simp only [valV_pos e,decide_eq_true e,Bool.true_or,Option.isSome_some]
  · rw [valV_neg e,decide_eq_false e,Bool.false_or];exact valV_any k r
theorem valV_map (k j:κ)(y:V):∀ kvs:List (κ×V),valV (kvs.map fun kv=>if kv.1=k then (kv.1,y) else kv) j=(valV kvs j).map fun x=>if j=k then y else x
 | []=>rfl
 | p::r=>by
  have ih:=valV_map k j y r
  rw [List.map_cons]
  by_cases h:p.1=k
  · rw [if_pos h]
    by_cases e:p.1=j
    · rw [valV_pos (p:=(p.1,y)) e,valV_pos e,Option.map_some,if_pos (e.symm.trans h)]
    · rw [valV_neg (p:=(p.1,y)) e,valV_neg e,ih]
  · rw [if_neg h]
    by_cases e:p.1=j
    · rw [valV_pos (p:=p) e,valV_pos e,Option.map_some,if_neg (fun z=>h (e.trans z))]
    · rw [valV_neg (p:=p) e,valV_neg e,ih]
theorem valV_snoc (k j:κ)(y:V):∀ kvs:List (κ×V),valV kvs k=none->valV (kvs++[(k,y)]) j=if j=k then some y else valV kvs j
 | [],_=>by
  by_cases e:k=j
  · rw [if_pos e.symm];exact valV_pos (p:=(k,y)) e
  · rw [if_neg (fun z=>e z.symm)];exact valV_neg (p:=(k,y)) e
 | p::r,hn=>by
  rw [List.cons_append]
  have hk:¬ p.1=k:=fun z=>by rw [valV_pos z] at hn;cases hn
  rw [valV_neg hk] at hn
  have ih:=valV_snoc k j y r hn
  by_cases e:p.1=j
  · rw [valV_pos e,valV_pos e,if_neg (fun z=>hk (e.trans z))]
  · rw [valV_neg e,valV_neg e,ih]
theorem valV_put (kvs:List (κ×V))(k j:κ)(y:V):valV (putK kvs k y) j=if j=k then some y else valV kvs j:=by
 unfold putK
 by_cases a:(kvs.any fun kv=>decide (kv.1=k))=true
 · rw [if_pos a,valV_map]
   rw [valV_any] at a
   by_cases e:j=k
   · obtain ⟨x,hx⟩:=Option.isSome_iff_exists.mp a
     rw [if_pos e,e,hx,Option.map_some,if_pos rfl]
   · rw [if_neg e]
     cases valV kvs j with
     | none=>rfl
     | some x=>rw [Option.map_some,if_neg e]
 · rw [if_neg a]
   refine valV_snoc k j y kvs ?_
   rw [valV_any] at a
   cases q:valV kvs k with
   | none=>rfl
   | some x=>rw [q] at a;exact (a rfl).elim
theorem length_putK (kvs:List (κ×V))(k:κ)(v:V):(putK kvs k v).length<=kvs.length+1:=by
 unfold putK
 split
 · rw [List.length_map];omega
 · rw [List.length_append,List.length_cons,List.length_nil];omega
theorem RelO.isSome_eq {o:Option V}{u:Option Value}(r:RelO o u):o.isSome=u.isSome:=by
 cases o with
 | none=>cases u with
  | none=>rfl
  | some _=>exact (show False from r).elim
 | some _=>cases u with
  | none=>exact (show False from r).elim
  | some _=>rfl
theorem KV.val {kvs:List (κ×V)}{vs:List (κ×Value)}(r:KV kvs vs)(k:κ):RelO (valV kvs k) (valueAt vs k):=by
 unfold KV at r
 induction r with
 | nil=>exact True.intro
 | @cons p q ps qs h t ih =>
  obtain ⟨h1,h2⟩:=h
  by_cases e:p.1=k
  · have e':q.1=k:=h1.symm.trans e
    have b:valueAt (q::qs) k=some q.2:=by simp [valueAt,List.find?_cons,e']
    rw [valV_pos e,b];exact h2
  · have e':¬ q.1=k:=fun z=>e (h1.trans z)
    have b:valueAt (q::qs) k=valueAt qs k:=by simp [valueAt,List.find?_cons,e']
    rw [valV_neg e,b];exact ih
theorem KV.any {kvs:List (κ×V)}{vs:List (κ×Value)}(r:KV kvs vs)(k:κ):(kvs.any fun kv=>decide (kv.1=k))=vs.any fun kv=>decide (kv.1=k):=by
 unfold KV at r
 induction r with
 | nil=>rfl
 | cons h t ih=>rw [List.any_cons,List.any_cons,ih,h.1]
theorem KV.repl {kvs:List (κ×V)}{vs:List (κ×Value)}(r:KV kvs vs)(k:κ){y:V}{u:Value}(ry:RelV y u) :
  KV (kvs.map fun kv=>if kv.1=k then (kv.1,y) else kv) (vs.map fun kv=>if kv.1=k then (kv.1,u) else kv):=by
 unfold KV at r ⊢
 induction r with
 | nil=>exact .nil
 | @cons p q ps qs h t ih =>
  rw [List.map_cons,List.map_cons]
  refine .cons ?_ ih
  obtain ⟨h1,h2⟩:=h
  by_cases e:p.1=k
  · rw [if_pos e,if_pos (h1.symm.trans e)];exact ⟨h1,ry⟩
  · rw [if_neg e,if_neg (fun z=>e (h1.trans z))];exact ⟨h1,h2⟩
theorem KV.put {kvs:List (κ×V)}{vs:List (κ×Value)}(r:KV kvs vs)(k:κ){y:V}{u:Value}(ry:RelV y u):KV (putK kvs k y) (stored vs k u):=by
 unfold putK stored
 rw [r.any k]
 by_cases e:(vs.any fun kv=>decide (kv.1=k))=true
 · rw [if_pos e,if_pos e];exact r.repl k ry
 · rw [if_neg e,if_neg e];exact Paired.snoc r ⟨rfl,ry⟩
theorem KV.length {kvs:List (κ×V)}{vs:List (κ×Value)}(r:KV kvs vs):kvs.length=vs.length:=Paired.length r
end
theorem kV_is {P:Program}{w:World}{k:Key}{u:Value}(r:RelV (kV k) u):(mixKind P w).is k u=true:=by
 cases k with
 | inl i=>obtain ⟨t,e⟩:=(show ∃ t,u=Value.int i t from r);subst e;exact mixKind_int P w i t
 | inr x=>obtain ⟨t,e⟩:=(show ∃ t,u=Value.str x t from r);subst e;exact mixKind_str P w x t
theorem items_are {P:Program}{w:World}:∀ {ks:List Key} {us:List Value},Vals (ks.map kV) us->ItemsAre (mixKind P w) ks us
 | [],_,r=>by rw [List.map_nil] at r;cases r;exact .nil
 | k::ks,_,r=>by
  rw [List.map_cons] at r
  cases r with
  | cons h t=>exact .cons (kV_is h) (items_are t)
abbrev KT (H:Hp):List (List Key×V)->List (List Key×Addr×Value)->Prop:=Paired fun p q=>p.1=q.1/\H q.2.1=some (.tup (p.1.map kV))/\RelV p.2 q.2.2
theorem KT.val {H:Hp}{kvs:List (List Key×V)}{xs:List (List Key×Addr×Value)}(r:KT H kvs xs)(k:List Key):RelO (valV kvs k) ((atKey xs k).map (·.2)):=by
 induction r with
 | nil=>exact True.intro
 | @cons p q ps qs h t ih =>
  obtain ⟨h1,_,h2⟩:=h
  by_cases e:p.1=k
  · have e':q.1=k:=h1.symm.trans e
    have b:atKey (q::qs) k=some q.2:=by simp [atKey,List.find?_cons,e']
    rw [valV_pos e,b];exact h2
  · have e':¬ q.1=k:=fun z=>e (h1.trans z)
    have b:atKey (q::qs) k=atKey qs k:=by simp [atKey,List.find?_cons,e']
    rw [valV_neg e,b];exact ih
theorem KT.repl {H:Hp}{kvs:List (List Key×V)}{xs:List (List Key×Addr×Value)}(r:KT H kvs xs)(k:List Key){y:V}{u:Value}(ry:RelV y u) :
  KT H (kvs.map fun kv=>if kv.1=k then (kv.1,y) else kv) (xs.map (putAt k u)):=by
 induction r with
 | nil=>exact .nil
 | @cons p q ps qs h t ih =>
  rw [List.map_cons,List.map_cons]
  refine .cons ?_ ih
  obtain ⟨h1,h2,h3⟩:=h
  unfold putAt
  by_cases e:p.1=k
  · rw [if_pos e,if_pos (h1.symm.trans e)];exact ⟨h1,h2,ry⟩
  · rw [if_neg e,if_neg (fun z=>e (h1.trans z))];exact ⟨h1,h2,h3⟩
theorem KT.put {H:Hp}{kvs:List (List Key×V)}{xs:List (List Key×Addr×Value)}(r:KT H kvs xs)(k:List Key){b:Addr}{y:V}{u:Value}(hb:H b=some (.tup (k.map kV)))(ry:RelV y u) :
  KT H (putK kvs k y) (storedH xs k b u):=by
 have e:(kvs.any fun kv=>decide (kv.1=k))=(atKey xs k).isSome:=by
  rw [valV_any,(r.val k).isSome_eq,Option.isSome_map]
 unfold putK storedH
 rw [e]
 by_cases q:(atKey xs k).isSome=true
 · rw [if_pos q,if_pos q];exact r.repl k ry
 · rw [if_neg q,if_neg q];exact Paired.snoc r ⟨rfl,hb,ry⟩
theorem KT.keeps {H H':Hp}{kvs:List (List Key×V)}{xs:List (List Key×Addr×Value)}(r:KT H kvs xs)(ht:∀ b ys,H b=some (.tup ys)->H' b=some (.tup ys)):KT H' kvs xs :=
 Paired.mapP r fun _ _ z=>⟨z.1,ht _ _ z.2.1,z.2.2⟩
section
variable {P:Program}{w:World}{H:Hp}{h:Heap}{a:Addr}
theorem rd_of {u:HO} (ok:HOk P w H h) (e:Rd H a u):ObjOk P w H h a u:=e.ok ok
theorem dk_rd {kvs:List (Key×V)}(ok:HOk P w H h)(e:Rd H a (.dK kvs)):kvs.length<=sizeLine/\(a==sysModules)=false/\∃ vs,KV kvs vs/\h.DictOf (mixKind P w) a vs :=
 show ObjOk P w H h a (.dK kvs) from rd_of ok e
theorem dk_of {kvs:List (Key×V)}(ok:HOk P w H h)(e:H a=some (.dK kvs)):kvs.length<=sizeLine/\(a==sysModules)=false/\∃ vs,KV kvs vs/\h.DictOf (mixKind P w) a vs:=dk_rd ok (.inl e)
theorem key_of {ks:List Key}(ok:HOk P w H h)(e:H a=some (.tup (ks.map kV))):(tupleKind (mixKind P w)).is h ks a:=by
 obtain ⟨_,its,r,o,h1,h2,n,h3⟩:=(show ObjOk P w H h a (.tup (ks.map kV)) from ok a _ e)
 exact ⟨o,its.toArray,n,h1,h2,h3,by simpa using items_are r⟩
theorem dt_rd {kvs:List (List Key×V)}(ok:HOk P w H h)(e:Rd H a (.dT kvs)):kvs.length<=sizeLine/\(a==sysModules)=false /\
  ∃ xs,KT H kvs xs/\h.DictOfH (tupleKind (mixKind P w)) a xs:=by
 obtain ⟨z,y,xs,r,o,es,ep,h1,h2,h3,h4,h5⟩:=(show ObjOk P w H h a (.dT kvs) from rd_of ok e)
 refine ⟨z,y,xs,r,o,es,ep,h1,h2,h3,h4,fun x hx=>?_,h5⟩
 have all:∀ {l:List (List Key×V)} {m:List (List Key×Addr×Value)},KT H l m->∀ x∈m,(tupleKind (mixKind P w)).is h x.1 x.2.1:=by
  intro l m q
  induction q with
  | nil=>intro x hx;exact nomatch hx
  | @cons p q ps qs hq t ih =>
   intro x hx
   rcases List.mem_cons.mp hx with e|hx
   · subst e
     exact key_of ok (by rw [← hq.1];exact hq.2.1)
   · exact ih x hx
 exact all r x hx
theorem dt_of {kvs:List (List Key×V)}(ok:HOk P w H h)(e:H a=some (.dT kvs)):kvs.length<=sizeLine/\(a==sysModules)=false /\
  ∃ xs,KT H kvs xs/\h.DictOfH (tupleKind (mixKind P w)) a xs:=dt_rd ok (.inl e)
end
def DGet (H:Hp)(a:Addr)(y:V)(r:Option V):Prop :=
 (∃ kvs k,Rd H a (.dK kvs)/\y=kV k/\r=valV kvs k)∨∃ kvs k b,Rd H a (.dT kvs)/\y=.ref b/\H b=some (.tup (k.map kV))/\r=valV kvs k
def DPut (H:Hp)(a:Addr)(y v:V)(H':Hp):Prop :=
 (∃ kvs k,H a=some (.dK kvs)/\y=kV k/\kvs.length < sizeLine/\H'=upd H a (.dK (putK kvs k v))) ∨
 ∃ kvs k b,H a=some (.dT kvs)/\y=.ref b/\H b=some (.tup (k.map kV))/\kvs.length < sizeLine/\H'=upd H a (.dT (putK kvs k v))
theorem DGet.k {H:Hp}{a:Addr}{kvs:List (Key×V)}{k:Key}(e:H a=some (.dK kvs)):DGet H a (kV k) (valV kvs k):=.inl ⟨kvs,k,.inl e,rfl,rfl⟩
section
variable {X:Cx}{pins:List (Addr×Obj)}{σ:St}{H:Hp}{s:Shared}{a:Addr}{y v:V}{u r:Value}{o:Option V}{A:Around}{E:Value->Shared->Prop}
theorem Inv.big (I:Inv X pins σ H s):sysModules < s.heap.objs.size:=by
 have h:mainGlobals < s.heap.objs.size:=(I.mod.glob.keeps I.bk).lt
 exact Nat.lt_trans (by decide) h
theorem d_in {Q:Value->Shared->Prop}(hu:A.units+1 < cLine)(I:Inv X pins σ H s)(g:DGet H a y o)(ry:RelV y u)(h:∀ s',Inv X pins σ H s'->Q (.bool o.isSome) s') :
  wpAny (model X.prog X.w) A (compareOp .In u (.ref a)) Q E s:=by
 rcases g with ⟨kvs,k,e,ey,l⟩|⟨kvs,k,b,e,ey,eb,l⟩
 · subst ey
   obtain ⟨z,hd,vs,rel,dd⟩:=dk_rd I.hok e
   refine wpAny_in_of (kV_is ry) hd dd.mapOf ?_
   rw [← (rel.val k).isSome_eq,← l]
   exact h _ (I.tok _)
 · subst ey
   cases (show u=Value.ref b from ry)
   obtain ⟨z,hd,xs,rel,dd⟩:=dt_rd I.hok e
   refine wpAny_in_heap (tupleKind_room_in1 hu) (key_of I.hok eb) hd dd ?_
   have q:=(rel.val k).isSome_eq
   rw [Option.isSome_map] at q
   rw [← q,← l]
   exact h _ (I.tok _)
theorem d_notIn {Q:Value->Shared->Prop}(hu:A.units+1 < cLine)(I:Inv X pins σ H s)(g:DGet H a y o)(ry:RelV y u)(h:∀ s',Inv X pins σ H s'->Q (.bool (!o.isSome)) s') :
  wpAny (model X.prog X.w) A (compareOp .NotIn u (.ref a)) Q E s:=by
 rcases g with ⟨kvs,k,e,ey,l⟩|⟨kvs,k,b,e,ey,eb,l⟩
 · subst ey
   obtain ⟨z,hd,vs,rel,dd⟩:=dk_rd I.hok e
   refine wpAny_notIn_of (kV_is ry) hd dd.mapOf ?_
   rw [← (rel.val k).isSome_eq,← l]
   exact h _ (I.tok _)
 · subst ey
   cases (show u=Value.ref b from ry)
   obtain ⟨z,hd,xs,rel,dd⟩:=dt_rd I.hok e
   refine wpAny_notIn_heap (tupleKind_room_in1 hu) (key_of I.hok eb) hd dd ?_
   have q:=(rel.val k).isSome_eq
   rw [Option.isSome_map] at q
   rw [← q,← l]
   exact h _ (I.tok _)
theorem d_write {h':Heap}{t':Nat}{ob:HO}(I:Inv X pins σ H s)(mu:Mut (H a))(hs:Heap.SameBut a s.heap h')(he:∃ q,h'.get? a=some q)(new:ObjOk X.prog X.w (upd H a ob) h' a ob) :
  Inv X pins σ (upd H a ob) { s with heap:=h',toks:=t' } :=
 I.write (x:=a) (e:=a) mu (.inl rfl) (fun b q hb z=>(hs.2 b hb).trans z) he new
theorem dk_new {P:Program}{w:World}{H':Hp}{h':Heap}{kvs:List (Key×V)}{vs:List (Key×Value)}(z:kvs.length<=sizeLine)(hd:(a==sysModules)=false)(rel:KV kvs vs)(dd:h'.DictOf (mixKind P w) a vs) :
  ObjOk P w H' h' a (.dK kvs):=⟨z,hd,vs,rel,dd⟩
theorem d_setItem {H':Hp}{Q:Unit->Shared->Prop}(hu:A.units+1 < cLine)(I:Inv X pins σ H s)(g:DPut H a y v H')(ry:RelV y u)(rv:RelV v r)(h:∀ s',Inv X pins σ H' s'->Q () s') :
  wpAny (model X.prog X.w) A (setItem (.ref a) u r) Q E s:=by
 rcases g with ⟨kvs,k,e,ey,l,eH⟩|⟨kvs,k,b,e,ey,eb,l,eH⟩
 · subst ey eH
   obtain ⟨z,hd,vs,rel,dd⟩:=dk_of I.hok e
   have hz:vs.length<=sizeLine:=by rw [← rel.length];exact z
   have hl:(putK kvs k v).length<=sizeLine:=by have:=length_putK kvs k v;omega
   refine wpAny_setItem_pairs (hsz:=hz) (kV_is ry) dd fun h' dd' hs=>h _ ?_
   have he:∃ q,h'.get? a=some q:=let ⟨q,_,_,hq,_⟩:=dd';⟨q,hq⟩
   exact d_write I (by rw [e];exact True.intro) hs he (dk_new hl hd (rel.put k rv) dd')
 · subst ey eH
   cases (show u=Value.ref b from ry)
   obtain ⟨z,hd,xs,rel,dd⟩:=dt_of I.hok e
   have hz:xs.length<=sizeLine:=by rw [← Paired.length rel];exact z
   have hl:(putK kvs k v).length<=sizeLine:=by have:=length_putK kvs k v;omega
   refine wpAny_setItem_heap (hsz:=hz) (tupleKind_room_in1 hu) (key_of I.hok eb) dd fun h' dd' hs=>h _ ?_
   obtain ⟨q,es,ep,hq,h2,h3,h4,_,h5⟩:=dd'
   refine d_write I (by rw [e];exact True.intro) hs ⟨q,hq⟩ ⟨hl,hd,_,(rel.put k eb rv).keeps fun c ys ec=>?_,q,es,ep,hq,h2,h3,h4,h5⟩
   rw [upd_ne (ne_of ec e (fun z=>nomatch z))]
   exact ec
end
section
variable {X:Cx}{pins:List (Addr×Obj)}{σ:St}{H:Hp}{s:Shared}{a:Addr}{kvs:List (Key×V)}{k:Key}{u:Value}{A:Around}{E:Value->Shared->Prop}
end
def NoSl (i:Expr):Prop:=∀ ov iv,subscripted i false ov iv=operate [ov,iv] (getItem ov iv)
theorem subD_of {prog:Program}{w:World}{A:Around}{E:Value->Shared->Prop}{s:Shared}{env:Env}{value slice:Expr}{pos:Pos}{T id:String}{Q:Value->Shared->Prop}
  (hl:typeLookup (.type T) "__getitem__"=pure (some (.builtin id)))(hs:NoSl slice)
  (h:wpAny (model prog w) A (eval value env) (fun o s₁=>wpAny (model prog w) A (eval slice env) (fun i s₂=>s₂.TypeIs o T/\wpAny (model prog w) A (getItem o i) Q E s₂) E s₁) E s) :
  wpAny (model prog w) A (eval (.Subscript value slice pos) env) Q E s:=by
 refine Subscript_ (wpAny_mono h (fun o s₁ h₁=>wpAny_mono h₁ (fun i s₂ h₂=>?_) fun _ _ x=>x) fun _ _ x=>x)
 obtain ⟨hT,h₂⟩:=h₂
 unfold subscriptTail
 refine wpAny_bind ?_
 rw [getitemInPython_of_ne hT.not_modules]
 refine wpAny_bind (wpAny_specialOf hT hl ?_)
 have fin:wpAny (model prog w) A (subscripted slice false o i) (fun r s₃=>wpAny (model prog w) A (letTemporaryGo value o r >>= fun _=>pure r) Q E s₃) E s₂:=by
  rw [hs o i]
  exact wpAny_operating (wpAny_mono h₂ (fun r s₃ h₃=>wpAny_bind (wpAny_letTemporaryGo (wpAny_pure h₃))) fun _ _ x=>x)
 first
  | exact wpAny_pure (wpAny_bind fin)
  | exact wpAny_bind (wpAny_pure (wpAny_bind fin))
  | exact wpAny_bind fin
def tDIn (ty td:TE):TE:=fun σ H Q=>ty σ H fun y H1=>td σ H1 fun x H2=>∃ a o,x=.ref a/\DGet H2 a y o/\Q (.bl o.isSome) H2
def tDNotIn (ty td:TE):TE:=fun σ H Q=>ty σ H fun y H1=>td σ H1 fun x H2=>∃ a o,x=.ref a/\DGet H2 a y o/\Q (.bl (!o.isSome)) H2
def sDPut (td ty tv:TE):TS:=fun D σ H=>tv σ H fun v H1=>td σ H1 fun x H2=>ty σ H2 fun y H3=>∃ a H4,x=.ref a/\DPut H3 a y v H4/\D.nx σ H4
section
variable {X:Cx}{o i e value:Expr}{pos pos' tpos:Pos}{td ty tv:TE}
theorem pc_din (hu:X.A.units+1 < cLine) (hi:PE X i ty) (ho:PE X o td):PC X .In i o (tDIn ty td):=by
 intro pins s σ H Q I h
 refine thn (hi pins s σ H _ I h) fun iv s1 ⟨y,H1,I1,ry,q1⟩=>thn (ho pins s1 σ H1 _ I1 q1) fun u s2 ⟨x,H2,I2,rx,a,ov,ex,g,q2⟩=>?_
 subst ex
 obtain rfl:u=Value.ref a:=rx
 exact d_in hu I2 g ry fun s3 I3=>⟨.bl ov.isSome,H2,I3,rfl,q2⟩
theorem pc_dnotin (hu:X.A.units+1 < cLine)(hi:PE X i ty)(ho:PE X o td):PC X .NotIn i o (tDNotIn ty td):=by
 intro pins s σ H Q I h
 refine thn (hi pins s σ H _ I h) fun iv s1 ⟨y,H1,I1,ry,q1⟩=>thn (ho pins s1 σ H1 _ I1 q1) fun u s2 ⟨x,H2,I2,rx,a,ov,ex,g,q2⟩=>?_
 subst ex
 obtain rfl:u=Value.ref a:=rx
 exact d_notIn hu I2 g ry fun s3 I3=>⟨.bl (!ov.isSome),H2,I3,rfl,q2⟩
theorem ps_dput (hu:X.A.units+1 < cLine)(ho:PE X o td)(hi:PE X i ty)(hv:PE X value tv)(hs:swapsWith value (some (.Subscript o i pos')) pos.line X.env=pure false) :
  PS X (.Assign [.Subscript o i pos'] value pos) (sDPut td ty tv):=by
 intro pins s σ H D I h
 refine wpAny_Assign_Subscript (thn (hv pins s σ H _ I h) fun r s1 ⟨v,H1,I1,rv,q1⟩=>thn (ho pins s1 σ H1 _ I1 q1) fun u s2 ⟨x,H2,I2,rx,q2⟩=>thn (hi pins s2 σ H2 _ I2 q2) fun iv s3 ⟨y,H3,I3,ry,a,H4,ex,g,q3⟩=>?_) hs
 subst ex
 obtain rfl:u=Value.ref a:=rx
 exact d_setItem hu I3 g ry rv fun s4 I4=>⟨σ,H4,I4,q3⟩
end
theorem dk_empty {P:Program}{w:World}{H:Hp}(h:Heap)(hb:sysModules < h.objs.size):ObjOk P w H (h.push { cls:=.type "dict",data:=.dict #[] }) h.objs.size (.dK []) :=
 ⟨Nat.zero_le _,beq_eq_false_iff_ne.mpr (Ne.symm (Nat.ne_of_lt hb)),[],.nil,Heap.DictOf.new h⟩
theorem dt_empty {P:Program}{w:World}{H:Hp}(h:Heap)(hb:sysModules < h.objs.size):ObjOk P w H (h.push { cls:=.type "dict",data:=.dict #[] }) h.objs.size (.dT []) :=
 ⟨Nat.zero_le _,beq_eq_false_iff_ne.mpr (Ne.symm (Nat.ne_of_lt hb)),[],.nil,_,#[],0,Heap.get?_push_size _ rfl,⟨rfl,rfl,rfl⟩,rfl,rfl,List.nodup_nil⟩
def tDNewK:TE:=fun _ H Q=>∀ p,H p=none->Q (.ref p) (upd H p (.dK []))
def tDNewT:TE:=fun _ H Q=>∀ p,H p=none->Q (.ref p) (upd H p (.dT []))
section
variable {X:Cx}{pos:Pos}
theorem pe_dnewK:PE X (.Dict [] [] pos) tDNewK:=fun pins s σ H Q I h =>
 wpAny_Dict_empty ⟨.ref s.heap.objs.size,_,I.laid (a:=s.heap.objs.size) (o:=.dK []) (t':=s.toks) (fun _ _ q=>Heap.get?_push_of_some _ q) (Nat.le_refl _) (dk_empty s.heap I.big),rfl,h _ (I.hok.fresh (Nat.le_refl _))⟩
theorem pe_dnewT:PE X (.Dict [] [] pos) tDNewT:=fun pins s σ H Q I h =>
 wpAny_Dict_empty ⟨.ref s.heap.objs.size,_,I.laid (a:=s.heap.objs.size) (o:=.dT []) (t':=s.toks) (fun _ _ q=>Heap.get?_push_of_some _ q) (Nat.le_refl _) (dt_empty s.heap I.big),rfl,h _ (I.hok.fresh (Nat.le_refl _))⟩
end
section
variable {X:Cx}{pins:List (Addr×Obj)}{σ:St}{H:Hp}{s:Shared}{a:Addr}{y d:V}{u r:Value}{o:Option V}{A:Around}{E:Value->Shared->Prop}
end
section
variable {X:Cx}{o e f:Expr}{apos cpos:Pos}{td ty tx:TE}
end
section
variable {X:Cx}{pins:List (Addr×Obj)}{σ:St}{H:Hp}{s:Shared}{a:Addr}{kvs:List (Key×V)}{A:Around}{E:Value->Shared->Prop}
end
section
variable {X:Cx}{pins:List (Addr×Obj)}{σ:St}{H:Hp}{s:Shared}{a:Addr}{y:V}{u:Value}{A:Around}{E:Value->Shared->Prop}
end
section
variable {prog:Program}{w:World}{A:Around}{E:Value->Shared->Prop}
end
section
variable {X:Cx}
end
section
variable {X:Cx}{pins:List (Addr×Obj)}{σ:St}{H:Hp}{s:Shared}{h':Heap}
theorem Inv.turnedNew {t':Nat} {ch:List Addr} {T:Addr} {ob:HO} (I:Inv X pins σ H s) (k:∀ b o,b∉ch->s.heap.get? b=some o->h'.get? b=some o) (hf:∀ b∈ch,FpOk X pins H b) (hT:s.heap.objs.size<=T)
  (new:ObjOk X.prog X.w (upd H T ob) h' T ob):Inv X pins σ (upd H T ob) { s with heap:=h',toks:=t' }:=by
 have hn:H T=none:=I.hok.fresh hT
 have nit:∀ b u,H b=some u->b∉ch:=fun b u e z=>by
  have q:=(hf b z).1
  rw [q] at e;cases e
 refine I.step (g':=s.gens) (d':=s.drawn) (ch:=ch) (fun b hb=>⟨(hf b hb).2.2.2.1,(hf b hb).2.1,(hf b hb).2.2.2.2.1,(hf b hb).2.2.2.2.2⟩) (fun b o _ _ hc e _=>k b o hc e) (fun b o _ _ hc e _=>⟨o.slots,k b o hc e⟩)
  (fun b o _ e n=>?_) (fun b o hc e=>⟨o,k b o hc e⟩) (fun b xs e=>?_) (fun b o u e=>?_) (fun b ps e=>⟨#[],?_⟩) (fun m hm=>?_) (fun b u e=>?_) I.bare
 · rw [upd_ne (Nat.ne_of_lt (Nat.lt_of_lt_of_le (Heap.lt_size e) hT))];exact n
 · rw [upd_ne (ne_of_none e hn)];exact e
 · rw [upd_ne (ne_of_none e hn)];exact e
 · rw [upd_ne (ne_of_none e hn),e];simp
 · obtain ⟨o,es,ep,ho,r⟩:=hm
   exact ⟨o,es,ep,k _ o (fun z=>(hf _ z).2.1 rfl) ho,r⟩
 · by_cases hb:b=T
   · subst hb
     rw [upd_same] at e
     cases e
     exact new
   · rw [upd_ne hb] at e
     refine (I.hok b u e).stay (fun c v hc q=>k c v ?_ q) (fun c q=>by rw [upd_ne (ne_of_none q hn)];exact q) fun c xs q=>by rw [upd_ne (ne_of_none q hn)];exact q
     rcases hc with z|z
     · rw [z];exact nit b u e
     · exact nit c _ z
end
section
variable {X:Cx}
theorem pi_one {tg:Expr} {pins:List (Addr×Obj)} {σ:St} {H:Hp} {s:Shared} {R:It->Hp->Prop} {J:It} {tn:Nat->Heap->Prop} {tk:Nat} (I:Inv X pins σ H s) (o:Obj)
  (T:Turn X.prog X.w X.K tg J [s.heap.objs.size] s.heap.objs.size tn) (st:tn 0 (s.heap.push o)) (q:R J H):PIE X pins σ tg R (.ref s.heap.objs.size) { s with heap:=s.heap.push o,toks:=tk }:=by
 refine ⟨s.heap.objs.size,[s.heap.objs.size],tn,J,H,rfl,I.kept fun b ob e=>Heap.get?_push_of_some _ e,T,st,fun b hb=>?_,q⟩
 have e:b=s.heap.objs.size:=by simpa using hb
 subst e
 exact I.fpOk (Nat.le_refl _) (I.hok.fresh (Nat.le_refl _))
end
def Itc (lo c:Int)(n:Nat):It:=⟨fun i _=>i < n,fun i H x H'=>H'=H/\x=.int (lo+(i:Nat)*c),fun i _=>n<=i⟩
theorem turn_rangeC {P:Program}{w:World}{K:PySem.W.Frag}{tg:Expr}(it:Addr)(lo c:Int)(n:Nat):Turn P w K tg (Itc lo c n) [it] it (fun i h=>IsRangeIter h it (lo+(i:Nat)*c) ((n:Int) - (i:Nat)) c) where
 mem:=by simp
 obj:=fun i h st b hb=>by
  have e:b=it:=by simpa using hb
  subst e
  exact ⟨_,st,fun v z=>nomatch z⟩
 keep:=fun i h h' st k=>k it (by simp) _ st
 item:=by
  intro X hP hw hK hc i pins s σ H E I hf st hg
  subst hP hw hK
  obtain ⟨f0,f1,f2,f3,f4,f5⟩:=hf it (by simp)
  have W:=Walks.range (prog:=X.prog) (w:=X.w) (I.ok.hd hc) it lo c n
  refine W.item i s _ _ hg st fun v h' tk hv st' kk=>?_
  obtain ⟨t,rfl⟩:=hv
  have I1:Inv X pins σ H { s with heap:=h',toks:=tk }:=I.turned (fun b o hb e=>kk b o (by simpa using hb) e) f0 f1 f3 f4 f5
  exact ⟨_,rfl,go_of (s:={ s with heap:=h',toks:=tk }) (n:="range_iterator") st' rfl rfl (by decide) ⟨.int (lo+(i:Nat)*c),H,I1,⟨t,rfl⟩,⟨rfl,rfl⟩,st',fun b hb=>(hf b hb).1⟩⟩
 done:=by
  intro X hP hw hK hc i pins s σ H E I hf st hg
  subst hP hw hK
  obtain ⟨f0,f1,f2,f3,f4,f5⟩:=hf it (by simp)
  exact wpAny_pyNext_range_end (I.ok.hd hc) st (by have:n<=i:=hg;omega) fun h' eb=>⟨rfl,I.turned (t':=s.toks) (fun b o hb e=>eb b o hb e) f0 f1 f3 f4 f5⟩
 self:=fun A i s Q E st h=>wpAny_pyIter_rangeiter st h
def RgC (i j c:Int)(n:Nat):Prop:=c≠0/\c.natAbs < 1073741824/\Builtin.Range.small i j c=true/\Builtin.Range.rangeSize i j c=n
theorem RgC.neg {i j:Int}(ha:-(2 ^ 62)<=i)(ha':i < 2 ^ 62)(hb:-(2 ^ 62)<=j)(hb':j < 2 ^ 62):RgC i j (-1) (i - j).toNat :=
 ⟨by decide,by decide,PySem.W.small_down ha ha' hb hb',PySem.W.rangeSize_downNat i j⟩
def iRng3 (ta:TA):TI:=fun σ H R=>ta σ H fun vs H1=>∃ (i j c:Int) (n:Nat),vs=[.int i,.int j,.int c]/\RgC i j c n/\R (Itc i c n) H1
section
variable {X:Cx}{tg:Expr}
theorem pi_range3 {a b c:Expr} {ta:TA} {p pos:Pos} (hg:Gl X "range") (hm:X.mg "range"=none) (ha:PA X [a,b,c] ta)
  (hs:starEach [a,b,c] X.env=(false,eval a X.env)::starEach [b,c] X.env:=by rfl) (hpl:(backTo pos (starEach [b,c] X.env)).any (·.1)=false:=by rfl) :
  PI X tg (.Call (.Name "range" p) [a,b,c] [] pos) (iRng3 ta):=by
 intro pins s σ H R I h
 refine Call_ (ld_blt I hg hm boot_range (PyProof.Rows.callWith_type1 (thn (ha pos pins s σ H _ I h) fun us s1 ⟨vs,H1,I1,r1,q1⟩=>?_) hs hpl))
 obtain ⟨i,j,k,n,e,⟨c0,c1,c2,c3⟩,q⟩:=q1
 subst e
 cases r1 with
 | cons r rr =>
  cases rr with
  | cons r' rr =>
   cases rr with
   | cons r'' rr =>
    cases rr
    obtain ⟨t,rfl⟩:=r
    obtain ⟨t',rfl⟩:=r'
    obtain ⟨t'',rfl⟩:=r''
    refine call_range_3 c0 ?_ (.inl (PyProof.noPylong_small c1))
    refine wpAny_pyIter_range (IsRange.new ..) c2 ?_
    have I2:Inv X pins σ H1 { s1 with heap:=s1.heap.push { cls:=.type "range",data:=.fields #[.int i t,.int j t',.int k t''] } }:=I1.kept (t':=s1.toks) fun b o e=>Heap.get?_push_of_some _ e
    refine pi_one (tk:=s1.toks) I2 _ (turn_rangeC _ i k n) ?_ q
    have e1:i+((0:Nat):Int)*k=i:=by simp
    have e2:(n:Int) - ((0:Nat):Int)=Builtin.Range.rangeSize i j k:=by rw [c3];simp
    show IsRangeIter _ _ (i+((0:Nat):Int)*k) ((n:Int) - ((0:Nat):Int)) k
    rw [e1,e2]
    exact Heap.get?_push_size _ rfl
end
theorem for_rangeC {lo c:Int}{n:Nat}{g:TG}{tb:TS}{D:Ends}{σ:St}{H:Hp}(Pv:Nat->St->Hp->Prop)(h0:Pv 0 σ H)
  (hs:∀ i σ H,i < n->Pv i σ H->g (.int (lo+(i:Nat)*c)) σ H fun σ2 H2=>tb { D with nx:=Pv (i+1),ct:=Pv (i+1),bk:=D.nx } σ2 H2)(hd:∀ σ H,Pv n σ H->D.nx σ H) :
  ∃ W:Nat->Nat->St->Hp->Prop,(∃ m,W 0 m σ H)/\∀ i m σ H,W i m σ H ->
   ((Itc lo c n).stop i H/\D.nx σ H)∨((Itc lo c n).go i H/\∃ N:St->Hp->Prop,(∀ σ' H',N σ' H'->∃ m',m' < m/\W (i+1) m' σ' H')/\∀ x H',(Itc lo c n).yld i H x H'->g x σ H' fun σ2 H2=>tb { D with nx:=N,ct:=N,bk:=D.nx } σ2 H2):=by
 refine ⟨fun i m σ H=>m=n - i/\i<=n/\Pv i σ H,⟨n,by simp,Nat.zero_le _,h0⟩,?_⟩
 rintro i m σ H ⟨rfl,hi,p⟩
 by_cases hlt:i < n
 · refine .inr ⟨hlt,Pv (i+1),fun σ' H' p'=>⟨n - (i+1),by omega,rfl,hlt,p'⟩,fun x H' y=>?_⟩
   obtain ⟨e,y⟩:=y
   subst e y
   exact hs i σ _ hlt p
 · have e:i=n:=by omega
   subst e
   exact .inl ⟨Nat.le_refl _,hd σ H p⟩
section
variable {X:Cx}{tg:Expr}
end
def Its (x:Str):It:=⟨fun i _=>i < x.cps.size,fun i H v H'=>H'=H/\∃ c,x.cps[i]?=some c/\v=.str ⟨#[c]⟩,fun i _=>x.cps.size<=i⟩
theorem turn_str {P:Program}{w:World}{K:PySem.W.Frag}{tg:Expr}(it:Addr)(x:Str)(t:Tok)(ty:String)(hty:ty="str_ascii_iterator"∨ty="str_iterator") :
  Turn P w K tg (Its x) [it] it (fun i h=>h.IsStrIter it ty x t i) where
 mem:=by simp
 obj:=fun i h st b hb=>by
  have e:b=it:=by simpa using hb
  subst e
  obtain ⟨o,e,c,d⟩:=st
  exact ⟨o,e,fun v z=>by rw [d] at z;cases z⟩
 keep:=fun i h h' st k=>let ⟨o,ho,r⟩:=st;⟨o,k it (by simp) o ho,r⟩
 item:=by
  intro X hP hw hK hc i pins s σ H E I hf st hg
  subst hP hw hK
  obtain ⟨f0,f1,f2,f3,f4,f5⟩:=hf it (by simp)
  have W:Walks X.prog X.w X.A it [it] [it] x.cps.size (SignAt x) (fun i h=>h.IsStrIter it ty x t i):=by
   rcases hty with e|e
   · rw [e];exact Walks.strAscii (I.ok.hd hc) it x t
   · rw [e];exact Walks.strWide (I.ok.hd hc) it x t
  have hno:["enumerate","zip","dict_itemiterator","dict_reverseitemiterator","odict_iterator","itertools.zip_longest","itertools.pairwise"].contains ty=false:=by
   rcases hty with e|e
   · rw [e];decide
   · rw [e];decide
  refine W.item i s _ _ hg st fun v h' tk hv st' kk=>?_
  obtain ⟨c,u,hcx,rfl⟩:=hv
  have I1:Inv X pins σ H { s with heap:=h',toks:=tk }:=I.turned (fun b o hb e=>kk b o (by simpa using hb) e) f0 f1 f3 f4 f5
  obtain ⟨oi,e,cc,dd⟩:=id st'
  exact ⟨_,rfl,go_of (s:={ s with heap:=h',toks:=tk }) e cc dd hno ⟨.str ⟨#[c]⟩,H,I1,⟨u,rfl⟩,⟨rfl,c,hcx,rfl⟩,st',fun b hb=>(hf b hb).1⟩⟩
 done:=by
  intro X hP hw hK hc i pins s σ H E I hf st hg
  subst hP hw hK
  obtain ⟨f0,f1,f2,f3,f4,f5⟩:=hf it (by simp)
  have hx:x.cps[i]?=none:=Array.getElem?_eq_none hg
  rcases hty with e|e
  · rw [e] at st
    exact wpAny_pyNext_ascii_end (I.ok.hd hc) st hx fun h' eb=>⟨rfl,I.turned (t':=s.toks) (fun b o hb e=>eb b o hb e) f0 f1 f3 f4 f5⟩
  · rw [e] at st
    exact wpAny_pyNext_wide_end (I.ok.hd hc) st hx fun h' eb=>⟨rfl,I.turned (t':=s.toks) (fun b o hb e=>eb b o hb e) f0 f1 f3 f4 f5⟩
 self:=fun A i s Q E st h=>by
  rcases hty with e|e
  · rw [e] at st;exact wpAny_pyIter_striter_ascii st h
  · rw [e] at st;exact wpAny_pyIter_striter_wide st h
def iStr (te:TE):TI:=fun σ H R=>te σ H fun v H1=>∃ x,v=.str x/\R (Its x) H1
theorem pi_str {X:Cx}{tg e:Expr}{te:TE}(he:PE X e te):PI X tg e (iStr te):=by
 intro pins s σ H R I h
 refine thn (he pins s σ H _ I h) fun v s1 ⟨y,H1,I1,r1,x,ex,q⟩=>?_
 subst ex
 obtain ⟨t,rfl⟩:=r1
 cases ha:x.cps.all (· < 128)
 · exact wpAny_pyIter_wide ha (pi_one (tk:=s1.toks) I1 _ (turn_str _ x t "str_iterator" (.inr rfl)) ⟨_,Heap.get?_push_size _ rfl,rfl,rfl⟩ q)
 · exact wpAny_pyIter_ascii ha (pi_one (tk:=s1.toks) I1 _ (turn_str _ x t "str_ascii_iterator" (.inl rfl)) ⟨_,Heap.get?_push_size _ rfl,rfl,rfl⟩ q)
section
variable {prog:Program}{w:World}{A:Around}{E:Value->Shared->Prop}{s:Shared}
theorem iter_keys {d:Addr} {o:Obj} {es:Array DictEntry} {ep:Nat} {Q:Value->Shared->Prop} (hd:(d==sysModules)=false) (ho:s.heap.get? d=some o) (hc:o.ExactDict) (hdat:o.data=.dict es ep)
  (hQ:Q (.ref s.heap.objs.size) { s with heap:=s.heap.push { cls:=.type "dict_keyiterator",data:=.fields #[.ref d,.int 0 0,.int es.size 0,.int ep 0] } }) :
  wpAny (model prog w) A (pyIter (.ref d)) Q E s:=by
 have hT:s.TypeIs (.ref d) "dict":=⟨o,ho,hc.1⟩
 refine wpAny_pyIter_slot hT F.slot_dict_iter (wpAny_call_entry F.slot_dict_iter hT F.entry_dict_iter ?_ (F.args_dict_iter_1 _))
 unfold Builtin.«dict.__iter__»
 refine wpAny_bind ?_
 unfold Builtin.Dict.dictSlotNone
 refine wpAny_bind (wpAny_notOrdered_dict hT ?_)
 show wpAny _ _ (pure (Value.ref d)) _ _ s
 refine wpAny_pure ?_
 show wpAny _ _ (Builtin.Dict.showsAll d >>= _) _ _ s
 unfold Builtin.Dict.showsAll
 rw [if_neg (by rw [hd];exact Bool.false_ne_true)]
 refine wpAny_bind (wpAny_pure ?_)
 refine wpAny_bind (wpAny_dictEntries ho hdat ?_)
 refine wpAny_bind (wpAny_dictEpoch ho hdat ?_)
 refine wpAny_bind (wpAny_newObj_type (wpAny_pure ⟨_,rfl,"dict_keyiterator",_,⟨_,Heap.get?_push_size _ rfl,rfl⟩,F.slot_dict_keyiterator_next.lookup,?_⟩))
 simpa [rawInt] using hQ
theorem next_key_item {it d:Addr}{i n ep:Nat}{od:Obj}{es:Array DictEntry}{en:DictEntry}{Q:Option Value->Shared->Prop}(hit:s.heap.IsKeyIter it d i n ep)(hod:s.heap.get? d=some od)(hdd:od.data=.dict es ep)
  (hsz:es.size=n)(hx:es[i]?=some en)(hQ:∀ h',h'.IsKeyIter it d (i+1) n ep->Heap.SameBut it s.heap h'->Q (some en.key) { s with heap:=h' }):wpAny (model prog w) A (pyNext (.ref it)) Q E s:=by
 obtain ⟨o,ho,hc,hd⟩:=id hit
 unfold pyNext
 refine wpAny_bind (wpAny_attempt (wpAny_callSpecial?_slot (name:=Str.ofString "__next__") hit.typeIs F.slot_dict_keyiterator_next
  (wpAny_call_entry F.slot_dict_keyiterator_next hit.typeIs F.entry_dict_keyiterator_next ?_ (F.args_dict_keyiterator_next_1 _))))
 refine wpAny_bind (wpAny_pure ?_)
 refine wpAny_bind ?_
 refine wpAny_bind ?_
 first|refine wpAny_bind (wpAny_typeNameOfWhole_keyiter hit.typeIs (wpAny_pure ?_))|refine wpAny_bind (wpAny_typeNameOf_keyiter hit.typeIs (wpAny_pure ?_))
 refine wpAny_bind (wpAny_fieldsOf ho hd ?_)
 have hown:Builtin.Dict_items.ownsTuple "dict_keyiterator"=false:=by decide
 simp only [hown,Bool.false_eq_true,if_false]
 show wpAny _ _ (if (Value.ref d==Value.none)=true then _ else _) _ _ s
 rw [if_neg (show ¬ ((Value.ref d==Value.none)=true) from Bool.false_ne_true)]
 refine wpAny_bind (wpAny_pure ?_)
 refine wpAny_bind (wpAny_dictEntries hod hdd ?_)
 rw [if_neg (by rw [hsz];simp)]
 refine wpAny_bind (wpAny_pure ?_)
 refine wpAny_bind (wpAny_dictEpoch hod hdd ?_)
 rw [if_neg (by simp)]
 refine wpAny_pure ?_
 obtain ⟨hlt',hen⟩:=Array.getElem?_eq_some_iff.mp hx
 simp only [show ¬ ((i:Int) < 0) from by omega,if_false,Int.toNat_natCast,Array.getElem?_eq_getElem hlt']
 refine wpAny_bind ?_
 first|refine wpAny_bind (wpAny_typeNameOfWhole_keyiter hit.typeIs (wpAny_pure ?_))|refine wpAny_bind (wpAny_typeNameOf_keyiter hit.typeIs (wpAny_pure ?_))
 refine wpAny_bind (wpAny_isOneOf_keyiter hit.typeIs ?_)
 show wpAny _ _ (setField (.ref it) 1 (rawInt ((i:Int)+1)) >>= _) _ _ s
 refine wpAny_bind (wpAny_setField ho hd (by simp) ?_)
 have hit':(s.heap.update it (Obj.mapFields (·.setIfInBounds 1 (rawInt ((i:Int)+1))))).IsKeyIter it d (i+1) n ep :=
  ⟨_,Heap.get?_update_self _ ho (Obj.isFreed_of_fields (Obj.data_mapFields hd _)),(Obj.cls_mapFields ..).trans hc,by rw [Obj.data_mapFields hd];simp [rawInt]⟩
 refine wpAny_bind (wpAny_holding ?_)
 refine wpAny_bind (wpAny_isOneOf_keyiter (s:={ s with heap:=s.heap.update it (Obj.mapFields (·.setIfInBounds 1 (rawInt ((i:Int)+1)))) }) hit'.typeIs ?_)
 show wpAny _ _ (pure es[i].key) _ _ _
 rw [hen]
 exact wpAny_pure (wpAny_pure ⟨_,rfl,wpAny_pure (hQ _ hit' (Heap.SameBut.update ..))⟩)
theorem next_key_end {it d:Addr}{i n ep:Nat}{od:Obj}{es:Array DictEntry}{Q:Option Value->Shared->Prop}(hh:A.handled=none)(hit:s.heap.IsKeyIter it d i n ep)(hod:s.heap.get? d=some od)(hdd:od.data=.dict es ep)
  (hsz:es.size=n)(hge:n<=i)(hQ:∀ h',Heap.ExtBut it s.heap h'->Q none { s with heap:=h' }):wpAny (model prog w) A (pyNext (.ref it)) Q E s:=by
 obtain ⟨o,ho,hc,hd⟩:=id hit
 unfold pyNext
 refine wpAny_bind (wpAny_attempt (wpAny_callSpecial?_slot (name:=Str.ofString "__next__") hit.typeIs F.slot_dict_keyiterator_next
  (wpAny_call_entry F.slot_dict_keyiterator_next hit.typeIs F.entry_dict_keyiterator_next ?_ (F.args_dict_keyiterator_next_1 _))))
 refine wpAny_bind (wpAny_pure ?_)
 refine wpAny_bind ?_
 refine wpAny_bind ?_
 first|refine wpAny_bind (wpAny_typeNameOfWhole_keyiter hit.typeIs (wpAny_pure ?_))|refine wpAny_bind (wpAny_typeNameOf_keyiter hit.typeIs (wpAny_pure ?_))
 refine wpAny_bind (wpAny_fieldsOf ho hd ?_)
 have hown:Builtin.Dict_items.ownsTuple "dict_keyiterator"=false:=by decide
 simp only [hown,Bool.false_eq_true,if_false]
 show wpAny _ _ (if (Value.ref d==Value.none)=true then _ else _) _ _ s
 rw [if_neg (show ¬ ((Value.ref d==Value.none)=true) from Bool.false_ne_true)]
 refine wpAny_bind (wpAny_pure ?_)
 refine wpAny_bind (wpAny_dictEntries hod hdd ?_)
 rw [if_neg (by rw [hsz];simp)]
 refine wpAny_bind (wpAny_pure ?_)
 refine wpAny_bind (wpAny_dictEpoch hod hdd ?_)
 rw [if_neg (by simp)]
 refine wpAny_pure ?_
 have hge':es.size<=i:=by rw [hsz];exact hge
 simp only [show ¬ ((i:Int) < 0) from by omega,if_false,Int.toNat_natCast,Array.getElem?_eq_none hge']
 refine wpAny_bind ?_
 first|refine wpAny_bind (wpAny_typeNameOfWhole_keyiter hit.typeIs (wpAny_pure ?_))|refine wpAny_bind (wpAny_typeNameOf_keyiter hit.typeIs (wpAny_pure ?_))
 show wpAny _ _ (setField (.ref it) 0 .none >>= _) _ _ s
 refine wpAny_bind (wpAny_setField ho hd (by simp) ?_)
 show wpAny _ _ (newExc (.type "StopIteration") [] >>= _) _ _ _
 refine wpAny_bind ?_
 simp only [newExc,newTuple]
 refine wpAny_bind (wpAny_newObj_type ?_ (by size_fits))
 refine wpAny_bind (m:=firstArgMember _ _) (wpAny_of_eq (a:=Value.none) (by first|rfl|(simp only [firstArgMember];rfl)) ?_)
 refine wpAny_newObj_type ?_ (by size_fits)
 simp only [raiseNew]
 refine wpAny_bind (wpAny_handled ?_)
 rw [show A.in1.handled=none from hh]
 refine wpAny_bind (wpAny_pure (wpAny_throw ?_))
 refine wpAny_bind (wpAny_isInstance (T:="StopIteration") (b:=true) ⟨_,Heap.get?_push_size _ rfl,rfl⟩ isSubtype_stop ?_)
 exact wpAny_pure (hQ _ (((Heap.SameBut.update ..).extBut.push _).push _))
end
theorem paired_get {α β:Type}{G:α->β->Prop}{l₁:List α}{l₂:List β}(h:Paired G l₁ l₂):∀ {i:Nat} {a:α},l₁[i]?=some a->∃ b,l₂[i]?=some b/\G a b:=by
 induction h with
 | nil=>intro i a e;simp at e
 | @cons a b l₁ l₂ r t ih =>
  intro i a' e
  cases i with
  | zero =>
   simp only [List.getElem?_cons_zero,Option.some.injEq] at e
   subst e
   exact ⟨b,rfl,r⟩
  | succ j =>
   simp only [List.getElem?_cons_succ] at e ⊢
   exact ih e
section
variable {X:Cx}{pins:List (Addr×Obj)}{σ:St}{H:Hp}{s:Shared}{d:Addr}{o:Obj}
end
section
variable {P:Program}{w:World}{K:PySem.W.Frag}{tg:Expr}{d:Addr}{o:Obj}{es:Array DictEntry}{ep:Nat}
end
section
variable {X:Cx}{tg e:Expr}{td:TE}{apos cpos:Pos}
end
def Ite (K:PySem.W.Frag)(a:Addr):It :=
 ⟨fun i H=>∃ (xs:List V) (x:V),SqL K H a xs/\xs[i]?=some x,fun i H v H'=>∃ T x,v=.ref T/\H T=none/\H'=upd H T (.tup [.int (i:Nat),x])/\∀ xs,SqL K H a xs->xs[i]?=some x,fun i H=>∃ xs:List V,SqL K H a xs/\xs.length<=i⟩
theorem turn_enum {P:Program}{w:World}{K:PySem.W.Frag}{elts:List Expr}{kk:Nat}{tpos:Pos}(a e it:Addr) :
  Turn P w K (.Tuple elts kk tpos) (Ite K a) [e,it] e (fun i h=>(∃ old,IsEnum h e it ((i:Nat):Int) old)/\h.IsListIter it a i/\e≠it) where
 mem:=by simp
 obj:=fun i h st b hb=>by
  obtain ⟨⟨old,he⟩,⟨o,ho,hc,hd⟩,_⟩:=st
  have e':b=e∨b=it:=by simpa using hb
  rcases e' with z|z
  · rw [z];exact ⟨_,he,fun v q=>nomatch q⟩
  · rw [z];exact ⟨o,ho,fun v q=>by rw [hd] at q;cases q⟩
 keep:=fun i h h' st k=>let ⟨⟨old,he⟩,hi,hne⟩:=st;⟨⟨old,k e (by simp) _ he⟩,hi.at fun o q=>k it (by simp) o q,hne⟩
 item:=by
  intro X hP hw hK hc i pins s σ H E I hf st hg
  subst hP hw hK
  obtain ⟨⟨old,he⟩,hit,hne⟩:=st
  obtain ⟨xs,x,hq,hx⟩:=hg
  obtain ⟨its,rv,p,hz⟩:=I.list hq
  obtain ⟨u,hu,ru⟩:=rv.get hx
  have hel:e < s.heap.objs.size:=Heap.lt_size he
  have hil:it < s.heap.objs.size:=by obtain ⟨_,q,_⟩:=hit;exact Heap.lt_size q
  refine wpAny_pyNext_enum_item he hit p.isList (x:=u) (by simpa using hu) hne fun h' ho hit' hT hsz hk=>?_
  refine ⟨_,rfl,wpAny_letOwnedTupleGo_enum (s:={ s with heap:=h',toks:=s.toks+1 }) ho fun h'' he' sb=>?_⟩
  have hT2:h''.get? s.heap.objs.size=some { cls:=.type "tuple",data:=.seq #[.int i s.toks,u] }:=(sb.2 _ (Nat.ne_of_gt hel)).trans hT
  have new:ObjOk X.prog X.w (upd H s.heap.objs.size (.tup [.int (i:Nat),x])) h'' s.heap.objs.size (.tup [.int (i:Nat),x]) :=
   ⟨by show 2<=sizeLine;decide,[.int i s.toks,u],.cons ⟨_,rfl⟩ (.cons ru .nil),⟨_,hT2,rfl,_,rfl⟩⟩
  have I1:Inv X pins σ (upd H s.heap.objs.size (.tup [.int (i:Nat),x])) { s with heap:=h'',toks:=s.toks+1 } :=
   I.turnedNew (ch:=[e,it]) (fun b ob hb q=>(sb.2 b (fun z=>hb (by simp [z]))).trans (hk b ob (fun z=>hb (by simp [z])) (fun z=>hb (by simp [z])) q)) hf (Nat.le_refl _) new
  refine ⟨.ref s.heap.objs.size,_,I1,rfl,⟨_,x,rfl,I.hok.fresh (Nat.le_refl _),rfl,fun ys hy=>by rw [I.list_inj hy hq];exact hx⟩,⟨⟨u,?_⟩,hit'.at fun o q=>(sb.2 it (Ne.symm hne)).trans q,hne⟩,fun b hb=>?_⟩
  · have e1:((i+1:Nat):Int)=(i:Int)+1:=by omega
    rw [e1];exact he'
  · have hb':b < s.heap.objs.size:=by
     have e':b=e∨b=it:=by simpa using hb
     rcases e' with z|z
     · rw [z];exact hel
     · rw [z];exact hil
    rw [upd_ne (Nat.ne_of_lt hb')]
    exact (hf b hb).1
 done:=by
  intro X hP hw hK hc i pins s σ H E I hf st hg
  subst hP hw hK
  obtain ⟨⟨old,he⟩,hit,hne⟩:=st
  obtain ⟨xs,hq,hx⟩:=hg
  obtain ⟨its,rv,p,hz⟩:=I.list hq
  obtain ⟨f0,f1,f2,f3,f4,f5⟩:=hf it (by simp)
  have hl:=rv.length
  exact wpAny_pyNext_enum_end (I.ok.hd hc) he hit p.isList (by simp;omega) fun h' eb=>⟨rfl,I.turned (t':=s.toks) (fun b o hb q=>eb b o hb q) f0 f1 f3 f4 f5⟩
 self:=fun A i s Q E st h=>let ⟨⟨_,he⟩,_⟩:=st;wpAny_pyIter_enum he h
def iEnum (K:PySem.W.Frag)(ta:TA):TI:=fun σ H R=>ta σ H fun vs H1=>∃ a xs,vs=[.ref a]/\SqL K H1 a xs/\R (Ite K a) H1
theorem pi_enum {X:Cx}{e:Expr}{ta:TA}{p pos tpos:Pos}{elts:List Expr}{kk:Nat}(hg:Gl X "enumerate")(hm:X.mg "enumerate"=none)(ha:PA X [e] ta)(hs:starEach [e] X.env=[(false,eval e X.env)]:=by rfl) :
  PI X (.Tuple elts kk tpos) (.Call (.Name "enumerate" p) [e] [] pos) (iEnum X.K ta):=by
 intro pins s σ H R I h
 refine Call_ (ld_blt I hg hm boot_enumerate (PyProof.Rows.callWith_type1 (thn (ha pos pins s σ H _ I h) fun us s1 ⟨vs,H1,I1,r1,q1⟩=>?_) hs rfl))
 obtain ⟨a,xs,ex,hq,q⟩:=q1
 subst ex
 cases r1 with
 | cons r rr =>
  cases rr
  cases r
  obtain ⟨its,rv,p',hz⟩:=I1.list hq
  refine call_enumerate_list p'.isList fun h' he hit hsz hk=>wpAny_pyIter_enum he ?_
  have I2:Inv X pins σ H1 { s1 with heap:=h' }:=I1.kept (t':=s1.toks) hk
  refine ⟨s1.heap.objs.size+1,[s1.heap.objs.size+1,s1.heap.objs.size],_,_,H1,rfl,I2,turn_enum a (s1.heap.objs.size+1) s1.heap.objs.size,⟨⟨.none,he⟩,hit,Nat.succ_ne_self _⟩,fun b hb=>?_,q⟩
  have e':b=s1.heap.objs.size+1∨b=s1.heap.objs.size:=by simpa using hb
  have hle:s1.heap.objs.size<=b:=by
   rcases e' with z|z
   · rw [z];exact Nat.le_add_right _ _
   · rw [z];exact Nat.le_refl _
  exact I1.fpOk hle (I1.hok.fresh hle)
end L2
section
namespace Bits
open PySem PyProof.Rows
end Bits
end
section
namespace TL
open PySem PySem.Builtin PySem.Builtin.Str PySem.StrLaws
abbrev tl (x:Str):List Nat:=x.cps.toList
theorem len_tl (x:Str):x.length=(tl x).length:=by simp [tl,Str.length]
theorem ext_tl {x y:Str}(h:tl x=tl y):x=y:=Str.ext' (Array.toList_inj.mp h)
theorem tl_append (x y:Str):tl (x++y)=tl x++tl y:=by
 show (x++y).cps.toList=_
 rw [Str.cps_append,Array.toList_append]
theorem map_tl_inj:∀ {l m:List Str},l.map tl=m.map tl->l=m
 | [],[],_=>rfl
 | [],_::_,h=>by simp at h
 | _::_,[],h=>by simp at h
 | x::l,y::m,h=>by
  rw [List.map_cons,List.map_cons] at h
  injection h with h1 h2
  rw [ext_tl h1,map_tl_inj h2]
theorem tl_ofString (s:String):tl (Str.ofString s)=s.toList.map Char.toNat:=PyProof.Rows.signs_ofString s
def pre (S l:List Nat):Bool:=l.take S.length==S
def spl (S:List Nat):Nat->List Nat->List Nat->List (List Nat)
 | _,acc,[]=>[acc]
 | 0,acc,c::r=>if pre S (c::r)=true then acc::spl S (S.length - 1) [] r else spl S 0 (acc++[c]) r
 | k+1,acc,_::r=>spl S k acc r
theorem spl_nil (S:List Nat)(k:Nat)(acc:List Nat):spl S k acc []=[acc]:=by cases k <;> rfl
theorem spl_hit {S acc r:List Nat}{c:Nat}(h:pre S (c::r)=true):spl S 0 acc (c::r)=acc::spl S (S.length - 1) [] r:=by
 show (if pre S (c::r)=true then acc::spl S (S.length - 1) [] r else spl S 0 (acc++[c]) r)=_
 rw [if_pos h]
theorem spl_miss {S acc r:List Nat}{c:Nat}(h:pre S (c::r)=false):spl S 0 acc (c::r)=spl S 0 (acc++[c]) r:=by
 show (if pre S (c::r)=true then acc::spl S (S.length - 1) [] r else spl S 0 (acc++[c]) r)=_
 rw [if_neg (by rw [h];exact Bool.false_ne_true)]
theorem spl_pass (S:List Nat):∀ (k:Nat) (acc l:List Nat),spl S k acc l=spl S 0 acc (l.drop k)
 | 0,_,_=>by rw [List.drop_zero]
 | k+1,acc,[]=>by rw [List.drop_nil,spl_nil,spl_nil]
 | k+1,acc,c::r=>by
  show spl S k acc r=spl S 0 acc (r.drop k)
  exact spl_pass S k acc r
theorem pre_nil {S:List Nat}(hS:S≠[]):pre S []=false:=by
 cases S with
 | nil=>exact absurd rfl hS
 | cons s S=>rfl
theorem pre_of_head {s c:Nat}(S r:List Nat)(h:c≠s):pre (s::S) (c::r)=false:=by
 cases hp:pre (s::S) (c::r) with
 | false=>rfl
 | true =>
  have e:(c::r).take (s::S).length=s::S:=eq_of_beq hp
  rw [List.length_cons,List.take_succ_cons] at e
  injection e with e1 e2
  exact absurd e1 h
theorem getElem_drop_cons {L:List Nat}{a:Nat}(h:a < L.length):∃ c,L.drop a=c::L.drop (a+1):=⟨L[a],List.drop_eq_getElem_cons h⟩
theorem spl_run (S L:List Nat):∀ (m a:Nat) (acc:List Nat),a+m<=L.length->(∀ k,a<=k->k < a+m->pre S (L.drop k)=false) ->
  spl S 0 acc (L.drop a)=spl S 0 (acc++(L.drop a).take m) (L.drop (a+m))
 | 0,a,acc,_,_=>by rw [List.take_zero,List.append_nil,Nat.add_zero]
 | m+1,a,acc,h,hn=>by
  have hlt:a < L.length:=by omega
  obtain ⟨c,e⟩:=getElem_drop_cons hlt
  have h0:=hn a (Nat.le_refl _) (by omega)
  have ih:=spl_run S L m (a+1) (acc++[c]) (by omega) (fun k h1 h2=>hn k (by omega) (by omega))
  have e2:a+1+m=a+(m+1):=by omega
  rw [e2] at ih
  rw [e] at h0
  rw [e,spl_miss h0,ih,List.take_succ_cons,List.append_assoc] <;> rfl
theorem drop_two (L:List Nat)(a b:Nat):(L.drop a).drop b=L.drop (a+b):=by
 first
  | rw [List.drop_drop]
  | rw [List.drop_drop,Nat.add_comm]
theorem spl_at {S L:List Nat}(hS:S≠[]){c:Nat}{acc:List Nat}(h:pre S (L.drop c)=true):spl S 0 acc (L.drop c)=acc::spl S 0 [] (L.drop (c+S.length)):=by
 rw [← drop_two]
 cases e:L.drop c with
 | nil=>rw [e,pre_nil hS] at h;cases h
 | cons d r =>
  rw [e] at h
  rw [spl_hit h,spl_pass]
  cases S with
  | nil=>exact absurd rfl hS
  | cons s S=>rfl
theorem at_iff {x y:Str}(hy:tl y≠[])(i:Nat):At x y x.length i↔pre (tl y) ((tl x).drop i)=true:=by
 have hx:=len_tl x
 have hl:=len_tl y
 constructor
 · intro h
   have h2:=h.2
   rw [subAt_eq,hl] at h2
   exact h2
 · intro h
   have e:((tl x).drop i).take (tl y).length=tl y:=eq_of_beq h
   have e1:=congrArg List.length e
   rw [List.length_take,List.length_drop] at e1
   have e2:0 < (tl y).length:=List.length_pos_iff.mpr hy
   refine ⟨by omega,?_⟩
   rw [subAt_eq,hl]
   exact h
theorem no_at {x y:Str}(hy:tl y≠[]){i:Nat}(h:¬ At x y x.length i):pre (tl y) ((tl x).drop i)=false:=by
 cases hp:pre (tl y) ((tl x).drop i) with
 | false=>rfl
 | true=>exact absurd ((at_iff hy i).mpr hp) h
theorem len1 {y:Str}(hy:tl y≠[]):1<=y.length:=by
 have e2:0 < (tl y).length:=List.length_pos_iff.mpr hy
 rw [len_tl y]
 exact e2
theorem tl_strSub (x:Str)(i j:Nat):tl (strSub x i j)=((tl x).drop i).take (j - i):=strSub_toList x i j
theorem tl_strSub_end (x:Str)(i:Nat):tl (strSub x i x.length)=(tl x).drop i:=by
 rw [tl_strSub,len_tl x]
 exact List.take_of_length_le (by rw [List.length_drop] <;> omega)
theorem parts_spl {x y:Str}(hy:tl y≠[]):∀ (cuts:List Nat) (a f:Nat),a<=(tl x).length->ChainG x y x.length a cuts f->(∀ k,f<=k->¬ At x y x.length k) ->
  (partsFrom x y.length a cuts).map tl=spl (tl y) 0 [] ((tl x).drop a)
 | [],a,f,ha,h,hn=>by
  have e:f=a:=h
  subst e
  show [tl (strSub x f x.length)]=_
  have run:=spl_run (tl y) (tl x) ((tl x).length - f) f [] (by omega) (fun k h1 _=>no_at hy (hn k h1))
  have e2:f+((tl x).length - f)=(tl x).length:=by omega
  rw [e2,List.drop_length,spl_nil,List.nil_append,List.take_of_length_le (by rw [List.length_drop] <;> omega)] at run
  rw [run,tl_strSub_end]
 | c::r,a,f,ha,h,hn=>by
  obtain ⟨h1,h2,h3,h4⟩:=h
  have hc:c+y.length<=x.length:=h2.1
  have hx:=len_tl x
  have hl:=len_tl y
  have ih:=parts_spl hy r (c+y.length) f (by omega) h4 hn
  show tl (strSub x a c)::(partsFrom x y.length (c+y.length) r).map tl=_
  have run:=spl_run (tl y) (tl x) (c - a) a [] (by omega) (fun k k1 k2=>no_at hy (h3 k k1 (by omega)))
  have e2:a+(c - a)=c:=by omega
  rw [e2,List.nil_append,spl_at hy ((at_iff hy c).mp h2)] at run
  rw [run,ih,tl_strSub,hl]
theorem split_spl (x y:Str)(hy:tl y≠[])(hk:¬ Builtin.Str.strKind x < Builtin.Str.strKind y):(Txt.split x y).map tl=spl (tl y) 0 [] (tl x):=by
 obtain ⟨f,g,hn⟩:=occ_tight x y (len1 hy)
 have key:=parts_spl hy _ 0 f (Nat.zero_le _) g hn
 rw [List.drop_zero] at key
 have none_case:occurrences x y 0 x.length (x.length+1)=[]->[x].map tl=spl (tl y) 0 [] (tl x):=fun ho=>by
  rw [ho] at key
  rw [← key]
  show [tl x]=[tl (strSub x 0 x.length)]
  rw [sub_whole]
 unfold Txt.split
 by_cases h1:(decide (x.length < y.length)||decide (Builtin.Str.strKind x < Builtin.Str.strKind y))=true
 · rw [if_pos h1]
   have hlt:x.length < y.length:=by
    simp only [Bool.or_eq_true,decide_eq_true_eq] at h1
    rcases h1 with h|h
    · exact h
    · exact absurd h hk
   refine none_case ?_
   cases ho:occurrences x y 0 x.length (x.length+1) with
   | nil=>rfl
   | cons c r =>
    rw [ho] at g
    have hc:c+y.length<=x.length:=g.2.1.1
    omega
 · rw [if_neg h1]
   by_cases h2:(occurrences x y 0 x.length (x.length+1)).isEmpty=true
   · rw [if_pos h2]
     exact none_case (List.isEmpty_iff.mp h2)
   · rw [if_neg h2,partsBetween_eq]
     exact key
theorem kind_ok {x y:Str}(h:y.cps.all (· < 256)=true):¬ Builtin.Str.strKind x < Builtin.Str.strKind y:=by
 have e:Builtin.Str.strKind y=1:=by unfold PySem.Builtin.Str.strKind;rw [if_pos h]
 rw [e]
 unfold PySem.Builtin.Str.strKind
 split
 · omega
 · split <;> omega
def joinL (S:List Nat):List (List Nat)->List Nat
 | []=>[]
 | [p]=>p
 | p::q::r=>p++(S++joinL S (q::r))
theorem tl_join (y:Str):∀ parts:List Str,tl (Str.join y parts)=joinL (tl y) (parts.map tl)
 | []=>rfl
 | [_]=>rfl
 | x::z::r=>by
  show tl (x++y++Str.join y (z::r))=tl x++(tl y++joinL (tl y) ((z::r).map tl))
  rw [tl_append,tl_append,tl_join y (z::r),List.append_assoc]
theorem join_eq (y:Str)(parts:List Str):Txt.join y parts=Str.join y parts:=glued_eq_join y parts
end TL
end
namespace L2
open PySem PySem.Spec PyProof.Rows
theorem vals_strs:∀ l:List (Str×Tok),Vals ((l.map (·.1)).map V.str) (strValues l)
 | []=>.nil
 | p::r=>.cons ⟨p.2,rfl⟩ (vals_strs r)
theorem strs_of_vals:∀ {ys:List Str} {us:List Value},Vals (ys.map V.str) us->StrsAre us ys
 | [],_,.nil=>.nil
 | y::ys,_,.cons r t=>by
  obtain ⟨k,rfl⟩:=r
  exact .cons y k (strs_of_vals t)
def rNewStrs (ys:List Str):Hp->VK->Prop:=fun H Q=>∀ p,H p=none->Q (.ref p) (upd H p (.lst (ys.map V.str)))
section
variable {X:Cx}{pins:List (Addr×Obj)}{σ:St}{H:Hp}{s:Shared}{Q:VK}
theorem laid_strs {l:List (Str×Tok)} {ys:List Str} {k:Nat} (I:Inv X pins σ H s) (e:l.map (·.1)=ys) (hz:ys.length<=sizeLine) (h:rNewStrs ys H Q) :
  EP X pins σ Q (.ref s.heap.objs.size) { s with toks:=k,heap:=s.heap.push { cls:=.type "list",data:=.seq (strValues l).toArray } }:=by
 have hp:=I.hok.fresh (Nat.le_refl _)
 refine ⟨.ref s.heap.objs.size,upd H s.heap.objs.size (.lst (ys.map V.str)),I.laid (fun b u q=>Heap.get?_push_of_some _ q) (Nat.le_refl _) ⟨by rw [List.length_map];exact hz,strValues l,_,?_,Heap.get?_push_size _ rfl⟩,rfl,h _ hp⟩
 rw [← e]
 exact vals_strs l
end
section
variable {X:Cx}
theorem mt_split:MtR X "str.split" (fun x xs H Q=>∃ a b,x=.str a/\xs=[.str b]/\(b.length==0)=false/\a.length+2<=sizeLine/\rNewStrs (Txt.split a b) H Q):=by
 intro pins s σ H x xs v us Q I rx rs h
 obtain ⟨a,b,rfl,rfl,hb,hz,h⟩:=h
 obtain ⟨t,rfl⟩:=rx
 cases rs with
 | cons r1 rs =>
  cases rs
  obtain ⟨u,rfl⟩:=r1
  have hl:(Txt.split a b).length<=sizeLine:=Nat.le_trans (PyProof.Rows.split_le a b) hz
  have hn:(Builtin.Str.partsBetween a (Builtin.Str.occurrences a b 0 a.length (a.length+1)) b.length).length<=sizeLine:=by
   have e1:=StrLaws.occ_length_le a b 0 a.length (a.length+1)
   rw [length_partsBetween];omega
  cases h1:(decide (a.length < b.length)||decide (Builtin.Str.strKind a < Builtin.Str.strKind b))
  · cases hf:(Builtin.Str.occurrences a b 0 a.length (a.length+1)).isEmpty
    · refine call_meets F.slot_str_split (typeIs_str _ _ _) F.entry_str_split (F.args_str_split_2 _ _) (meets_str_split_sep a b t u h1 hb hf (by omega) hn) ?_
      show EP X pins σ Q (.ref s.heap.objs.size) { s with toks:=_,heap:=s.heap.push { cls:=.type "list",data:=.seq (strsFrom s.toks (Builtin.Str.partsBetween a (Builtin.Str.occurrences a b 0 a.length (a.length+1)) b.length)).toArray } }
      rw [strsFrom_eq]
      exact laid_strs (ys:=Txt.split a b) I ((numbered_texts _ _).trans ((if_neg (ne_true_of_eq_false h1)).trans (if_neg (ne_true_of_eq_false hf))).symm) hl h
    · refine call_meets F.slot_str_split (typeIs_str _ _ _) F.entry_str_split (F.args_str_split_2 _ _) (meets_str_split_not_found a b t u h1 hb hf) ?_
      exact laid_strs (l:=[(a,t)]) (ys:=Txt.split a b) (k:=s.toks) I ((if_neg (ne_true_of_eq_false h1)).trans (if_pos hf)).symm hl h
  · refine call_meets F.slot_str_split (typeIs_str _ _ _) F.entry_str_split (F.args_str_split_2 _ _) (meets_str_split_cannot_occur a b t u h1) ?_
    exact laid_strs (l:=[(a,t)]) (ys:=Txt.split a b) (k:=s.toks) I (if_pos h1).symm hl h
theorem mt_join:MtR X "str.join" (fun x xs H Q=>∃ a p,∃ ys:List Str,x=.str a/\xs=[.ref p]/\(SqL X.K H p (ys.map V.str)∨SqT X.K H p (ys.map V.str)) /\
  (ys.map (·.length)).sum+ys.length*a.length<=16777216/\Q (.str (Txt.join a ys)) H):=by
 intro pins s σ H x xs v us Q I rx rs h
 obtain ⟨a,p,ys,rfl,rfl,hp,hz,h⟩:=h
 obtain ⟨t,rfl⟩:=rx
 cases rs with
 | cons r1 rs =>
  cases rs
  cases r1
  rcases hp with hp|hp
  · obtain ⟨its,r,⟨o,n,ho,hc,_,hd⟩,_⟩:=I.list hp
    exact PyProof.Rows.join_list (items:=its.toArray) ⟨o,ho,hc,n,hd⟩ (by rw [List.toList_toArray];exact strs_of_vals r) hz fun t' k=>⟨.str _,H,I.tok k,⟨t',rfl⟩,h⟩
  · obtain ⟨its,r,ht,_⟩:=I.tuple hp
    exact PyProof.Rows.join_tuple (items:=its.toArray) ht (by rw [List.toList_toArray];exact strs_of_vals r) hz fun t' k=>⟨.str _,H,I.tok k,⟨t',rfl⟩,h⟩
theorem mt0 {id:String}{C:Str->Prop}{g:Str->V}(rule:∀ (a:Str) (t:Tok) (s:Shared) (Q:Value->Shared->Prop),C a->(∀ (u:Value) (k:Nat),RelV (g a) u->Q u { s with toks:=k }) ->
  wpAny (model X.prog X.w) X.A (call (.builtin id) [.str a t]) Q X.xe s):MtR X id (fun x xs H Q=>∃ a,x=.str a/\xs=[]/\C a/\Q (g a) H):=by
 intro pins s σ H x xs v us Q I rx rs h
 obtain ⟨a,rfl,rfl,hc,h⟩:=h
 obtain ⟨t,rfl⟩:=rx
 cases rs
 exact rule a t s _ hc fun u k r=>⟨g a,H,I.tok k,r,h⟩
theorem mt_isdigit:MtR X "str.isdigit" (fun x xs H Q=>∃ a,x=.str a/\xs=[]/\True/\Q (.bl (Txt.isdigit a)) H) :=
 mt0 (C:=fun _=>True) (g:=fun a=>.bl (Txt.isdigit a)) fun _ _ s _ _ h=>PySem.SC.isdigit (h _ s.toks rfl)
theorem mt1 {id:String}{g:Str->Str->V}(rule:∀ (a b:Str) (t u:Tok) (s:Shared) (Q:Value->Shared->Prop),(∀ (v:Value) (k:Nat),RelV (g a b) v->Q v { s with toks:=k }) ->
  wpAny (model X.prog X.w) X.A (call (.builtin id) [.str a t,.str b u]) Q X.xe s):MtR X id (fun x xs H Q=>∃ a b,x=.str a/\xs=[.str b]/\Q (g a b) H):=by
 intro pins s σ H x xs v us Q I rx rs h
 obtain ⟨a,b,rfl,rfl,h⟩:=h
 obtain ⟨t,rfl⟩:=rx
 cases rs with
 | cons r1 rs =>
  cases rs
  obtain ⟨u,rfl⟩:=r1
  exact rule a b t u s _ fun v k r=>⟨g a b,H,I.tok k,r,h⟩
theorem mt_endswith:MtR X "str.endswith" (fun x xs H Q=>∃ a b,x=.str a/\xs=[.str b]/\Q (.bl (Txt.endswith a b)) H) :=
 mt1 (g:=fun a b=>.bl (Txt.endswith a b)) fun _ _ _ _ s _ h=>PySem.SC.endswith (h _ s.toks rfl)
theorem call_int_str:CallR X (.type "int") (fun xs H Q=>∃ a n,xs=[.str a]/\PySem.intText? a=some n/\a.length<=640/\Q (.int n) H):=by
 intro pins s σ H xs us Q I rs h
 obtain ⟨a,n,rfl,hn,hl,h⟩:=h
 cases rs with
 | cons r1 rs =>
  cases rs
  obtain ⟨t,rfl⟩:=r1
  exact PySem.W.KIN.call_text hn hl ⟨.int n,H,I.tok _,⟨_,rfl⟩,h⟩
end
section
variable {X:Cx}{o e:Expr}{to te:TE}
def tM0 (r:V->List V->Hp->VK->Prop) (to:TE):TE:=fun σ H Q=>to σ H fun x H1=>(∃ a,x=.str a)/\r x [] H1 Q
def tM1 (r:V->List V->Hp->VK->Prop)(to te:TE):TE:=fun σ H Q=>to σ H fun x H1=>(∃ a,x=.str a)/\te σ H1 fun y H2=>r x [y] H2 Q
theorem pe_m0 {id:String}{name:Str}{apos pos:Pos}{r:V->List V->Hp->VK->Prop}(slot:Slot "str" name id)(ty:typeOf (.builtin id)=pure (.type "method_descriptor"))(rule:MtR X id r)(ho:PE X o to)
  (hbase:attributeBase o name X.env (eval o X.env)=eval o X.env:=by rfl)(hline:(apos.endLine==pos.line)=true:=by rfl):PE X (.Call (.Attribute o name apos) [] [] pos) (tM0 r to):=by
 intro pins s σ H Q I h
 refine PySem.Call_method0 hbase hline (thn (ho pins s σ H _ I h) fun v s1 ⟨x,H1,I1,r1,q1⟩=>?_)
 obtain ⟨⟨a,rfl⟩,q1⟩:=q1
 obtain ⟨t,rfl⟩:=_root_.id r1
 exact ⟨"str",_,F.plainAttrs_str,slot,ty,typeIs_str _ _ _,(fun _ e=>nomatch e),Calls.callWith_builtin rfl (PySem.evalArgs_none (rule pins s1 σ H1 _ [] _ [] Q I1 r1 .nil q1))⟩
theorem pe_m1 {id:String}{name:Str}{apos pos:Pos}{r:V->List V->Hp->VK->Prop}(slot:Slot "str" name id)(ty:typeOf (.builtin id)=pure (.type "method_descriptor"))(rule:MtR X id r)(ho:PE X o to)(he:PE X e te)
  (hs:starEach [e] X.env=[(false,eval e X.env)]:=by rfl)(hbase:attributeBase o name X.env (eval o X.env)=eval o X.env:=by rfl)(hline:(apos.endLine==pos.line)=true:=by rfl) :
  PE X (.Call (.Attribute o name apos) [e] [] pos) (tM1 r to te):=by
 intro pins s σ H Q I h
 refine PySem.Call_method1 hbase hs hline (thn (ho pins s σ H _ I h) fun v s1 ⟨x,H1,I1,r1,q1⟩=>?_)
 obtain ⟨⟨a,rfl⟩,q1⟩:=q1
 obtain ⟨t,rfl⟩:=_root_.id r1
 refine ⟨"str",_,F.plainAttrs_str,slot,ty,typeIs_str _ _ _,(fun _ e=>nomatch e),Calls.callWith_builtin rfl (Calls.evalArgs_plain (Calls.spliced_cons ?_))⟩
 exact thn (he pins s1 σ H1 _ I1 q1) fun u s2 ⟨y,H2,I2,r2,q2⟩=>Calls.spliced_nil (rule pins s2 σ H2 _ [y] _ [u] Q I2 r1 (.cons r2 .nil) q2)
theorem pe_split {apos pos:Pos}(ho:PE X o to)(he:PE X e te)(hs:starEach [e] X.env=[(false,eval e X.env)]:=by rfl)(hbase:attributeBase o "split" X.env (eval o X.env)=eval o X.env:=by rfl)(hline:(apos.endLine==pos.line)=true:=by rfl) :
  PE X (.Call (.Attribute o "split" apos) [e] [] pos) (tM1 (fun x xs H Q=>∃ a b,x=.str a/\xs=[.str b]/\(b.length==0)=false/\a.length+2<=sizeLine/\rNewStrs (Txt.split a b) H Q) to te) :=
 pe_m1 F.slot_str_split F.type_str_split mt_split ho he hs hbase hline
theorem pe_join {apos pos:Pos}(ho:PE X o to)(he:PE X e te)(hs:starEach [e] X.env=[(false,eval e X.env)]:=by rfl)(hbase:attributeBase o "join" X.env (eval o X.env)=eval o X.env:=by rfl)(hline:(apos.endLine==pos.line)=true:=by rfl) :
  PE X (.Call (.Attribute o "join" apos) [e] [] pos) (tM1 (fun x xs H Q=>∃ a p,∃ ys:List Str,x=.str a/\xs=[.ref p]/\(SqL X.K H p (ys.map V.str)∨SqT X.K H p (ys.map V.str)) /\
   (ys.map (·.length)).sum+ys.length*a.length<=16777216/\Q (.str (Txt.join a ys)) H) to te) :=
 pe_m1 F.slot_str_join F.type_str_join mt_join ho he hs hbase hline
end
section
variable {X:Cx}
theorem op_in_sign:OpR X (compareOp .In) (fun x y H Q=>∃ (c:Nat) (z:Str),x=.str ⟨#[c]⟩/\y=.str z/\Q (.bl (decide (c∈z.cps.toList))) H):=by
 intro pins s σ H x y v u Q I rx ry h
 obtain ⟨c,z,rfl,rfl,q⟩:=h
 obtain ⟨t,rfl⟩:=rx
 obtain ⟨t',rfl⟩:=ry
 exact PyProof.Rows.in_str (fin_bl I q (PySem.StrLaws.found_one z c).symm)
theorem op_notIn_sign:OpR X (compareOp .NotIn) (fun x y H Q=>∃ (c:Nat) (z:Str),x=.str ⟨#[c]⟩/\y=.str z/\Q (.bl (!decide (c∈z.cps.toList))) H):=by
 intro pins s σ H x y v u Q I rx ry h
 obtain ⟨c,z,rfl,rfl,q⟩:=h
 obtain ⟨t,rfl⟩:=rx
 obtain ⟨t',rfl⟩:=ry
 exact PyProof.Rows.notIn_str (fin_bl I q (congrArg Bool.not (PySem.StrLaws.found_one z c).symm))
end
theorem IsPart.raw {v:Value}{o:Option Int}(p:IsPart v o):∃ l:Option (Int×Tok),v=partValue l/\l.map (·.1)=o:=by
 cases p with
 | none=>exact ⟨none,rfl,rfl⟩
 | int i t=>exact ⟨some (i,t),rfl,rfl⟩
def clipS (n d:Nat):Option Int->Int
 | none=>(d:Int)
 | some i=>max 0 (min (if i < 0 then i+(n:Int) else i) (n:Int))
theorem clipS_eq (n d:Nat)(o:Option Int):clipS n d o=((HT.sIx n d o:Nat):Int):=by
 cases o with
 | none=>rfl
 | some v =>
  show max (0:Int) (min (if v < 0 then v+(n:Int) else v) (n:Int))=(((if v < 0 then (v+(n:Int)).toNat else min v.toNat n):Nat):Int)
  by_cases hv:v < 0
  · simp only [if_pos hv]
    omega
  · simp only [if_neg hv]
    omega
theorem sidx_clip (a b:Option Int)(n:Nat):Builtin.Str.strSliceIndices a b 1 n=sliceRange (clipS n 0 a) (clipS n n b) 1:=by
 have h1:((1:Int) > 0)=True:=by simp
 cases a <;> cases b <;> first
  | rfl
  | (simp only [Builtin.Str.strSliceIndices,clipS,h1,if_true];rfl)
  | simp [Builtin.Str.strSliceIndices,clipS]
theorem sidx (a b:Option Int)(n:Nat):Builtin.Str.strSliceIndices a b 1 n=(List.range (HT.sIx n n b - HT.sIx n 0 a)).map (fun k=>HT.sIx n 0 a+k):=by
 rw [sidx_clip,clipS_eq,clipS_eq]
 generalize HT.sIx n 0 a=p
 generalize HT.sIx n n b=q
 simp only [sliceRange,show ((1:Int) > 0)=True from by simp,if_true]
 by_cases hlt:(p:Int) < q
 · have e3:(((q:Int) - p+1 - 1) / 1).toNat=q - p:=by first|omega|(simp;done)|(simp;omega)
   simp only [hlt,if_true,e3]
   refine List.map_congr_left fun k _=>?_
   omega
 · have:q - p=0:=by omega
   simp [hlt,this]
def cutS (z:Str)(lo hi:Option Int):Str :=
 ⟨((z.cps.toList.drop (HT.sIx z.length 0 lo)).take (HT.sIx z.length z.length hi - HT.sIx z.length 0 lo)).toArray⟩
theorem sliceText_cut (z:Str)(lo hi:Option Int):PySem.StrLaws.sliceText z lo hi=cutS z lo hi:=by
 have h1:HT.sIx z.length 0 lo<=z.length:=HT.sIx_le _ _ (Nat.zero_le _) _
 have h2:HT.sIx z.length z.length hi<=z.length:=HT.sIx_le _ _ (Nat.le_refl _) _
 have hp:HT.sIx z.length 0 lo<=max (HT.sIx z.length 0 lo) (HT.sIx z.length z.length hi):=Nat.le_max_left _ _
 have hq:max (HT.sIx z.length 0 lo) (HT.sIx z.length z.length hi)<=z.length:=Nat.max_le.mpr ⟨h1,h2⟩
 have hd:max (HT.sIx z.length 0 lo) (HT.sIx z.length z.length hi) - HT.sIx z.length 0 lo=HT.sIx z.length z.length hi - HT.sIx z.length 0 lo:=by omega
 have e:Builtin.Str.strSliceIndices lo hi 1 z.length =
   Builtin.Str.strSliceIndices (some ((HT.sIx z.length 0 lo:Nat):Int)) (some ((max (HT.sIx z.length 0 lo) (HT.sIx z.length z.length hi):Nat):Int)) 1 z.length:=by
  rw [PySem.StrLaws.strSliceIndices_plain hp hq,hd,sidx]
 have e2:PySem.StrLaws.sliceText z lo hi =
   PySem.StrLaws.sliceText z (some ((HT.sIx z.length 0 lo:Nat):Int)) (some ((max (HT.sIx z.length 0 lo) (HT.sIx z.length z.length hi):Nat):Int)):=by
  unfold PySem.StrLaws.sliceText
  rw [e]
 rw [e2,PySem.StrLaws.sliceText_nat z hp hq,hd]
 rfl
theorem cutS_length (z:Str)(lo hi:Option Int):(cutS z lo hi).length<=z.length:=by
 show (((z.cps.toList.drop (HT.sIx z.length 0 lo)).take (HT.sIx z.length z.length hi - HT.sIx z.length 0 lo)).toArray).size<=z.cps.size
 rw [List.size_toArray,List.length_take,List.length_drop,Array.length_toList]
 omega
def rSlS:V->Option Int->Option Int->Hp->VK->Prop:=fun x lo hi H Q=>∃ z,x=.str z/\z.length<=sizeLine/\Q (.str (cutS z lo hi)) H
theorem sl_str {X:Cx}:SlR X rSlS:=by
 intro pins s σ H x v vl vu lo hi sl Q I rx hs pl pu h
 obtain ⟨z,rfl,hz,q⟩:=h
 obtain ⟨t,rfl⟩:=rx
 obtain ⟨os,hos,hcs,hds⟩:=hs
 obtain ⟨l,rfl,rfl⟩:=IsPart.raw pl
 obtain ⟨u,rfl,rfl⟩:=IsPart.raw pu
 refine ⟨"str",_,F.slot_str_getitem.lookup,typeIs_str _ _ _,?_⟩
 refine wpAny_getItem_str_slice (l:=l) (u:=u) (st:=none) ⟨os,hos,hcs,hds⟩ rfl ?_
 have hl:(PySem.StrLaws.sliceText z (l.map (·.1)) (u.map (·.1))).length<=sizeLine:=by
  rw [sliceText_cut]
  exact Nat.le_trans (cutS_length z _ _) hz
 rw [← sliceText_cut] at q
 unfold PySem.StrLaws.sliceText at q hl
 show Made.post (if ((1:Int)==1&&(Builtin.Str.strSliceIndices (l.map (·.1)) (u.map (·.1)) 1 z.length).length==z.length)=true then Made.val (.str z t)
  else Made.str ⟨((Builtin.Str.strSliceIndices (l.map (·.1)) (u.map (·.1)) 1 z.length).filterMap (z.cps[·]?)).toArray⟩) (EP X pins σ Q) s
 by_cases c:((1:Int)==1&&(Builtin.Str.strSliceIndices (l.map (·.1)) (u.map (·.1)) 1 z.length).length==z.length)=true
 · rw [if_pos c] at q ⊢
   exact ⟨.str z,H,I,⟨t,rfl⟩,q⟩
 · rw [if_neg c] at q hl ⊢
   exact ⟨hl,.str _,H,I.tok _,⟨_,rfl⟩,q⟩
end L2
namespace Att
open PySem PySem.W PySem.Calls PyProof.Rows
section
variable {prog:Program}{w:World}{A:Around}{E:Value->Shared->Prop}{s:Shared}{K:Frag}
end
end Att
namespace L2
open PySem PySem.Spec PyProof.Rows
end L2
section
set_option Elab.async false
set_option linter.all false
set_option maxRecDepth 100000
set_option maxHeartbeats 2000000
namespace L2
open PySem PySem.Spec PyProof.Rows
open PySem.W (WData Codec OpenSpec Well WellAll ReadsW ReadsAllW)
mutual
inductive Dw (K:PySem.W.Frag)(H:Hp):V->WData->Prop
 | non:Dw K H .non .none
 | bl (b:Bool):Dw K H (.bl b) (.bool b)
 | int (i:Int):Dw K H (.int i) (.int i)
 | str (x:Str):Dw K H (.str x) (.str x)
 | byt (b:Array UInt8):Dw K H (.byt b) (.bytes b.toList)
 | lst {a:Addr} {xs:List V} {ds:List WData}:SqL K H a xs->DwAll K H xs ds->Dw K H (.ref a) (.list ds)
 | tup {a:Addr} {xs:List V} {ds:List WData}:SqT K H a xs->DwAll K H xs ds->Dw K H (.ref a) (.tuple ds)
inductive DwAll (K:PySem.W.Frag)(H:Hp):List V->List WData->Prop
 | nil:DwAll K H [] []
 | cons {v:V} {vs:List V} {d:WData} {ds:List WData}:Dw K H v d->DwAll K H vs ds->DwAll K H (v::vs) (d::ds)
end
theorem dw_ints {K:PySem.W.Frag}{H:Hp}:∀ ns:List Int,DwAll K H (ns.map V.int) (ns.map WData.int)
 | []=>.nil
 | n::r=>.cons (.int n) (dw_ints r)
theorem ints_dw {K:PySem.W.Frag}{H:Hp}:∀ (ns:List Int) (xs:List V),DwAll K H xs (ns.map WData.int)->xs=ns.map V.int
 | [],xs,h=>by
  cases h
  rfl
 | n::r,xs,h=>by
  cases h with
  | cons h1 h2 =>
   cases h1
   rw [ints_dw r _ h2] <;> rfl
section
variable {P:Program}{w:World}{K:PySem.W.Frag}{H:Hp}{h:Heap}{R:PySem.W.WRecords}{cl:Str->Option Addr}
theorem sqL_at {a:Addr} {xs:List V} (hok:HOk P w H h) (KX:K.In h) (q:SqL K H a xs):∃ (its:List Value) (o:Obj) (n:Nat),Vals xs its/\h.get? a=some o/\o.cls=.type "list"/\o.data=.seq its.toArray n:=by
 rcases q with q|⟨o,its,n,e,hc,_,hd,_,hv⟩
 · obtain ⟨_,its,n,hv,e⟩:=(show ObjOk P w H h a (.lst xs) from q.ok hok)
   exact ⟨its,_,n,hv,e,rfl,rfl⟩
 · exact ⟨its.toList,o,n,hv,KX _ _ e,hc,by simp [hd]⟩
theorem sqT_at {a:Addr}{xs:List V}(hok:HOk P w H h)(KX:K.In h)(q:SqT K H a xs):∃ (its:List Value) (o:Obj) (n:Nat),Vals xs its/\h.get? a=some o/\o.cls=.type "tuple"/\o.data=.seq its.toArray n:=by
 rcases q with q|⟨o,its,n,e,hc,hd,_,hv⟩
 · obtain ⟨_,its,hv,o,e,hc,n,hd⟩:=(show ObjOk P w H h a (.tup xs) from q.ok hok)
   exact ⟨its,o,n,hv,e,hc,hd⟩
 · exact ⟨its.toList,o,n,hv,KX _ _ e,hc,by simp [hd]⟩
mutual
theorem Dw.reads (hok:HOk P w H h)(KX:K.In h):∀ (d:WData) (v:V) (u:Value),Dw K H v d->RelV v u->∃ as,ReadsW R cl h u d as
 | .none,_,_,x,r=>by
  cases x
  cases r
  exact ⟨_,ReadsW.none⟩
 | .bool b,_,_,x,r=>by
  cases x
  cases r
  exact ⟨_,ReadsW.bool b⟩
 | .int i,_,_,x,r=>by
  cases x
  obtain ⟨t,rfl⟩:=r
  exact ⟨_,ReadsW.int i t⟩
 | .str s,_,_,x,r=>by
  cases x
  obtain ⟨t,rfl⟩:=r
  exact ⟨_,ReadsW.str s t⟩
 | .bytes b,_,_,x,r=>by
  cases x
  obtain ⟨t,rfl⟩:=r
  exact ⟨_,ReadsW.bytes _ t⟩
 | .list ds,_,_,x,r=>by
  cases x with
  | lst hs ha =>
   cases r
   obtain ⟨its,o,n,rv,ho,hc,hd⟩:=sqL_at hok KX hs
   obtain ⟨as,hr⟩:=Dw.readsAll hok KX ds _ its ha rv
   exact ⟨_,ReadsW.list ho hc hd hr⟩
 | .tuple ds,_,_,x,r=>by
  cases x with
  | tup hs ha =>
   cases r
   obtain ⟨its,o,n,rv,ho,hc,hd⟩:=sqT_at hok KX hs
   obtain ⟨as,hr⟩:=Dw.readsAll hok KX ds _ its ha rv
   exact ⟨_,ReadsW.tuple ho hc hd hr⟩
 | .float _,_,_,x,_=>by cases x
 | .dict _,_,_,x,_=>by cases x
 | .bytearray _,_,_,x,_=>by cases x
 | .set _,_,_,x,_=>by cases x
 | .frozenset _,_,_,x,_=>by cases x
 | .obj _ _,_,_,x,_=>by cases x
theorem Dw.readsAll (hok:HOk P w H h)(KX:K.In h):∀ (ds:List WData) (vs:List V) (us:List Value),DwAll K H vs ds->Vals vs us->∃ as,ReadsAllW R cl h us ds as
 | [],_,_,x,r=>by
  cases x
  cases r
  exact ⟨_,ReadsAllW.nil⟩
 | d::ds,_,_,x,r=>by
  cases x with
  | cons h1 h2 =>
   cases r with
   | cons r1 r2 =>
    obtain ⟨as,q1⟩:=Dw.reads hok KX d _ _ h1 r1
    obtain ⟨bs,q2⟩:=Dw.readsAll hok KX ds _ _ h2 r2
    exact ⟨_,ReadsAllW.cons q1 q2⟩
end
end
mutual
def plW:WData->Bool
 | .none=>true
 | .bool _=>true
 | .int _=>true
 | .str _=>true
 | .bytes _=>true
 | .list xs=>plWs xs
 | .tuple xs=>plWs xs
 | _=>false
def plWs:List WData->Bool
 | []=>true
 | x::r=>plW x&&plWs r
end
theorem plWs_map {α:Type}{f:α->WData}(h:∀ a,plW (f a)=true):∀ l:List α,plWs (l.map f)=true
 | []=>rfl
 | x::r=>by
  show (plW (f x)&&plWs (r.map f))=true
  rw [h x,plWs_map h r] <;> rfl
theorem pl_enc:∀ (c:Codec) (a:c.denote),plW (c.enc a)=true
 | .unit,_=>rfl
 | .bool,_=>rfl
 | .int _ _,_=>rfl
 | .nat _ _,_=>rfl
 | .u8,_=>rfl
 | .bytes _ _,_=>rfl
 | .text _ _ _ _,_=>rfl
 | .list _ _ c,a=>plWs_map (fun x=>pl_enc c x) a
 | .pair c d,a=>by
  show (plW (c.enc a.1)&&(plW (d.enc a.2)&&true))=true
  rw [pl_enc c a.1,pl_enc d a.2] <;> rfl
 | .triple c d e,a=>by
  show (plW (c.enc a.1)&&(plW (d.enc a.2.1)&&(plW (e.enc a.2.2)&&true)))=true
  rw [pl_enc c a.1,pl_enc d a.2.1,pl_enc e a.2.2] <;> rfl
 | .option c,none=>rfl
 | .option c,some x=>pl_enc c x
theorem pl_encAll:∀ (cs:List Codec) (a:Codec.denoteAll cs),plWs (Codec.encAll cs a)=true
 | [],_=>rfl
 | c::cs,a=>by
  show (plW (c.enc a.1)&&plWs (Codec.encAll cs a.2))=true
  rw [pl_enc c a.1,pl_encAll cs a.2] <;> rfl
theorem weight_mem:∀ {xs:List WData} {d:WData},d∈xs->d.weight<=WData.weightAll xs
 | [],d,h=>absurd h (by simp)
 | x::r,d,h=>by
  show d.weight<=x.weight+1+WData.weightAll r
  rcases List.mem_cons.mp h with e|m
  · rw [e]
    omega
  · have z:=weight_mem m
    omega
def toV:Value->V
 | .none=>.non
 | .bool b=>.bl b
 | .int i _=>.int i
 | .str x _=>.str x
 | .bytes b _=>.byt b
 | .ref a=>.ref a
 | _=>.non
def OkU (A:List Addr):Value->Prop
 | .none=>True
 | .bool _=>True
 | .int _ _=>True
 | .str _ _=>True
 | .bytes _ _=>True
 | .ref a=>a∈A
 | _=>False
theorem OkU.mono {A B:List Addr}(h:∀ a∈A,a∈B):∀ {u:Value},OkU A u->OkU B u:=fun {u} x=>by
 cases u with
 | ref a=>exact h a x
 | none=>trivial
 | bool b=>trivial
 | int i t=>trivial
 | str s t=>trivial
 | bytes b t=>trivial
 | _=>exact False.elim x
theorem relV_toV {A:List Addr}{u:Value}(x:OkU A u):RelV (toV u) u:=by
 cases u with
 | ref a=>rfl
 | none=>rfl
 | bool b=>rfl
 | int i t=>exact ⟨t,rfl⟩
 | str s t=>exact ⟨t,rfl⟩
 | bytes b t=>exact ⟨t,rfl⟩
 | _=>exact False.elim x
theorem vals_toV {A:List Addr}:∀ {vs:List Value},(∀ u∈vs,OkU A u)->Vals (vs.map toV) vs
 | [],_=>.nil
 | u::r,h=>.cons (relV_toV (h u (List.mem_cons_self ..))) (vals_toV fun x hx=>h x (List.mem_cons_of_mem _ hx))
def ArgOb (h:Heap)(A:List Addr)(a:Addr):Prop:=∃ vs:List Value,vs.length<=sizeLine/\(∀ u∈vs,OkU A u) /\
 (h.get? a=some { cls:=.type "list",data:=.seq vs.toArray }∨h.get? a=some { cls:=.type "tuple",data:=.seq vs.toArray })
theorem ArgOb.mono {h:Heap}{A B:List Addr}{a:Addr}(k:∀ a∈A,a∈B)(x:ArgOb h A a):ArgOb h B a:=by
 obtain ⟨vs,h1,h2,h3⟩:=x
 exact ⟨vs,h1,fun u hu=>(h2 u hu).mono k,h3⟩
theorem wellAll_len {P:Params}{h:Heap}:∀ {vs:List Value} {ds:List WData},WellAll P h vs ds->vs.length=ds.length
 | _,_,.nil=>rfl
 | _,_,.cons _ b=>by
  show _+1=_+1
  rw [wellAll_len b]
theorem well_list {P:Params}{h:Heap}{v:Value}{ds:List WData}(x:Well P h v (.list ds)):∃ (a:Addr) (vs:List Value),v=.ref a/\h.get? a=some { cls:=.type "list",data:=.seq vs.toArray }/\WellAll P h vs ds:=by
 cases x with
 | list ho hall=>exact ⟨_,_,rfl,ho,hall⟩
theorem well_tuple {P:Params}{h:Heap}{v:Value}{ds:List WData}(x:Well P h v (.tuple ds)):∃ (a:Addr) (vs:List Value),v=.ref a/\h.get? a=some { cls:=.type "tuple",data:=.seq vs.toArray }/\WellAll P h vs ds:=by
 cases x with
 | tuple ho hall=>exact ⟨_,_,rfl,ho,hall⟩
theorem well_cons {P:Params}{h:Heap}{us:List Value}{d:WData}{ds:List WData}(x:WellAll P h us (d::ds)):∃ (v:Value) (vs:List Value),us=v::vs/\Well P h v d/\WellAll P h vs ds:=by
 cases x with
 | cons a b=>exact ⟨_,_,rfl,a,b⟩
theorem line_of {n:Nat}(h:n<=1048576):n<=sizeLine:=Nat.le_trans h (by decide)
section
variable {P:Params}{h:Heap}
mutual
theorem area_one:∀ (d:WData) (v:Value),Well P h v d->plW d=true->d.weight<=1048576->∃ A:List Addr,OkU A v/\∀ a∈A,ArgOb h A a
 | .none,_,x,_,_=>by
  cases x
  exact ⟨[],trivial,fun a m=>absurd m (by simp)⟩
 | .bool b,_,x,_,_=>by
  cases x
  exact ⟨[],trivial,fun a m=>absurd m (by simp)⟩
 | .int i,_,x,_,_=>by
  cases x
  exact ⟨[],trivial,fun a m=>absurd m (by simp)⟩
 | .str s,_,x,_,_=>by
  cases x
  exact ⟨[],trivial,fun a m=>absurd m (by simp)⟩
 | .bytes b,_,x,_,_=>by
  cases x
  exact ⟨[],trivial,fun a m=>absurd m (by simp)⟩
 | .list ds,_,x,p,z=>by
  obtain ⟨a,vs,rfl,ho,hall⟩:=well_list x
  have z2:WData.weightAll ds<=1048576:=z
  obtain ⟨A,h1,h2⟩:=area_all ds _ hall p fun d hd=>Nat.le_trans (weight_mem hd) z2
  have k:∀ b∈A,b∈a::A:=fun b hb=>List.mem_cons_of_mem _ hb
  refine ⟨a::A,List.mem_cons_self ..,fun b hb=>?_⟩
  rcases List.mem_cons.mp hb with e|m
  · rw [e]
    exact ⟨vs,line_of (by rw [wellAll_len hall];exact Nat.le_trans (PySem.W.length_le_weightAllW ds) z2),fun u hu=>(h1 u hu).mono k,.inl ho⟩
  · exact (h2 b m).mono k
 | .tuple ds,_,x,p,z=>by
  obtain ⟨a,vs,rfl,ho,hall⟩:=well_tuple x
  have z2:WData.weightAll ds<=1048576:=z
  obtain ⟨A,h1,h2⟩:=area_all ds _ hall p fun d hd=>Nat.le_trans (weight_mem hd) z2
  have k:∀ b∈A,b∈a::A:=fun b hb=>List.mem_cons_of_mem _ hb
  refine ⟨a::A,List.mem_cons_self ..,fun b hb=>?_⟩
  rcases List.mem_cons.mp hb with e|m
  · rw [e]
    exact ⟨vs,line_of (by rw [wellAll_len hall];exact Nat.le_trans (PySem.W.length_le_weightAllW ds) z2),fun u hu=>(h1 u hu).mono k,.inr ho⟩
  · exact (h2 b m).mono k
 | .float _,_,_,p,_=>Bool.noConfusion (show false=true from p)
 | .dict _,_,_,p,_=>Bool.noConfusion (show false=true from p)
 | .bytearray _,_,_,p,_=>Bool.noConfusion (show false=true from p)
 | .set _,_,_,p,_=>Bool.noConfusion (show false=true from p)
 | .frozenset _,_,_,p,_=>Bool.noConfusion (show false=true from p)
 | .obj _ _,_,_,p,_=>Bool.noConfusion (show false=true from p)
theorem area_all:∀ (ds:List WData) (vs:List Value),WellAll P h vs ds->plWs ds=true->(∀ d∈ds,d.weight<=1048576)->∃ A:List Addr,(∀ u∈vs,OkU A u)/\∀ a∈A,ArgOb h A a
 | [],_,x,_,_=>by
  cases x
  exact ⟨[],fun u m=>absurd m (by simp),fun a m=>absurd m (by simp)⟩
 | d::ds,_,x,p,z=>by
  obtain ⟨v,vs,rfl,x1,x2⟩:=well_cons x
  have q:plW d=true/\plWs ds=true:=Bool.and_eq_true_iff.mp p
  obtain ⟨A,a1,a2⟩:=area_one d v x1 q.1 (z d (List.mem_cons_self ..))
  obtain ⟨B,b1,b2⟩:=area_all ds vs x2 q.2 fun e he=>z e (List.mem_cons_of_mem _ he)
  have kA:∀ b∈A,b∈A++B:=fun b hb=>List.mem_append.mpr (.inl hb)
  have kB:∀ b∈B,b∈A++B:=fun b hb=>List.mem_append.mpr (.inr hb)
  refine ⟨A++B,fun u hu=>?_,fun b hb=>?_⟩
  · rcases List.mem_cons.mp hu with e|m
    · rw [e]
      exact a1.mono kA
    · exact (b1 u m).mono kB
  · rcases List.mem_append.mp hb with m|m
    · exact (a2 b m).mono kA
    · exact (b2 b m).mono kB
end
end
def hoOf (o:Obj):Option HO:=match o.data with
 | .seq vs _=>if (o.cls==Value.type "list")=true then some (.frz o (.lst (vs.toList.map toV))) else some (.frz o (.tup (vs.toList.map toV)))
 | _=>none
def argH (K:PySem.W.Frag)(h:Heap)(A:List Addr):Hp:=fun b=>if b∈A then (if (K.lookup b).isNone=true then (h.get? b).bind hoOf else none) else none
def OnlyF (H:Hp):Prop:=∀ b,H b=none∨∃ o u,H b=some (.frz o u)
theorem hoOf_lst (vs:List Value):hoOf { cls:=.type "list",data:=.seq vs.toArray }=some (.frz { cls:=.type "list",data:=.seq vs.toArray } (.lst (vs.map toV))):=by
 show (if (Value.type "list"==Value.type "list")=true then some (HO.frz { cls:=.type "list",data:=.seq vs.toArray } (.lst (vs.toArray.toList.map toV))) else some (HO.frz { cls:=.type "list",data:=.seq vs.toArray } (.tup (vs.toArray.toList.map toV))))=_
 rw [if_pos (beq_self_eq_true _)]
theorem hoOf_tup (vs:List Value):hoOf { cls:=.type "tuple",data:=.seq vs.toArray }=some (.frz { cls:=.type "tuple",data:=.seq vs.toArray } (.tup (vs.map toV))):=by
 show (if (Value.type "tuple"==Value.type "list")=true then some (HO.frz { cls:=.type "tuple",data:=.seq vs.toArray } (.lst (vs.toArray.toList.map toV))) else some (HO.frz { cls:=.type "tuple",data:=.seq vs.toArray } (.tup (vs.toArray.toList.map toV))))=_
 rw [if_neg (by decide)]
section
variable {P:Program}{w:World}{K:PySem.W.Frag}{h:Heap}{A:List Addr}
theorem argH_at {b:Addr} {o:Obj} (hb:b∈A) (hk:K.lookup b=none) (e:h.get? b=some o):argH K h A b=hoOf o:=by
 unfold argH
 rw [if_pos hb,hk,if_pos (show (none:Option Obj).isNone=true from rfl),e] <;> rfl
theorem of_argH {b:Addr}{u:HO}(q:argH K h A b=some u):b∈A/\K.lookup b=none:=by
 unfold argH at q
 by_cases hb:b∈A
 · rw [if_pos hb] at q
   cases hk:K.lookup b with
   | none=>exact ⟨hb,rfl⟩
   | some o =>
    rw [hk,if_neg (by simp)] at q
    cases q
 · rw [if_neg hb] at q
   cases q
theorem argH_is (ar:∀ a∈A,ArgOb h A a){b:Addr}{u:HO}(q:argH K h A b=some u):K.lookup b=none/\∃ vs:List Value,vs.length<=sizeLine/\(∀ u∈vs,OkU A u) /\
  ((h.get? b=some { cls:=.type "list",data:=.seq vs.toArray }/\u=.frz { cls:=.type "list",data:=.seq vs.toArray } (.lst (vs.map toV))) ∨
   (h.get? b=some { cls:=.type "tuple",data:=.seq vs.toArray }/\u=.frz { cls:=.type "tuple",data:=.seq vs.toArray } (.tup (vs.map toV)))):=by
 obtain ⟨hb,hk⟩:=of_argH q
 obtain ⟨vs,h1,h2,h3⟩:=ar b hb
 refine ⟨hk,vs,h1,h2,?_⟩
 rcases h3 with e|e
 · rw [argH_at hb hk e,hoOf_lst] at q
   exact .inl ⟨e,(Option.some.inj q).symm⟩
 · rw [argH_at hb hk e,hoOf_tup] at q
   exact .inr ⟨e,(Option.some.inj q).symm⟩
theorem argH_only (ar:∀ a∈A,ArgOb h A a):OnlyF (argH K h A):=fun b=>by
 cases q:argH K h A b with
 | none=>exact .inl rfl
 | some u =>
  obtain ⟨_,vs,_,_,⟨_,e⟩|⟨_,e⟩⟩:=argH_is ar q
  · exact .inr ⟨_,_,by rw [e]⟩
  · exact .inr ⟨_,_,by rw [e]⟩
theorem argH_ok (ar:∀ a∈A,ArgOb h A a):HOk P w (argH K h A) h:=fun b u q=>by
 obtain ⟨_,vs,h1,h2,⟨e,rfl⟩|⟨e,rfl⟩⟩:=argH_is ar q
 · exact ⟨e,by rw [List.length_map];exact h1,vs,_,vals_toV h2,e⟩
 · exact ⟨e,by rw [List.length_map];exact h1,vs,vals_toV h2,_,e,rfl,_,rfl⟩
theorem seq_inj {c c':Value}{vs us:List Value}(e:(some { cls:=c,data:=.seq vs.toArray }:Option Obj)=some { cls:=c',data:=.seq us.toArray }):c=c'/\vs=us:=by
 have e1:=Option.some.inj e
 have e2:c=c':=congrArg Obj.cls e1
 have e3:Data.seq vs.toArray=Data.seq us.toArray:=congrArg Obj.data e1
 injection e3 with e4
 refine ⟨e2,?_⟩
 have e5:=congrArg Array.toList e4
 simpa using e5
theorem argL (KX:K.In h)(ar:∀ a∈A,ArgOb h A a){a:Addr}{vs:List Value}(ha:a∈A)(e:h.get? a=some { cls:=.type "list",data:=.seq vs.toArray }):(∀ u∈vs,OkU A u)/\SqL K (argH K h A) a (vs.map toV):=by
 obtain ⟨us,h1,h2,h3⟩:=ar a ha
 have hu:us=vs:=by
  rcases h3 with q|q
  · rw [e] at q
    exact (seq_inj q).2.symm
  · rw [e] at q
    exact absurd (Value.type.inj (seq_inj q).1) (by decide)
 subst hu
 refine ⟨h2,?_⟩
 cases hk:K.lookup a with
 | none=>exact .inl (.inr ⟨_,by rw [argH_at ha hk e,hoOf_lst]⟩)
 | some o =>
  have e2:=KX a o hk
  rw [e] at e2
  obtain rfl:=Option.some.inj e2
  exact .inr ⟨_,us.toArray,_,hk,rfl,rfl,rfl,by rw [List.size_toArray];exact h1,by simpa using vals_toV h2⟩
theorem argT (KX:K.In h)(ar:∀ a∈A,ArgOb h A a){a:Addr}{vs:List Value}(ha:a∈A)(e:h.get? a=some { cls:=.type "tuple",data:=.seq vs.toArray }):(∀ u∈vs,OkU A u)/\SqT K (argH K h A) a (vs.map toV):=by
 obtain ⟨us,h1,h2,h3⟩:=ar a ha
 have hu:us=vs:=by
  rcases h3 with q|q
  · rw [e] at q
    exact absurd (Value.type.inj (seq_inj q).1) (by decide)
  · rw [e] at q
    exact (seq_inj q).2.symm
 subst hu
 refine ⟨h2,?_⟩
 cases hk:K.lookup a with
 | none=>exact .inl (.inr ⟨_,by rw [argH_at ha hk e,hoOf_tup]⟩)
 | some o =>
  have e2:=KX a o hk
  rw [e] at e2
  obtain rfl:=Option.some.inj e2
  exact .inr ⟨_,us.toArray,_,hk,rfl,rfl,by rw [List.size_toArray];exact h1,by simpa using vals_toV h2⟩
mutual
theorem dw_one {Pm:Params}(KX:K.In h)(ar:∀ a∈A,ArgOb h A a):∀ (d:WData) (v:Value),Well Pm h v d->plW d=true->OkU A v->Dw K (argH K h A) (toV v) d
 | .none,_,x,_,_=>by
  cases x
  exact .non
 | .bool b,_,x,_,_=>by
  cases x
  exact .bl b
 | .int i,_,x,_,_=>by
  cases x
  exact .int i
 | .str s,_,x,_,_=>by
  cases x
  exact .str s
 | .bytes b,_,x,_,_=>by
  cases x
  have z:=Dw.byt (K:=K) (H:=argH K h A) b.toArray
  exact z
 | .list ds,_,x,p,hu=>by
  obtain ⟨a,vs,rfl,ho,hall⟩:=well_list x
  obtain ⟨h2,hs⟩:=argL KX ar hu ho
  exact .lst hs (dw_all KX ar ds _ hall p h2)
 | .tuple ds,_,x,p,hu=>by
  obtain ⟨a,vs,rfl,ho,hall⟩:=well_tuple x
  obtain ⟨h2,hs⟩:=argT KX ar hu ho
  exact .tup hs (dw_all KX ar ds _ hall p h2)
 | .float _,_,_,p,_=>Bool.noConfusion (show false=true from p)
 | .dict _,_,_,p,_=>Bool.noConfusion (show false=true from p)
 | .bytearray _,_,_,p,_=>Bool.noConfusion (show false=true from p)
 | .set _,_,_,p,_=>Bool.noConfusion (show false=true from p)
 | .frozenset _,_,_,p,_=>Bool.noConfusion (show false=true from p)
 | .obj _ _,_,_,p,_=>Bool.noConfusion (show false=true from p)
theorem dw_all {Pm:Params}(KX:K.In h)(ar:∀ a∈A,ArgOb h A a):∀ (ds:List WData) (vs:List Value),WellAll Pm h vs ds->plWs ds=true->(∀ u∈vs,OkU A u)->DwAll K (argH K h A) (vs.map toV) ds
 | [],_,x,_,_=>by
  cases x
  exact .nil
 | d::ds,_,x,p,hu=>by
  obtain ⟨v,vs,rfl,x1,x2⟩:=well_cons x
  have q:plW d=true/\plWs ds=true:=Bool.and_eq_true_iff.mp p
  exact .cons (dw_one KX ar d v x1 q.1 (hu _ (List.mem_cons_self ..))) (dw_all KX ar ds vs x2 q.2 fun u m=>hu u (List.mem_cons_of_mem _ m))
end
end
theorem spec_call {P:Program}{w:World}{K:PySem.W.Frag}{mg mb:Str->Option Value}{CX:CXT}{k:Nat}{fa:Addr}{fd:FuncData}{ps:List Str}{sp:Sp}{s₁:Shared}{vals:List Value}{ds:List WData}{R:PySem.W.WRecords}{cl:Str->Option Addr}{d0:WData}
  (KX:K.In s₁.heap)(hns:s₁.heap.Ns mainGlobals mg)(hb:s₁.heap.Ns builtinsNs mb)(hbb:∀ x:Str,x≠"__name__"->mb x=bootBuiltins x)(hlim:s₁.heap.NoLimit)(hg:s₁.gens=#[])
  (hwl:WellAll w.params s₁.heap vals ds)(hpl:plWs ds=true)(hwt:∀ d∈ds,d.weight<=1048576)(hr:Room k callerA)
  (F:∀ base:Heap,K.In base->base.Ns mainGlobals mg->FnOk P w K mg base CX k fa fd ps sp)(hbind:∀ (s:Shared) (us:List Value),us.length=ps.length->BindsTo s fd ⟨us,[]⟩ (ps.zip us))(hlen:ds.length=ps.length)
  (hsp:∀ (H:Hp) (xs:List V),OnlyF H->DwAll K H xs ds->sp xs H (fun v H'=>Dw K H' v d0) fun _ _ _=>False)
  (hCX:∀ H e s',CX [] H s₁ (fun _ _ _=>False) e s'->False) :
  codeAny (model P w) callerA (.call (.ref fa) ⟨vals,[]⟩) (fun r s'=>∃ u as,r=.ok (.ret u)/\ReadsW R cl s'.heap u d0 as/\OldK s₁.heap s'.heap/\s'.os=s₁.os/\AllBare s'.gens) s₁:=by
 obtain ⟨A,ho,ar⟩:=area_all ds vals hwl hpl hwt
 have hO:OnlyF (argH K s₁.heap A):=argH_only ar
 have hok:HOk P w (argH K s₁.heap A) s₁.heap:=argH_ok ar
 have hS:=dw_all KX ar ds vals hwl hpl ho
 have hV:=vals_toV ho
 have hK:∀ b u,argH K s₁.heap A b=some u->K.lookup b=none:=fun b u q=>(argH_is ar q).1
 have noA:∀ {b:Addr} {o:Obj} {es:Array DictEntry} {ep:Nat},s₁.heap.get? b=some o->o.data=.dict es ep->argH K s₁.heap A b=none:=fun {b o es ep} e d=>by
  cases q:argH K s₁.heap A b with
  | none=>rfl
  | some u =>
   obtain ⟨_,vs,_,_,⟨e2,_⟩|⟨e2,_⟩⟩:=argH_is ar q
   · rw [e2] at e
     cases e
     have d':Data.seq vs.toArray _=Data.dict es ep:=d
     cases d'
   · rw [e2] at e
     cases e
     have d':Data.seq vs.toArray _=Data.dict es ep:=d
     cases d'
 generalize argH K s₁.heap A=H at hO hok hS hK noA
 have base_of:∀ {b:Addr} {o:Obj},s₁.heap.get? b=some o->H b=none->(hidT s₁.heap H).get? b=some o:=fun e n=>hidT_get e n
 have nsK:∀ {b:Addr} {m:Str->Option Value},s₁.heap.Ns b m->(hidT s₁.heap H).Ns b m:=fun {b m} ⟨o,es,ep,e,d,r⟩=>⟨o,es,ep,base_of e (noA e d),d,r⟩
 have nK:∀ b o,K.lookup b=some o->H b=none:=fun b o e=>by
  cases q:H b with
  | none=>rfl
  | some u =>
   rw [hK b u q] at e
   cases e
 have hKb:K.In (hidT s₁.heap H):=fun b o e=>base_of (KX b o e) (nK b o e)
 have hM:Mod K mg (hidT s₁.heap H):=⟨hKb,nsK hns,⟨mb,nsK hb,hbb⟩,let ⟨mc,h1,h2⟩:=hlim;⟨mc,nsK h1,h2⟩⟩
 have e0:Env0 P w K mg (hidT s₁.heap H) callerA [] s₁ H:=⟨rfl,hM,fun b o e=>of_hidT e,Nat.le_of_eq (hidT_size _ _),trivial,fun b hb=>absurd (show b∈([]:List Addr) from hb) (by simp),hok,.of_eq hg⟩
 have hl:vals.length=ps.length:=by rw [wellAll_len hwl];exact hlen
 refine codeAny_mono ((F _ hKb (nsK hns)).run callerA [] s₁ H ⟨vals,[]⟩ vals (vals.map toV) _ _ hr e0 (hbind s₁ vals hl) hV (hsp H _ hO hS)) fun r s' x=>?_
 cases r with
 | error e=>exact (hCX H e s' x).elim
 | ok fl =>
  cases fl with
  | next=>exact False.elim x
  | brk=>exact False.elim x
  | cont=>exact False.elim x
  | ret u =>
   obtain ⟨v,H',os,bare,un,hok',r',q⟩:=x
   have kept:∀ b o,s₁.heap.get? b=some o->s'.heap.get? b=some o:=fun b o e=>by
    cases q2:H b with
    | none=>exact un.keep b o e q2 (by intro z;exact absurd (show b∈([]:List Addr) from z) (by simp)) (by simp)
    | some u2 =>
     rcases hO b with z|⟨ob,u3,z⟩
     · rw [q2] at z
       cases z
     · have z2:=un.frzs b ob _ z
       obtain ⟨e1,_⟩:=hok b _ z
       obtain ⟨e2,_⟩:=hok' b _ z2
       rw [e] at e1
       cases e1
       exact e2
   have KX':K.In s'.heap:=fun b o e=>kept b o (KX b o e)
   obtain ⟨as,hrd⟩:=Dw.reads (R:=R) (cl:=cl) hok' KX' d0 v u q r'
   exact ⟨u,as,rfl,hrd,OldK.of_keep kept,os,bare⟩
theorem layable_weight {ds:List WData}(h:WData.layableAll ds=true):∀ d∈ds,d.weight<=1048576:=fun d hd =>
 (PySem.W.layableW_iff.mp (List.all_eq_true.mp h d hd)).2.2
theorem encAll_len:∀ (cs:List Codec) (a:Codec.denoteAll cs),(Codec.encAll cs a).length=cs.length
 | [],_=>rfl
 | c::cs,a=>by
  show (Codec.encAll cs a.2).length+1=cs.length+1
  rw [encAll_len cs a.2]
theorem walk_spec {r:OpenSpec}{k:Nat}{q:Program}{loose:List Str}{XP:(Str->Option Value)->Heap->Prop}{YP:World->Heap->Prop}{d:DefRec}{K:Params->PySem.W.Frag}{CX:World->CXT}{ps:List Str}{sp:World->Sp}
  (hwell:r.wellSaid=true)(hdf:d.params.defaults=[])(hlen:r.args.length=ps.length)(hr:Room k callerA)
  (hY:∀ (w:World) (h:Heap),YP w h->(K w.params).In h)
  (F:∀ (w:World) (mg:Str->Option Value) (fa:Addr) (h:Heap),YP w h->(K w.params).In h->h.Ns mainGlobals mg->mg d.name=some (.ref fa) ->
   ∃ fd:FuncData,(∀ (s:Shared) (us:List Value),us.length=ps.length->BindsTo s fd ⟨us,[]⟩ (ps.zip us)) /\
    ∀ base:Heap,(K w.params).In base->base.Ns mainGlobals mg->FnOk r.prog w (K w.params) mg base (CX w) k fa fd ps (sp w))
  (hsp:∀ (w:World) (H:Hp) (xs:List V) (a:Codec.denoteAll r.args),OnlyF H->Codec.withinAll r.args a=true->Codec.app r.args r.asked a=true->DwAll (K w.params) H xs (Codec.encAll r.args a) ->
   sp w xs H (fun v H'=>Dw (K w.params) H' v (r.ret.enc (Codec.app r.args r.f a))) fun _ _ _=>False)
  (hCX:∀ (w:World) (H:Hp) (s:Shared) (e:Value) (s':Shared),CX w [] H s (fun _ _ _=>False) e s'->False) :
  PySem.W.WalkOS q loose XP YP r d [] (fun f vs=>PySem.call f vs):=by
 intro w s_0 s₁ mg mb G Y fa o pm cd doc dV kV ho hd hcd hD hmg hg args vals as hpre hlay hrd hwl hlo
 obtain ⟨a,e1,e2⟩:=PySem.W.os_pre_some hpre
 obtain ⟨e3,hwi⟩:=Codec.encAll_of_decAll r.args args a e1
 subst e3
 have KX:=hY w _ Y
 obtain ⟨fd,hb,hF⟩:=F w mg fa _ Y KX G.T.g hmg
 refine PySem.W.enter_call (codeAny_mono (spec_call (R:=[]) (cl:=classAt s_0.heap) (d0:=r.ret.enc (Codec.app r.args r.f a)) KX G.T.g G.T.b G.T.builtins G.T.nolimit hg hwl (pl_encAll _ _) (layable_weight hlay) hr hF hb (by rw [encAll_len];exact hlen)
  (fun H xs hO hS=>hsp w H xs a hO hwi e2 hS) fun H e s'=>hCX w H s₁ e s') fun r' s' hq=>?_)
 obtain ⟨u,as',rfl,h1,h2,h3,h4⟩:=hq
 exact ⟨.inl ⟨u,_,as',rfl,fun _=>rfl,h1,(OpenSpec.post_iff hwell hwi _ _).mpr rfl,fun z=>Bool.noConfusion (show false=true from z)⟩,h2,h3,h4⟩
theorem walk_specK {r:OpenSpec}{k:Nat}{q:Program}{loose:List Str}{XP:(Str->Option Value)->Heap->Prop}{YP:World->Heap->Prop}{d:DefRec}{K:Params->PySem.W.Frag}{CX:CXT}{ps:List Str}{sp:PySem.W.Frag->Sp}
  (hwell:r.wellSaid=true)(hdf:d.params.defaults=[])(hlen:r.args.length=ps.length)(hr:Room k callerA)
  (hY:∀ (w:World) (h:Heap),YP w h->(K w.params).In h)
  (F:∀ (w:World) (mg:Str->Option Value) (fa:Addr) (h:Heap),YP w h->(K w.params).In h->h.Ns mainGlobals mg->mg d.name=some (.ref fa) ->
   ∃ fd:FuncData,(∀ (s:Shared) (us:List Value),us.length=ps.length->BindsTo s fd ⟨us,[]⟩ (ps.zip us)) /\
    ∀ base:Heap,(K w.params).In base->base.Ns mainGlobals mg->FnOk r.prog w (K w.params) mg base CX k fa fd ps (sp (K w.params)))
  (hsp:∀ (K:PySem.W.Frag) (H:Hp) (xs:List V) (a:Codec.denoteAll r.args),OnlyF H->Codec.withinAll r.args a=true->Codec.app r.args r.asked a=true->DwAll K H xs (Codec.encAll r.args a) ->
   sp K xs H (fun v H'=>Dw K H' v (r.ret.enc (Codec.app r.args r.f a))) fun _ _ _=>False)
  (hCX:∀ (H:Hp) (s:Shared) (e:Value) (s':Shared),CX [] H s (fun _ _ _=>False) e s'->False) :
  PySem.W.WalkOS q loose XP YP r d [] (fun f vs=>PySem.call f vs) :=
 walk_spec (K:=K) (CX:=fun _=>CX) (sp:=fun w=>sp (K w.params)) hwell hdf hlen hr hY F (fun w H xs a h1 h2 h3 h4=>hsp (K w.params) H xs a h1 h2 h3 h4) fun _ H s e s'=>hCX H s e s'
end L2
end
namespace L2
open PySem PySem.Spec PyProof.Rows
abbrev CX0:CXT:=fun _ _ _ _ _ _=>False
abbrev E0:XK:=fun _ _ _=>False
theorem pass0 {X:Cx}:Passes CX0 X E0:=fun _ _ _ _ _ _ _ h=>h.elim
structure Fun (K:PySem.W.Frag)(x qual:Str)(st:Stmt)(f:Addr)(fd:FuncData):Prop where
 ex:∃ (oc:Value) (od:Option Addr) (kV doc pm:Value) (an:Option Addr) (cdv ct:Value) (osl:Array (Option Value)),
  fd=PySem.W.fnOf x qual (defArgs st) (defBody st) (defScope st) .none kV doc pm an cdv ct/\K.lookup f=some ⟨oc,od,.func fd,osl⟩/\PySem.W.codeIn K cdv qual=true
 kp:PySem.W.keepIn K (.ref f)=true
section
variable {P:Program}{w:World}{K:PySem.W.Frag}{mg:Str->Option Value}{base:Heap}
theorem Fun.ok {x qual:Str} {st:Stmt} {f:Addr} {fd:FuncData} {N ps:List Str} {k:Nat} {sp:Sp} (F:Fun K x qual st f fd) (S:FnScope N ps (defScope st)) (len:∀ vs H Q E,sp vs H Q E->vs.length=ps.length)
  (hbody:∀ (cdv:Value) (A:Around) (outer:List Env) (s:Shared) (H:Hp) (vs:List V) (Q:VK) (E:XK),Room k (A.deeper (envOfC qual (defScope st) s.heap.objs.size f cdv))->sp vs H Q E ->
   ∃ t,PSs (cxOf CX0 P w K mg base N qual (defScope st) f cdv A outer s H E).nox (defBody st) t/\t { nx:=fun _ H'=>Q .non H',rt:=Q } (start N vs) H):FnOk P w K mg base CX0 (k+1) f fd ps sp:=by
 obtain ⟨oc,od,kV,doc,pm,an,cdv,ct,osl,rfl,lk,hcd⟩:=F.ex
 refine fn_of lk hcd S len fun A outer s H vs Q E hr hsp=>?_
 obtain ⟨t,h,q⟩:=hbody cdv A outer s H vs Q E hr hsp
 exact ⟨t,h.nox,q⟩
theorem Fun.binds {x qual:Str}{st:Stmt}{f:Addr}{fd:FuncData}{ps:List Str}(F:Fun K x qual st f fd)
  (h:∀ (kV doc pm:Value) (an:Option Addr) (cdv ct:Value) (us:List Value),us.length=ps.length->bindArgs (PySem.W.fnOf x qual (defArgs st) (defBody st) (defScope st) .none kV doc pm an cdv ct) ⟨us,[]⟩=pure (ps.zip us)):Binds K fd ps []:=by
 obtain ⟨oc,od,kV,doc,pm,an,cdv,ct,osl,rfl,lk,hcd⟩:=F.ex
 exact .all (h kV doc pm an cdv ct)
theorem fun_mk {x qual:Str}{st:Stmt}{f:Addr}{oc:Value}{od an:Option Addr}{osl:Array (Option Value)}{kV doc pm cdv ct:Value}(l:K.lookup f=some ⟨oc,od,.func (PySem.W.fnOf x qual (defArgs st) (defBody st) (defScope st) .none kV doc pm an cdv ct),osl⟩)
  (c:PySem.W.codeIn K cdv qual=true)(k:PySem.W.keepIn K (.ref f)=true):Fun K x qual st f (PySem.W.fnOf x qual (defArgs st) (defBody st) (defScope st) .none kV doc pm an cdv ct):=⟨⟨oc,od,kV,doc,pm,an,cdv,ct,osl,rfl,l,c⟩,k⟩
end
theorem hu_of {A:Around}{k:Nat}(hr:Room k A):A.units+1 < cLine:=Nat.lt_of_le_of_lt (Nat.add_le_add_left (by decide:1<=64) _) hr.units
section
variable {X:Cx}
theorem pv (i:Nat) {x:Str} {pos:Pos} (hN:X.N[i]?=some x:=by rfl) (hv:Vis X.env.scope x:=by first|exact Or.inl rfl|exact Or.inr (Or.inl rfl)|exact Or.inr (Or.inr rfl)) (hd:(x==("__debug__":Str))=false:=by decide)
  (hcd:(x==("__classdict__":Str))=false:=by decide):PE X (.Name x pos) (tVar i):=pe_var hN hv hd hcd
end
theorem iteF {A B:Prop}(h:B):if false=true then A else B:=by
 rw [if_neg Bool.false_ne_true]
 exact h
theorem iteT {A B:Prop}(h:A):if true=true then A else B:=by
 rw [if_pos rfl]
 exact h
theorem ite2 {c A B:Prop} [Decidable c] (h1:c->A)(h2:¬ c->B):if c then A else B:=by
 by_cases h:c
 · rw [if_pos h]
   exact h1 h
 · rw [if_neg h]
   exact h2 h
def Same (H H':Hp):Prop:=∀ b o,H b=some o->H' b=some o
theorem Same.refl (H:Hp):Same H H:=fun _ _ h=>h
theorem Same.trans {H H1 H2:Hp}(a:Same H H1)(b:Same H1 H2):Same H H2:=fun c o h=>b c o (a c o h)
theorem Same.free {H H':Hp}(e:Same H H'){l:Addr}(h:H' l=Option.none):H l=Option.none:=by
 cases q:H l with
 | none=>rfl
 | some o =>
  rw [e l o q] at h
  cases h
theorem Same.seq {K:PySem.W.Frag}{H H':Hp}{a:Addr}{xs:List V}(e:Same H H')(h:SqL K H a xs):SqL K H' a xs:=by
 rcases h with (h|⟨o,h⟩)|h
 · exact .inl (.inl (e _ _ h))
 · exact .inl (.inr ⟨o,e _ _ h⟩)
 · exact .inr h
section
variable {κ:Type} [DecidableEq κ]
end
end L2
end
set_option autoImplicit false
set_option linter.all false
set_option maxRecDepth 100000
set_option maxHeartbeats 2000000
namespace BwX
open PySem PySem.Calls PySem.Spec PyProof.Rows
structure Nt (fs ch:List Addr)(h g:Heap):Prop where
 keep:∀ b o,h.get? b=some o->b∉fs->b∉ch->g.get? b=some o
 slot:∀ b o,h.get? b=some o->b∉ch->∃ sl,g.get? b=some { o with slots:=sl }
section
variable {fs ch fs' ch':List Addr}{h g k:Heap}
theorem Nt.refl (fs ch:List Addr) (h:Heap):Nt fs ch h h:=⟨fun _ _ e _ _=>e,fun _ o e _=>⟨o.slots,e⟩⟩
theorem Nt.trans (a:Nt fs ch h g)(b:Nt fs ch g k):Nt fs ch h k where
 keep:=fun c o e hf hc=>b.keep c o (a.keep c o e hf hc) hf hc
 slot:=fun c o e hc=>by
  obtain ⟨_,e1⟩:=a.slot c o e hc
  obtain ⟨sl,e2⟩:=b.slot c _ e1 hc
  exact ⟨sl,e2⟩
theorem Nt.mono (a:Nt fs ch h g)(hf:∀ b∈fs,b∈fs')(hc:∀ b∈ch,b∈ch'):Nt fs' ch' h g :=
 ⟨fun b o e n m=>a.keep b o e (fun z=>n (hf b z)) fun z=>m (hc b z),fun b o e m=>a.slot b o e fun z=>m (hc b z)⟩
theorem Nt.push (o:Obj):Nt fs ch h (h.push o):=⟨fun _ _ e _ _=>Heap.get?_push_of_some o e,fun _ u e _=>⟨u.slots,Heap.get?_push_of_some o e⟩⟩
theorem Nt.upd {a:Addr}{f:Obj->Obj}(ha:a∈ch):Nt fs ch h (h.update a f):=by
 have stay:∀ b,b∉ch->(h.update a f).get? b=h.get? b:=fun b m=>Heap.get?_update_other _ _ fun z=>m (z ▸ ha)
 exact ⟨fun b o e _ m=>(stay b m).trans e,fun b o e m=>⟨o.slots,(stay b m).trans e⟩⟩
theorem Nt.slots (so:Heap.SlotsOnly fs h g):Nt fs ch h g:=⟨fun b o e n _=>(so.2.1 b n).trans e,fun b o e _=>so.2.2 b o e⟩
end
def Rec (h:Heap)(a:Addr)(k:Value)(d:Option Addr)(vs:Array Value):Prop:=∃ o,h.get? a=some o/\(o.cls=k/\o.dict=d)/\o.data=.fields vs
section
variable {M:Model}{A:Around}{E:Value->Shared->Prop}{s:Shared}{h g:Heap}{a:Addr}{k x:Value}{d:Option Addr}{vs:Array Value}{i:Nat}
theorem Rec.put (r:Rec h a k d vs):Rec (h.update a (Obj.mapFields (·.setIfInBounds i x))) a k d (vs.setIfInBounds i x):=by
 obtain ⟨⟨oc,od,dt,sl⟩,e,c,dd⟩:=r
 cases dd
 exact ⟨_,Heap.get?_update_self _ e rfl,c,rfl⟩
theorem Rec.over {fs ch:List Addr}(r:Rec h a k d vs)(N:Nt fs ch h g)(m:a∉ch):Rec g a k d vs:=by
 obtain ⟨o,e,c,dd⟩:=r
 obtain ⟨sl,e'⟩:=N.slot a o e m
 exact ⟨_,e',c,dd⟩
theorem Rec.read {Q:Value->Shared->Prop}(r:Rec s.heap a k d vs)(hi:vs[i]?=some x)(q:Q x s):wpAny M A (field (.ref a) i) Q E s:=by
 obtain ⟨o,e,_,dd⟩:=r
 exact wpAny_field e dd hi q
theorem Rec.write {Q:Unit->Shared->Prop}(r:Rec s.heap a k d vs)(hi:i < vs.size)(q:Q () { s with heap:=s.heap.update a (Obj.mapFields (·.setIfInBounds i x)) }):wpAny M A (setField (.ref a) i x) Q E s:=by
 obtain ⟨o,e,_,dd⟩:=r
 exact wpAny_setField e dd hi q
end
def Fly1 (h0 h:Heap)(e:Addr)(k:Value)(dx:Addr)(p:Option (Addr×Value)):Prop :=
 ∃ vs,(Rec h e k (some dx) vs/\h0.get? e=none) /\
  match p with
  | none=>vs[1]?=some .none
  | some (T,fl)=>vs[1]?=some (.ref T)/\T≠e/\h0.get? T=none/\∃ c d ts,Rec h T c d ts/\ts[3]?=some fl
def recs (e:Addr)(p:Option (Addr×Value)):List Addr:=e::p.toList.map (·.1)
section
variable {h0 h1 h:Heap}{e dx:Addr}{k:Value}{p:Option (Addr×Value)}
theorem Fly1.recs_at (F:Fly1 h0 h e k dx p):∀ b∈recs e p,h0.get? b=none/\∃ c d vs,Rec h b c d vs:=by
 obtain ⟨vs,⟨r,n⟩,q⟩:=F
 intro b hb
 cases p with
 | none =>
  obtain rfl:b=e:=by simpa [recs] using hb
  exact ⟨n,_,_,_,r⟩
 | some p =>
  obtain ⟨_,_,nT,c,d,ts,rT,_⟩:=q
  have hb:b=e∨b=p.1:=by simpa [recs] using hb
  rcases hb with rfl|rfl
  · exact ⟨n,_,_,_,r⟩
  · exact ⟨nT,c,d,ts,rT⟩
theorem Fly1.low (F:Fly1 h0 h e k dx p)(hm:∀ b,h0.get? b=none->h1.get? b=none):Fly1 h1 h e k dx p:=by
 obtain ⟨vs,⟨r,n⟩,q⟩:=F
 cases p with
 | none=>exact ⟨vs,⟨r,hm _ n⟩,q⟩
 | some p =>
  obtain ⟨q1,q2,q3,q4⟩:=q
  exact ⟨vs,⟨r,hm _ n⟩,q1,q2,hm _ q3,q4⟩
end
section
variable {M:Model}{A:Around}{E:Value->Shared->Prop}{s:Shared}{base:Heap}{env:Env}{outer:List Env}{L e dx:Addr}{k:Value}{h0:Heap}
theorem entry {vs:Array Value} {hd0:Value} {nx:Bool} {Q:Unit->Shared->Prop} (fr:A.frames=some (env::outer)) (ff:s.heap.FunFrames base (env::outer)) (hf:env.frame=some L) (r:Rec s.heap e k (some dx) vs) (hz:1 < vs.size)
  (fin:∀ g T c d ts,s.heap.objs.size<=T->T≠e->Nt ((env::outer).filterMap (·.frame)) [e] s.heap g->Rec g e k (some dx) (vs.setIfInBounds 1 (.ref T))->Rec g T c d ts->ts[3]?=some (rawInt L)->Q () { s with heap:=g }) :
  wpAny M A (frameOf env >>= fun a=>entryPlaceOf L nx >>= fun pl=>EntryCells.newEntry hd0 a .none (rawInt L) .none pl >>= fun b=>setField (.ref e) 1 b) Q E s:=by
 refine wpAny_bind (wpAny_frameOf_fun fr ff hf fun g so=>wpAny_bind (wpAny_entryPlaceOf fun pl ip=>wpAny_bind ?_))
 simp only [EntryCells.newEntry,newFields]
 refine wpAny_newObj_type ?_ (ip.sizeOk5 _ _ _ _ _)
 have h3:(([hd0,Value.ref L,Value.none,rawInt L,Value.none]++(if pl.isEmpty then List.replicate 6 Value.none else pl)).toArray)[3]?=some (rawInt L):=by simp
 generalize ([hd0,Value.ref L,Value.none,rawInt L,Value.none]++(if pl.isEmpty then List.replicate 6 Value.none else pl)).toArray=ts at h3
 have r2:Rec (g.push { cls:=.type "traceback",dict:=none,data:=.fields ts }) e k (some dx) vs:=r.over ((Nt.slots so).trans (Nt.push _):Nt _ [] _ _) (by simp)
 have ne:g.objs.size≠e:=by
  obtain ⟨o,eo,_⟩:=r.over (Nt.slots so:Nt _ [] _ _) (by simp)
  exact Nat.ne_of_gt (Heap.lt_size eo)
 have rT:Rec (g.push { cls:=.type "traceback",dict:=none,data:=.fields ts }) g.objs.size (.type "traceback") none ts:=⟨_,Heap.get?_push_size g rfl,⟨rfl,rfl⟩,rfl⟩
 have up:Nt ((env::outer).filterMap (·.frame)) [e] (g.push { cls:=.type "traceback",dict:=none,data:=.fields ts }) _:=Nt.upd (f:=Obj.mapFields (·.setIfInBounds 1 (Value.ref g.objs.size))) (List.mem_singleton.mpr rfl)
 exact Rec.write (s:={ s with heap:=g.push { cls:=.type "traceback",dict:=none,data:=.fields ts } }) r2 hz
  (fin _ g.objs.size _ _ ts (Nat.le_of_eq so.1.symm) ne (((Nt.slots so).trans (Nt.push _)).trans up) r2.put (rT.over up fun z=>ne (List.mem_singleton.mp z)) h3)
theorem lt_of_get {vs:Array Value}{i:Nat}{x:Value}(h:vs[i]?=some x):i < vs.size:=(Array.getElem?_eq_some_iff.mp h).1
theorem note_frame {p:Option (Addr×Value)}{Q:Unit->Shared->Prop}(fr:A.frames=some (env::outer))(ff:s.heap.FunFrames base (env::outer))(hf:env.frame=some L)(F:Fly1 h0 s.heap e k dx p)(hst:∀ b,s.heap.get? b=none->h0.get? b=none)
  (hp:∀ T fl,p=some (T,fl)->fl=.none∨fl=rawInt L)
  (fin:∀ g T,Fly1 h0 g e k dx (some (T,rawInt L))->(T∈recs e p∨s.heap.objs.size<=T)->Nt ((env::outer).filterMap (·.frame)) (recs e p) s.heap g->Q () { s with heap:=g }):wpAny M A (noteFrame (.ref e) env) Q E s:=by
 obtain ⟨vs,⟨r,n⟩,q⟩:=F
 have made:∀ (h:Heap),h.objs.size=s.heap.objs.size->∀ g T c d ts,h.objs.size<=T->T≠e->Rec g e k (some dx) (vs.setIfInBounds 1 (.ref T))->Rec g T c d ts->ts[3]?=some (rawInt L)->1 < vs.size->Fly1 h0 g e k dx (some (T,rawInt L)):=fun h hs g T c d ts hT ne r1 rT h3 hz =>
  ⟨_,⟨r1,n⟩,by simp [hz],ne,hst T (Heap.get?_none_of_le (hs ▸ hT)),c,d,ts,rT,h3⟩
 simp only [noteFrame,hf]
 cases p with
 | none =>
  refine wpAny_bind (r.read q ?_)
  exact entry fr ff hf r (lt_of_get q) fun g T c d ts hT ne N r1 rT h3=>fin g T (made _ rfl g T c d ts hT ne r1 rT h3 (lt_of_get q)) (.inr hT) N
 | some p =>
  obtain ⟨T,fl⟩:=p
  obtain ⟨h1,ne,nT,c,d,ts,rT,h3⟩:=q
  refine wpAny_bind (r.read h1 (wpAny_bind (rT.read h3 ?_)))
  rcases hp T fl rfl with rfl|rfl
  · have N1:Nt ((env::outer).filterMap (·.frame)) [T] s.heap _:=Nt.upd (f:=Obj.mapFields (·.setIfInBounds 3 Value.none)) (List.mem_singleton.mpr rfl)
    have r1:=r.over N1 fun z=>ne (List.mem_singleton.mp z).symm
    have hs:(s.heap.update T (Obj.mapFields (·.setIfInBounds 3 Value.none))).objs.size=s.heap.objs.size:=Heap.size_after_update ..
    have f1:(s.heap.update T (Obj.mapFields (·.setIfInBounds 3 Value.none))).FunFrames base (env::outer):=ff.of_keeps fun b o eb nb=>by
     obtain ⟨sl,z⟩:=N1.slot b o eb fun z=>by
      obtain ⟨u,eu,_,du⟩:=rT
      rw [List.mem_singleton.mp z,eu] at eb
      cases eb
      exact nb ts du
     exact ⟨_,z,rfl⟩
    refine wpAny_bind (rT.write (lt_of_get h3) ?_)
    refine entry (s:={ s with heap:=s.heap.update T (Obj.mapFields (·.setIfInBounds 3 Value.none)) }) fr f1 hf r1 (lt_of_get h1) fun g T' c' d' ts' hT ne' N r2 rT' h3'=>?_
    refine fin g T' (made _ hs g T' c' d' ts' hT ne' r2 rT' h3' (lt_of_get h1)) (.inr (Nat.le_trans (Nat.le_of_eq hs.symm) hT)) ?_
    exact (N1.mono (fun _ z=>z) fun b z=>by simp at z;simp [recs,z]).trans (N.mono (fun _ z=>z) fun b z=>by simp at z;simp [recs,z])
  · have same:(rawInt L==rawInt L)=true:=by first|exact beq_self_eq_true _|simp
    rw [if_pos same]
    exact wpAny_pure (fin s.heap T ⟨vs,⟨r,n⟩,h1,ne,nT,c,d,ts,rT,h3⟩ (.inl (by simp [recs])) (Nt.refl _ _ _))
theorem set_flight {T:Addr}{fl:Value}{v:Option Addr}{fs:List Addr}{Q:Unit->Shared->Prop}(F:Fly1 h0 s.heap e k dx (some (T,fl)))
  (fin:∀ g,Fly1 h0 g e k dx (some (T,v.elim .none fun f=>rawInt f))->Nt fs (recs e (some (T,fl))) s.heap g->Q () { s with heap:=g }) :
  wpAny M A (setFlight (.ref e) v) Q E s:=by
 obtain ⟨vs,⟨r,n⟩,h1,ne,nT,c,d,ts,rT,h3⟩:=F
 have N1:Nt fs [T] s.heap _:=Nt.upd (f:=Obj.mapFields (·.setIfInBounds 3 (v.elim Value.none fun f=>rawInt f))) (List.mem_singleton.mpr rfl)
 simp only [setFlight]
 refine wpAny_bind (r.read h1 (rT.write (lt_of_get h3) (fin _ ⟨vs,⟨r.over N1 fun z=>ne (List.mem_singleton.mp z).symm,n⟩,h1,ne,nT,c,d,_,rT.put,by simp [lt_of_get h3]⟩ ?_)))
 exact N1.mono (fun _ z=>z) fun b z=>by simp at z;simp [recs,z]
end
end BwX
namespace BwX
open PySem PySem.Calls PySem.W Builtin Builtin.ObjectAttr
abbrev excBm:List Value:=[.type "Exception",.type "BaseException",.type "object"]
def FaultCls (o:Obj)(C N:Addr):Prop:=∃ nm q bs sn sub ab col dd k0 k1 k2 k3 k5,o=excClassObj nm q C N bs excBm true sn sub ab col dd k0 k1 k2 k3 k5 "Exception.__new__"
section
variable {M:Model}{h:Heap}{a C N:Addr}{oC:Obj}{d:Option Addr}{vs:Array Value}
theorem Rec.type {k:Value} (r:Rec h a k d vs):Looks M h (typeOf (.ref a)) k:=by
 obtain ⟨o,e,⟨c,_⟩,_⟩:=r
 exact c ▸ (Looks.ld e).andThen .now
theorem FaultCls.data (Z:FaultCls oC C N)(e:h.get? C=some oC):∃ cd:ClassData,Looks M h (classData C) cd/\cd.mro=.ref C::excBm/\cd.hasDict=true:=by
 obtain ⟨nm,q,bs,sn,sub,ab,col,dd,k0,k1,k2,k3,k5,rfl⟩:=Z
 exact ⟨_,(Looks.ld (part:=none) e).andThen .now,rfl,rfl⟩
theorem FaultCls.mro (Z:FaultCls oC C N)(e:h.get? C=some oC):Looks M h (mroOf (.ref C)) (.ref C::excBm):=by
 obtain ⟨cd,l,m,_⟩:=Z.data (M:=M) e
 exact l.andThen (m ▸ .now)
theorem FaultCls.sub (Z:FaultCls oC C N)(e:h.get? C=some oC){b:Value}{r:Bool}(hb:(Value.ref C::excBm).contains b=r):Looks M h (isSubtype (.ref C) b) r:=by
 unfold isSubtype
 refine (Z.mro e).andThen ?_
 dsimp only
 rw [hb]
 exact .now
theorem FaultCls.meta (Z:FaultCls oC C N)(e:h.get? C=some oC):Looks M h (typeOf (.ref C)) (.type "type"):=by
 obtain ⟨nm,q,bs,sn,sub,ab,col,dd,k0,k1,k2,k3,k5,rfl⟩:=Z
 exact (Looks.ld e).andThen .now
theorem Rec.noCls {k:Value}(r:Rec h a k d vs):Looks M h (isType (.ref a)) false:=by
 obtain ⟨o,e,_,dt⟩:=r
 refine (Looks.ld e).andThen ?_
 rw [dt]
 exact .now
end
section
variable {M:Model}{A:Around}{E:Value->Shared->Prop}{s:Shared}{env:Env}
theorem raise_made {x:Sem Value} {Q:Flow->Shared->Prop} (hh:A.handled=none)
  (h:wpAny M A x (fun v s1=>∃ e C N oC d vs,v=.ref e/\Rec s1.heap e (.ref C) d vs/\vs[1]?=some .none/\s1.heap.get? C=some oC/\FaultCls oC C N/\E (.ref e) s1) E s) :
  wpAny M A (raiseStmt env (some x) none) Q E s:=by
 refine wpAny_bind (wpAny_mono h (fun v s1 q=>?_) fun _ _ z=>z)
 obtain ⟨e,C,N,oC,d,vs,rfl,r,h1,eC,Z,hE⟩:=q
 obtain ⟨hp,g,dr,tk,os⟩:=s1
 have r:Rec hp e (.ref C) d vs:=r
 have eC:hp.get? C=some oC:=eC
 have l0:=r.type (M:=M)
 have l1:=Z.sub (M:=M) eC (b:=.type "BaseException") (r:=true) (by rw [List.contains_cons];exact Bool.or_eq_true_iff.mpr (.inr (by decide)))
 have l2:=Z.meta (M:=M) eC
 have l3:=r.noCls (M:=M)
 have lE:Looks M hp (isExcClass (.ref e)) false:=l3.andThen .now
 have lI:Looks M hp (isInstance (.ref e) (.type "BaseException")) true:=l0.andThen l1
 have l4:Looks M hp (excFromValue (.ref e) "exceptions must derive from BaseException") (.ref e):=lE.andThen (lI.andThen .now)
 have l5:Looks M hp (raisedInstance (.ref e)) (.ref e):=l0.andThen (l2.andThen .now)
 refine wpAny_bind (wpAny_pure (wpAny_bind (wpAny_holding (l4.at ?_))))
 refine wpAny_bind (l3.at (wpAny_bind (l5.at (wpAny_bind ?_))))
 refine wpAny_bind (r.read (s:=⟨hp,g,dr,tk,os⟩) h1 (wpAny_pure ?_))
 exact wpAny_raiseNew_none hh hE
end
theorem look_ns {o:Obj}{es:Array DictEntry}{ep:Nat}{f:Str}{v:Value}(d:o.data=.dict es ep)(e:nsFind es f=some v):lookIn f o=some (some v):=by
 unfold lookIn
 rw [d]
 unfold nsFind findBy at e
 rw [← Array.find?_toList] at e
 dsimp only
 split
 · rename_i en he
   rw [he] at e
   exact congrArg some e
 · rename_i he
   rw [he] at e
   cases e
section
variable {prog:Program}{w:World}{A:Around}{E:Value->Shared->Prop}{K:Frag}{h:Heap}{g:Array GenState}{dr:Drawn}{tk:Nat}{os:OsState}{a C N dx:Addr}{oC:Obj}{vs:Array Value}{f:Str}{v:Value}{mA:Str->Option Value}{b:Bool}
theorem fault_field {Q:Value->Shared->Prop} (X:K.In h) (eC:K.lookup C=some oC) (Z:FaultCls oC C N) (ga:findIn K (.ref C) "__getattribute__"=some (some (.builtin "BaseException.__getattribute__"))) (gt:findIn K (.ref C) "__getattr__"=some none) (nf:findIn K (.ref C) f=some none)
  (r:Rec h a (.ref C) (some dx) vs) (n:h.Ns1 dx mA) (hv:mA f=some v) (hh:handedOut v=pure v) (q:Q v ⟨h,g,dr,tk+1,os⟩):wpAny (model prog w) A (getAttr (.ref a) f b) Q E ⟨h,g,dr,tk,os⟩:=by
 obtain ⟨o,e,⟨c,d⟩,dt⟩:=id r
 obtain ⟨od,es,ep,e1,e2,_,_,e3⟩:=n
 obtain ⟨nm,q',bs,sn,sub,ab,col,dd,k0,k1,k2,k3,k5,rfl⟩:=id Z
 have I:InstAt h a o C (some od):=⟨e,c,by unfold notCls;rw [dt],by rw [d];exact e1⟩
 have fo:findObj K C (some od) f=some (.value v):=by
  obtain ⟨cd,hc,hd⟩:∃ cd,clsIn K C=some cd/\cd.hasDict=true:=⟨_,by unfold clsIn;rw [eC],rfl⟩
  have ho:ownOf cd (some od) f=some (some v):=(if_pos hd).trans (look_ns e2 ((e3 f).trans hv))
  unfold findObj
  rw [hc,nf]
  show (ownOf cd (some od) f).bind _=_
  rw [ho]
  rfl
 have FB:=F.attrBase_Exception
 have l0:=I.type (M:=model prog w)
 have l1:=looks_findIn (M:=model prog w) X ga
 have l2:=looks_findIn (M:=model prog w) X gt
 have l3:=looks_find (M:=model prog w) X I fo
 refine wpAny_bind (wpAny_mkText (wpAny_holding (wpAny_bind (l0.at (wpAny_bind (l1.at ?_))))))
 show wpAny _ _ (getAttrByItsOwn (.ref a) (.str f tk) (.ref C) (.builtin "BaseException.__getattribute__") true b) _ _ _
 refine wpAny_bind (l2.at (wpAny_bind (wpAny_attempt (wpAny_holding ?_))))
 have hcall:callGetattribute (.ref a) (.str f tk) (.builtin "BaseException.__getattribute__") b=call (.builtin "BaseException.__getattribute__") [.ref a,.str f tk]:=by
  have hb:callGetattribute (.ref a) (.str f tk) (.builtin "BaseException.__getattribute__") b=boundAndCalled (.builtin "BaseException.__getattribute__") (.ref a) (.str f tk):=by cases b <;> rfl
  rw [hb]
  unfold boundAndCalled
  rw [FB.ga.bind]
  rfl
 rw [hcall]
 refine wpAny_call (codeAny_call_builtin FB.ga.plain F.entry_bexc_ga (wpAny_check_ga_own FB (X _ _ eC) .base e c ?_))
 refine wpAny_bind (wpAny_pure (wpAny_bind (wpAny_pure (wpAny_bind (l0.at (wpAny_bind (l3.at (wpAny_pure ?_))))))))
 show wpAny _ _ (handedOut v) _ _ _
 rw [hh]
 exact wpAny_pure q
theorem fault_first {sl:Array (Option Value)}{Q:Unit->Shared->Prop}(X:K.In h)(eC:K.lookup C=some oC)(Z:FaultCls oC C N)(sa:findIn K (.ref C) "__setattr__"=some (some (.builtin "object.__setattr__")))(nf:findIn K (.ref C) f=some none)
  (e:h.get? a=some ⟨.ref C,none,.fields vs,sl⟩)
  (fin:∀ g' tk',g'.get? a=some ⟨.ref C,some h.objs.size,.fields vs,sl⟩->g'.Ns1 h.objs.size (fun y=>if y=f then some v else none)->(∀ b o,b≠a->h.get? b=some o->g'.get? b=some o)->Q () ⟨g',g,dr,tk',os⟩) :
  wpAny (model prog w) A (setAttr (.ref a) f v) Q E ⟨h,g,dr,tk,os⟩:=by
 have SF:=F.store_Exception
 have r:Rec h a (.ref C) none vs:=⟨_,e,⟨rfl,rfl⟩,rfl⟩
 have eC':=X _ _ eC
 have l0:=r.type (M:=model prog w)
 have l1:=looks_findIn (M:=model prog w) X sa
 have l2:=looks_findIn (M:=model prog w) X nf
 have l3:=Z.mro (M:=model prog w) eC'
 obtain ⟨cd,l4,_,hd⟩:=Z.data (M:=model prog w) eC'
 have ne:a≠h.objs.size:=Nat.ne_of_lt (Heap.lt_size e)
 obtain ⟨nm,q',bs,sn,sub,ab,col,dd,k0,k1,k2,k3,k5,rfl⟩:=id Z
 refine wpAny_bind (wpAny_mkText (wpAny_bind (wpAny_bind (wpAny_bind (l0.at (l1.at ?_))))))
 refine wpAny_holding (wpAny_bind ?_)
 rw [SF.slot.bind]
 refine wpAny_pure (wpAny_bind (wpAny_call ?_))
 refine codeAny_call_builtin SF.slot.plain SF.entry ?_
 show wpAny _ _ (checkBuiltinCall "object.__setattr__" ⟨[.ref a,.str f tk,v],[]⟩) _ _ _
 refine PySem.wpAny_check_sa (sa:="object.__setattr__") (owner:="object") (B:="Exception") (bm:=excBm) SF (x:=a) (C:=C) eC' e rfl ?_
 show wpAny _ _ (Builtin.«object.__setattr__» ⟨[.ref a,.str f tk,v],[]⟩) _ _ _
 rw [osa_eq,refuse_eq]
 refine wpAny_bind (wpAny_bind (l0.at (wpAny_bind (l3.at ?_))))
 rw [refuseLoop_ref,SF.passes]
 refine wpAny_pure (wpAny_bind (l0.at (wpAny_bind (l2.at (wpAny_bind (wpAny_pure ?_))))))
 show wpAny _ _ (storeInOwnDict (.ref a) (.ref C) (.str f tk) f v false) _ _ _
 have dic:∀ (A':Around) (E':Value->Shared->Prop) (Q':Option Addr->Shared->Prop) (tk':Nat),Q' (some h.objs.size) ⟨(h.push { cls:=.type "dict",data:=.dict #[] }).update a fun o=>{ o with dict:=some h.objs.size },g,dr,tk',os⟩ ->
   wpAny (model prog w) A' (ownDictForStores (.ref a)) Q' E' ⟨h,g,dr,tk',os⟩:=fun A' E' Q' tk' z=>by
  refine wpAny_bind (wpAny_loadPart e (wpAny_bind (l4.at ?_)))
  rw [hd]
  exact wpAny_bind (wpAny_alloc (wpAny_bind (wpAny_update (Heap.get?_push_of_some _ e) (wpAny_pure z))))
 refine wpAny_bind (wpAny_pure (wpAny_bind (dic _ _ _ _ ?_)))
 have atA:((h.push { cls:=.type "dict",data:=.dict #[] }).update a fun o=>{ o with dict:=some h.objs.size }).get? a=some ⟨.ref C,some h.objs.size,.fields vs,sl⟩:=Heap.get?_update_self _ (Heap.get?_push_of_some _ e) rfl
 have atD:((h.push { cls:=.type "dict",data:=.dict #[] }).update a fun o=>{ o with dict:=some h.objs.size }).get? h.objs.size=some { cls:=.type "dict",data:=.dict #[] }:=(Heap.get?_update_other _ _ ne).trans (Heap.get?_push_size h rfl)
 have old:∀ b o,b≠a->h.get? b=some o->((h.push { cls:=.type "dict",data:=.dict #[] }).update a fun o=>{ o with dict:=some h.objs.size }).get? b=some o:=fun b o n eb=>(Heap.get?_update_other _ _ (Ne.symm n)).trans (Heap.get?_push_of_some _ eb)
 generalize ((h.push { cls:=.type "dict",data:=.dict #[] }).update a fun o=>{ o with dict:=some h.objs.size })=h1 at atA atD old
 have n1:h1.Ns1 h.objs.size (fun _=>none):=⟨_,#[],_,atD,rfl,fun y hy=>by simp at hy,by unfold UniqKeys;simp,fun _=>rfl⟩
 show wpAny _ _ (storeInDict h.objs.size (.str f tk) f v) _ _ _
 refine wpAny_bind (wpAny_pure (wpAny_bind (wpAny_nsSet1 n1 fun h2 n2 same=>?_)))
 obtain ⟨oD,esD,epD,hoD,hdD,few⟩:=n2.count (Within.cons f v Within.nil)
 refine wpAny_bind (wpAny_lookBehind hoD (by rw [hdD];exact pastItsLine_dict (Nat.le_trans few (by show 1<=sizeLine+1;decide))) (wpAny_pure ?_))
 refine wpAny_pure (wpAny_pure (fin h2 _ ((same.2 a ne).trans atA) n2 fun b o n eb=>(same.2 b (Nat.ne_of_lt (Heap.lt_size eb))).trans (old b o n eb)))
end
end BwX
namespace L2
open PySem PySem.Spec PyProof.Rows BwX
def ff (k p:Int):List (Str×V):=[("kind",.int k),("place",.int p)]
def xdA (dx:Addr)(fs:List (Str×V)):HO:=.ext fun h=>∃ mA,h.Ns1 dx mA/\∀ f,RelO (fs.lookup f) (mA f)
def Rz (C:Addr)(E:XK)(k p:Int):Prop:=∀ (H:Hp) (dx:Addr),H dx=some (xdA dx (ff k p))->E (.ref C) (some dx) H
def CXF (P:Program)(w:World)(C:Addr):CXT:=fun outer H s E e s' =>
 ∃ (a dx T:Addr) (H':Hp) (k p:Int),(e=.ref a/\s'.os=s.os/\AllBare s'.gens/\Un (frs outer) [] H H' s.heap s'.heap/\HOk P w H' s'.heap) /\
  Fly1 s.heap s'.heap a (.ref C) dx (some (T,.none))/\(∀ b∈recs a (some (T,Value.none)),H' b=none)/\H' dx=some (xdA dx (ff k p))/\Rz C E k p
def XF (X:Cx)(C:Addr)(E:XK):Value->Shared->Prop:=fun e s' =>
 ∃ (σ:St) (H:Hp) (a dx:Addr) (t:Option (Addr×Value)) (k p:Int),(e=.ref a/\Inv X [] σ H s')/\Fly1 X.s_0.heap s'.heap a (.ref C) dx t/\(∀ b∈recs a t,H b=none) /\
  (∀ T fl,t=some (T,fl)->fl=.none∨fl=rawInt X.env.locals)/\H dx=some (xdA dx (ff k p))/\Rz C E k p
structure OwnB (X:Cx):Prop where
 stk:X.stack=X.env::X.outer
 frame:X.env.frame=some X.env.locals
 pn:X.pn=[]
 ex:X.ex=[]
section
variable {X:Cx}{pins:List (Addr×Obj)}{σ:List (Option V)}{H H':Hp}{s:Shared}{h':Heap}
theorem Inv.gone (I:Inv X pins σ H s) (O:OwnB X):∀ b,s.heap.get? b=none->X.s_0.heap.get? b=none:=fun b e=>by
 cases q:X.s_0.heap.get? b with
 | none=>rfl
 | some o =>
  obtain ⟨o',z⟩:=I.base.there b o q (by rw [O.ex];simp)
  rw [e] at z
  cases z
end
section
variable {X:Cx}{σ:St}{H:Hp}{s:Shared}{C a dx:Addr}{E:XK}{M:Model}
theorem Inv.noted {g:Heap} {ch:List Addr} (I:Inv X [] σ H s) (O:OwnB X) (nt:Nt (frs X.stack) ch s.heap g) (hch:∀ b∈ch,X.s_0.heap.get? b=none/\∃ c d vs,Rec s.heap b c d vs) (hH:∀ b∈ch,H b=none):Inv X [] σ H { s with heap:=g }:=by
 refine I.callN (s':={ s with heap:=g }) (ch:=ch) rfl ⟨fun b o e _ hb hc=>nt.keep b o e hb hc,fun b o e _ _ hc=>nt.slot b o e hc,fun _ _ _ n _=>n,fun b o e hc=>(let ⟨_,z⟩:=nt.slot b o e hc;⟨_,z⟩),fun _ _ e=>e,fun _ _ _ e=>e,fun b ps e=>⟨#[],by rw [e];simp⟩⟩ (fun b u e=>?_) I.bare (fun b hb=>?_)
 · refine (I.hok b u e).stay (fun c v hc q=>?_) (fun _ q=>q) fun _ _ q=>q
   have tr:H c≠none:=by
    rcases hc with rfl|hc
    · rw [e];simp
    · rw [hc];simp
   exact nt.keep c v q (fun z=>tr (I.stkFree c z)) fun z=>tr (hH c z)
 · obtain ⟨h1,c,d,vs,o,ho,_,hd⟩:=hch b hb
   refine ⟨.inr h1,?_,?_,?_⟩
   · rintro rfl
     obtain ⟨m,⟨o',es,ep,ho',hd',_⟩,_⟩:=I.loc
     rw [ho'] at ho
     cases ho
     rw [hd'] at hd
     cases hd
   · rintro x c e rfl
     obtain ⟨v,o',ho',hd'⟩:=I.cell x c e
     rw [ho'] at ho
     cases ho
     rw [hd'] at hd
     cases hd
   · intro p hp
     rw [O.pn] at hp
     simp at hp
theorem note_x {t:Option (Addr×Value)}{k:Value}{E':Value->Shared->Prop}{Q:Unit->Shared->Prop}(O:OwnB X)(I:Inv X [] σ H s)(F:Fly1 X.s_0.heap s.heap a k dx t)(hH:∀ b∈recs a t,H b=none)
  (hfl:∀ T fl,t=some (T,fl)->fl=.none∨fl=rawInt X.env.locals)
  (fin:∀ g T,Inv X [] σ H { s with heap:=g }->Fly1 X.s_0.heap g a k dx (some (T,rawInt X.env.locals))->(∀ b∈recs a (some (T,rawInt X.env.locals)),H b=none)->Q () { s with heap:=g }) :
  wpAny M X.A (noteFrame (.ref a) X.env) Q E' s:=by
 have fr:=I.ok.frames
 have ff:=I.stack
 rw [O.stk] at fr ff
 refine note_frame (base:=X.base) fr ff O.frame F (I.gone O) hfl fun g T F' hT N=>fin g T (I.noted O (by rw [O.stk];exact N) F.recs_at hH) F' fun b hb=>?_
 rcases List.mem_cons.mp hb with rfl|hb
 · exact hH _ (List.mem_cons_self ..)
 · have:b=T:=by simpa using hb
   subst this
   rcases hT with hT|hT
   · exact hH _ hT
   · exact I.hok.fresh hT
theorem flight_x {T:Addr}{fl k:Value}{v:Option Addr}{E':Value->Shared->Prop}{Q:Unit->Shared->Prop}{A:Around}(O:OwnB X)(I:Inv X [] σ H s)(F:Fly1 X.s_0.heap s.heap a k dx (some (T,fl)))(hH:∀ b∈recs a (some (T,fl)),H b=none)
  (fin:∀ g,Inv X [] σ H { s with heap:=g }->Fly1 X.s_0.heap g a k dx (some (T,v.elim .none fun f=>rawInt f))->Q () { s with heap:=g }) :
  wpAny M A (setFlight (.ref a) v) Q E' s :=
 set_flight (fs:=frs X.stack) F fun g F' N=>fin g (I.noted O N F.recs_at hH) F'
theorem leave_x {P:Program}{w:World}{e:Value}{Q:Unit->Shared->Prop}{E':Value->Shared->Prop}(O:OwnB X)(hP:X.prog=P)(hw:X.w=w)(h:XF X C E e s)(fin:∀ s',CXF P w C X.outer X.H_0 X.s_0 E e s'->Q () s'):wpAny M X.A (leaving X.env e) Q E' s:=by
 obtain ⟨σ,H,a,dx,t,k,p,⟨rfl,I⟩,F,hH,hfl,hx,hz⟩:=h
 unfold leaving
 refine wpAny_bind (note_x O I F hH hfl fun g T I1 F1 H1=>flight_x O I1 F1 H1 fun g2 I2 F2=>fin _ ?_)
 have b:=I2.base
 rw [O.ex] at b
 exact ⟨a,dx,T,H,k,p,⟨rfl,I2.os,I2.bare,b,hP ▸ hw ▸ I2.hok⟩,F2,H1,hx,hz⟩
theorem own_x (O:OwnB X):PassesOwn M X.A X.env (XF X C E):=by
 rintro e s' ⟨σ,H,a,dx,t,k,p,⟨rfl,I⟩,F,hH,hfl,hx,hz⟩
 refine note_x O I F hH hfl fun g T I1 F1 H1=>?_
 unfold cameBackBy
 obtain ⟨vs,⟨r,_⟩,h1,_⟩:=id F1
 refine wpAny_bind (Rec.read (s:={ s' with heap:=g }) r h1 ?_)
 rw [if_neg (by simp)]
 refine flight_x O I1 F1 H1 fun g2 I2 F2=>?_
 refine ⟨σ,H,a,dx,_,k,p,⟨rfl,I2⟩,F2,H1,fun T' fl' q=>?_,hx,hz⟩
 rw [O.frame] at q
 injection q with q
 injection q with _ q
 exact .inr q.symm
theorem pass_x {P:Program}{w:World}(O:OwnB X)(hP:X.prog=P)(hw:X.w=w):Passes (CXF P w C) (X.wish (XF X C E)) E:=by
 rintro pins σ H s e s' I ⟨a,dx,T,H',k,p,⟨rfl,os,bare,un,hok⟩,F,hH,hx,hz⟩
 subst hP hw
 have I1:Inv X pins σ H s:=I.unwish
 have I2:Inv X pins σ H' s':=I1.call' (ch:=[]) os un hok bare (fun b z=>absurd z (by simp))
 refine ⟨σ,H',a,dx,_,k,p,⟨rfl,I2.pins_of (pins':=[]) (fun p hp=>absurd hp (by simp))⟩,F.low (I1.gone O),hH,fun T' fl' q=>?_,hx,hz⟩
 injection q with q
 injection q with _ q
 exact .inl q.symm
end
section
variable {P:Program}{w:World}{K:PySem.W.Frag}{mg:Str->Option Value}{base:Heap}
theorem own_cxOf {CX:CXT} {N:List Str} {qual:Str} {scope:Scope} {f:Addr} {cd:Value} {A:Around} {outer:List Env} {s:Shared} {H:Hp} {E:XK}:OwnB (cxOf CX P w K mg base N qual scope f cd A outer s H E):=⟨rfl,rfl,rfl,rfl⟩
abbrev cxF (C:Addr)(P:Program)(w:World)(K:PySem.W.Frag)(mg:Str->Option Value)(base:Heap)(N:List Str)(qual:Str)(scope:Scope)(f:Addr)(cd:Value)(A:Around)(outer:List Env)(s:Shared)(H:Hp)(E:XK):Cx :=
 (cxOf (CXF P w C) P w K mg base N qual scope f cd A outer s H E).wish (XF (cxOf (CXF P w C) P w K mg base N qual scope f cd A outer s H E) C E)
theorem Fun.okX {x qual:Str}{st:Stmt}{f C:Addr}{fd:FuncData}{N ps:List Str}{k:Nat}{sp:Sp}(F:Fun K x qual st f fd)(S:FnScope N ps (defScope st))(len:∀ vs H Q E,sp vs H Q E->vs.length=ps.length)
  (hbody:∀ (cdv:Value) (A:Around) (outer:List Env) (s:Shared) (H:Hp) (vs:List V) (Q:VK) (E:XK),Room k (A.deeper (envOfC qual (defScope st) s.heap.objs.size f cdv))->sp vs H Q E ->
   ∃ t,PSs (cxF C P w K mg base N qual (defScope st) f cdv A outer s H E) (defBody st) t/\t { nx:=fun _ H'=>Q .non H',rt:=Q } (start N vs) H):FnOk P w K mg base (CXF P w C) (k+1) f fd ps sp:=by
 obtain ⟨oc,od,kV,doc,pm,an,cdv,ct,osl,rfl,lk,hcd⟩:=F.ex
 refine fn_of lk hcd S len fun A outer s H vs Q E hr hsp=>?_
 obtain ⟨t,h,q⟩:=hbody cdv A outer s H vs Q E hr hsp
 refine ⟨t,fun pins s1 σ H1 D I hw=>?_,q⟩
 refine wpAny_mono (h pins s1 σ H1 D (I.wish _) hw) (fun _ _ q=>q.unwish) fun e s' z=>?_
 exact leave_x own_cxOf rfl rfl z fun s'' z=>z
end
def strKeysK (K:PySem.W.Frag)(N:Addr):Bool:=match K.lookup N with
 | some ⟨_,_,.dict es _,_⟩=>es.toList.all fun e=>match e.key with
  | .str _ _=>true
  | _=>false
 | _=>false
def nsK (K:PySem.W.Frag)(N:Addr)(x:Str):Option Value:=match K.lookup N with
 | some ⟨_,_,.dict es _,_⟩=>nsFind es x
 | _=>none
theorem nsK_of {K:PySem.W.Frag}{N:Addr}{h:Heap}(X:K.In h)(e:strKeysK K N=true):h.Ns N (nsK K N):=by
 unfold strKeysK at e
 split at e
 · rename_i c d es n sl q
   refine ⟨_,es,n,X _ _ q,rfl,fun y hy=>?_,fun name=>?_⟩
   · have z:=List.all_eq_true.mp e y (Array.mem_toList_iff.mpr hy)
     split at z
     · rename_i a b w
       exact ⟨a,b,w⟩
     · cases z
   · unfold nsK
     rw [q]
 · cases e
theorem nsK_in {K:PySem.W.Frag}{N:Addr}{x:Str}{r:Option Value}(e:PySem.W.nsIn K N x=some r):nsK K N x=r:=by
 unfold PySem.W.nsIn at e
 unfold nsK
 split at e
 · rename_i c d es n sl q
   rw [q]
   show nsFind es x=r
   unfold nsFind findBy
   rw [← Array.find?_toList]
   split at e
   · rename_i y w
     rw [w]
     exact Option.some.inj e
   · rename_i w
     rw [w]
     split at e
     · cases e
     · exact Option.some.inj e
 · cases e
structure ExcK (K:PySem.W.Frag)(C N fI:Addr):Prop where
 cls:∃ oC,K.lookup C=some oC/\FaultCls oC C N
 keys:strKeysK K N=true
 init:PySem.W.nsIn K N "__init__"=some (some (.ref fI))
 fn:PySem.W.isFn K (.ref fI)=true
 kp:PySem.W.keepIn K (.ref C)=true
 noSet:PySem.W.nsIn K N "__setattr__"=some none
 noK:PySem.W.nsIn K N "kind"=some none
 noP:PySem.W.nsIn K N "place"=some none
 sa:PySem.W.findIn K (.ref C) "__setattr__"=some (some (.builtin "object.__setattr__"))
 ga:PySem.W.findIn K (.ref C) "__getattribute__"=some (some (.builtin "BaseException.__getattribute__"))
 gt:PySem.W.findIn K (.ref C) "__getattr__"=some none
 fK:PySem.W.findIn K (.ref C) "kind"=some none
 fP:PySem.W.findIn K (.ref C) "place"=some none
theorem lkK:typeLookup (.type "Exception") "kind"=pure none:=by rw [typeLookup_type,builtinLookup_eq_fast];kernel_rfl
theorem lkP:typeLookup (.type "Exception") "place"=pure none:=by rw [typeLookup_type,builtinLookup_eq_fast];kernel_rfl
def xoA (a C t:Addr)(od:Option Addr):HO:=.ext fun h=>h.get? a=some { cls:=.ref C,dict:=od,data:=.fields #[.ref t,.none,.none,.none,.bool false,.none] }
theorem ObjOk.there {P:Program}{w:World}{H:Hp}{h:Heap}{a:Addr}{o:HO}(x:ObjOk P w H h a o):∃ u,h.get? a=some u:=by
 cases o with
 | lst xs=>obtain ⟨_,_,_,_,e⟩:=x;exact ⟨_,e⟩
 | tup xs=>obtain ⟨_,_,_,o,e,_⟩:=x;exact ⟨_,e⟩
 | dK kvs=>obtain ⟨_,_,_,_,o,_,_,e,_⟩:=x;exact ⟨_,e⟩
 | dT kvs=>obtain ⟨_,_,_,_,o,_,_,e,_⟩:=x;exact ⟨_,e⟩
 | set S n=>obtain ⟨o,_,_,_,e,_⟩:=x;exact ⟨_,e⟩
 | ins C dx fs=>obtain ⟨_,_,_,e,_⟩:=x;exact ⟨_,e⟩
 | own y=>exact x
 | xd fs=>obtain ⟨_,⟨_,_,_,e,_⟩,_⟩:=x;exact ⟨_,e⟩
 | rng lo hi=>obtain ⟨_,_,_,e⟩:=x;exact ⟨_,e⟩
 | frz ob u=>obtain ⟨e,_⟩:=x;exact ⟨_,e⟩
 | tbl ps=>exact ⟨_,show h.get? a=some _ from x⟩
 | met f y=>exact ⟨_,show h.get? a=some _ from x⟩
 | ext φ=>obtain ⟨_,e,_⟩:=x;exact e
theorem HOk.gone {P:Program}{w:World}{H:Hp}{h:Heap}{a:Addr}(x:HOk P w H h)(e:h.get? a=none):H a=none:=by
 cases q:H a with
 | none=>rfl
 | some o =>
  obtain ⟨u,z⟩:=(x a o q).there
  rw [e] at z
  cases z
theorem xdA_ok {P:Program}{w:World}{H:Hp}{h:Heap}{dx:Addr}{fs:List (Str×V)}{mA:Str->Option Value}(n:h.Ns1 dx mA)(r:∀ f,RelO (fs.lookup f) (mA f)):ObjOk P w H h dx (xdA dx fs):=by
 obtain ⟨o,es,ep,e,c⟩:=id n
 refine ⟨⟨mA,n,r⟩,⟨o,e⟩,?_⟩
 rintro h1 h2 ⟨m,⟨o,es,ep,e,c⟩,r⟩ k
 exact ⟨m,⟨o,es,ep,k _ e,c⟩,r⟩
theorem xoA_ok {P:Program}{w:World}{H:Hp}{h:Heap}{a C t:Addr}{od:Option Addr}(e:h.get? a=some { cls:=.ref C,dict:=od,data:=.fields #[.ref t,.none,.none,.none,.bool false,.none] }):ObjOk P w H h a (xoA a C t od) :=
 ⟨e,⟨_,e⟩,fun _ _ e k=>k _ e⟩
section
variable {X:Cx}{pins:List (Addr×Obj)}{σ:St}{H:Hp}{s:Shared}{a C N fI t dx:Addr}{fs:List (Str×V)}{f:Str}{v:V}{u:Value}{A:Around}{E':Value->Shared->Prop}{Q:Unit->Shared->Prop}
theorem xset1 (I:Inv X pins σ H s) (Z:ExcK X.K C N fI) (nf:PySem.W.findIn X.K (.ref C) f=some none) (ea:H a=some (xoA a C t none)) (r:RelV v u)
  (h:∀ s' dx,H dx=none->dx≠a->Inv X pins σ (upd (upd H dx (xdA dx [(f,v)])) a (xoA a C t (some dx))) s'->Q () s'):wpAny (model X.prog X.w) A (setAttr (.ref a) f u) Q E' s:=by
 obtain ⟨oC,hC,hF⟩:=Z.cls
 obtain ⟨φ,_,_⟩:=I.hok a _ ea
 have hK:=I.kIn
 obtain ⟨hp,ga,d,tk,os⟩:=s
 refine fault_first hK hC hF Z.sa nf φ fun g tk' h1 h2 h3=>?_
 have fr:H hp.objs.size=none:=I.hok.fresh (Nat.le_refl _)
 have ne:hp.objs.size≠a:=fun z=>by rw [z,ea] at fr;cases fr
 refine h ⟨g,ga,d,tk',os⟩ hp.objs.size fr ne ?_
 have at_:∀ b o,H b=some o->b≠a->(upd (upd H hp.objs.size (xdA hp.objs.size [(f,v)])) a (xoA a C t (some hp.objs.size))) b=some o:=fun b o e n=>by
  rw [upd_ne n,upd_ne (fun z=>by rw [z,fr] at e;cases e)]
  exact e
 have no:∀ b o,H b=some o->(∀ φ,o≠.ext φ)->b≠a:=fun b o e n z=>by
  rw [z,ea] at e
  exact n _ (Option.some.inj e).symm
 refine I.un (h':=g) (t':=tk') ⟨fun b o e n _ _=>?_,fun b o e n _ _=>?_,fun b o e n _=>?_,fun b o e _=>?_,fun b xs e=>at_ b _ e (no b _ e fun _ z=>by cases z),fun b o u e=>at_ b _ e (no b _ e fun _ z=>by cases z),fun b ps e=>⟨#[],by rw [at_ b _ e (no b _ e fun _ z=>by cases z)];simp⟩⟩ (fun b u e=>?_)
 · exact h3 b o (fun z=>by rw [z,ea] at n;cases n) e
 · exact ⟨o.slots,h3 b o (fun z=>by rw [z,ea] at n;cases n) e⟩
 · rw [upd_ne (fun z=>by rw [z,ea] at n;cases n),upd_ne (Nat.ne_of_lt (Heap.lt_size e))]
   exact n
 · by_cases z:b=a
   · exact ⟨_,z ▸ h1⟩
   · exact ⟨o,h3 b o z e⟩
 · by_cases z:b=a
   · subst z
     rw [upd_same] at e
     cases e
     exact xoA_ok h1
   · rw [upd_ne z] at e
     by_cases z2:b=hp.objs.size
     · subst z2
       rw [upd_same] at e
       cases e
       refine xdA_ok h2 fun y=>?_
       by_cases hy:y=f
       · subst hy
         simp only [List.lookup,beq_self_eq_true,if_true]
         exact r
       · have hb:(y==f)=false:=beq_eq_false_iff_ne.mpr hy
         simp only [List.lookup,hb,if_neg hy]
         trivial
     · rw [upd_ne z2] at e
       refine (I.hok b u e).stay (fun c w' hc q=>h3 c w' ?_ q) (fun c q=>at_ c _ q (no c _ q fun _ z=>by cases z)) fun c xs q=>at_ c _ q (no c _ q fun _ z=>by cases z)
       rcases hc with rfl|hc
       · exact z
       · exact no c _ hc fun _ z=>by cases z
theorem xset2 (I:Inv X pins σ H s)(Z:ExcK X.K C N fI)(hn:PySem.W.nsIn X.K N f=some none)(hB:typeLookup (.type "Exception") f=pure none)(ea:H a=some (xoA a C t (some dx)))(ed:H dx=some (xdA dx fs))(ne:dx≠a)(hl:fs.length < 1000)(r:RelV v u)
  (h:∀ s',Inv X pins σ (upd H dx (xdA dx (putF f v fs))) s'->Q () s'):wpAny (model X.prog X.w) A (setAttr (.ref a) f u) Q E' s:=by
 obtain ⟨_,hC,nm,q,bs,sn,sub,ab,col,dd,k0,k1,k2,k3,k5,rfl⟩:=Z.cls
 have hC':=I.kIn _ _ hC
 have hN:=nsK_of I.kIn Z.keys
 have nC:a≠C:=fun z=>by
  have:=(I.bs C _ (I.ok.mod.kin _ _ hC)).2
  rw [← z,ea] at this
  cases this
 obtain ⟨φ,_,_⟩:=I.hok a _ ea
 obtain ⟨⟨mA,n1,rl⟩,_,_⟩:=I.hok dx _ ed
 obtain ⟨hp,ga,d,tk,os⟩:=s
 have wi:Within mA (fs.map (·.1)):=fun y hy=>by
  have q:=rl y
  cases e:fs.lookup y with
  | none =>
   rw [e] at q
   cases e2:mA y with
   | none=>exact absurd e2 hy
   | some w'=>rw [e2] at q;exact q.elim
  | some w'=>exact List.mem_map.mpr ⟨(y,w'),PySem.mem_of_lookup e,rfl⟩
 refine store_attr F.store_Exception hC' hN (nsK_in Z.noSet) (nsK_in hn) hB nC ⟨_,φ,rfl,(fun c q=>by cases q),Or.inr ⟨dx,rfl,ne,n1⟩⟩ (fun h' tk' J keep same=>?_) wi (by rw [List.length_map,sizeLine_eq];omega)
 obtain ⟨o1,e1,c1,d1,s1,x1⟩:=same _ φ
 have x1:o1.dict=some dx:=x1 dx rfl
 obtain ⟨o2,e2,_,_,r2⟩:=J
 rw [e1] at e2
 cases e2
 have n2:h'.Ns1 dx (fun y=>if y=f then some u else mA y):=by
  rcases r2 with ⟨z,_⟩|⟨d',z,_,w'⟩
  · rw [x1] at z;cases z
  · rw [x1] at z;cases z;exact w'
 refine h ⟨h',ga,d,tk',os⟩ (I.write (h':=h') (t':=tk') (x:=dx) (e:=dx) (by rw [ed];trivial) (.inl rfl) (fun b o hb e=>?_) ?_ (xdA_ok n2 fun y=>?_))
 · by_cases z:b=a
   · subst z
     rw [φ] at e
     cases e
     rw [e1]
     obtain ⟨p1,p2,p3,p4⟩:=o1
     simp only at c1 d1 s1 x1
     rw [c1,d1,s1,x1]
   · exact keep b o z (fun o₀ dx' w0 w1=>by
      rw [φ] at w0
      cases w0
      cases w1
      exact hb) e
 · obtain ⟨o,_,_,e,_⟩:=n2
   exact ⟨o,e⟩
 · rw [lookup_putF]
   by_cases hy:y=f
   · simp only [if_pos hy]
     exact r
   · simp only [if_neg hy]
     exact rl y
end
def sXfld (C:Addr)(ta tv:TE)(f:Str):TS:=fun D σ H=>tv σ H fun y H1=>ta σ H1 fun x H2=>∃ a t,x=.ref a /\
 ((H2 a=some (xoA a C t none)/\∀ dx,H2 dx=none->dx≠a->D.nx σ (upd (upd H2 dx (xdA dx [(f,y)])) a (xoA a C t (some dx)))) ∨
  ∃ dx fs,H2 a=some (xoA a C t (some dx))/\H2 dx=some (xdA dx fs)/\dx≠a/\fs.length < 1000/\D.nx σ (upd H2 dx (xdA dx (putF f y fs))))
theorem ps_xfld {X:Cx}{C N fI:Addr}{o value:Expr}{f:Str}{pos pos':Pos}{ta tv:TE}(Z:ExcK X.K C N fI)(nf:PySem.W.findIn X.K (.ref C) f=some none)(hn:PySem.W.nsIn X.K N f=some none)(hB:typeLookup (.type "Exception") f=pure none)(ha:PE X o ta)(hv:PE X value tv)
  (hs:swapsWith value (some (.Attribute o f pos')) pos.line X.env=pure false):PS X (.Assign [.Attribute o f pos'] value pos) (sXfld C ta tv f):=by
 intro pins s σ H D I h
 refine plainObj_wpAny_Assign_Attribute (thn (hv pins s σ H _ I h) fun u s1 ⟨y,H1,I1,ry,q⟩=>thn (ha pins s1 σ H1 _ I1 q) fun ov s2 ⟨x,H2,I2,rx,a,t,ex,q2⟩=>?_) hs
 subst ex
 obtain rfl:ov=Value.ref a:=rx
 rcases q2 with ⟨ea,q2⟩|⟨dx,fs,ea,ed,ne,hl,q2⟩
 · exact xset1 I2 Z nf ea ry fun s3 dx fr ne I3=>⟨σ,_,I3,q2 dx fr ne⟩
 · exact xset2 I2 Z hn hB ea ed ne hl ry fun s3 I3=>⟨σ,_,I3,q2⟩
def spXI (C:Addr):Sp:=fun vs H Q _=>∃ (a t:Addr) (k p:Int),vs=[.ref a,.int k,.int p]/\H a=some (xoA a C t none) /\
 ∀ (dx:Addr),H dx=none->dx≠a->Q .non (upd (upd H dx (xdA dx (ff k p))) a (xoA a C t (some dx)))
section
variable {X:Cx}{pins:List (Addr×Obj)}{σ:St}{H:Hp}{s:Shared}
theorem Inv.grown {a:Addr} {o:HO} {h':Heap} {t':Nat} (I:Inv X pins σ H s) (k:∀ b u,s.heap.get? b=some u->h'.get? b=some u) (hp:s.heap.get? a=none) (new:ObjOk X.prog X.w (upd H a o) h' a o):Inv X pins σ (upd H a o) { s with heap:=h',toks:=t' }:=by
 have fr:H a=none:=I.hok.gone hp
 have at_:∀ b u,H b=some u->(upd H a o) b=some u:=fun b u e=>by rw [upd_ne (ne_of_none e fr)];exact e
 refine I.un (h':=h') (t':=t') ⟨fun b u e n _ _=>k b u e,fun b u e n _ _=>⟨u.slots,k b u e⟩,fun b u e n _=>?_,fun b u e _=>⟨u,k b u e⟩,fun b xs e=>at_ b _ e,fun b u v e=>at_ b _ e,fun b ps e=>⟨#[],by rw [at_ b _ e];simp⟩⟩ fun b u e=>?_
 · rw [upd_ne (fun z=>by rw [z,hp] at e;cases e)]
   exact n
 · by_cases z:b=a
   · subst z
     rw [upd_same] at e
     cases e
     exact new
   · rw [upd_ne z] at e
     exact (I.hok b u e).stay (fun c v _ q=>k c v q) (fun c q=>at_ c _ q) fun c xs q=>at_ c _ q
def drp (H:Hp)(a:Addr):Hp:=fun b=>if b=a then none else H b
theorem drp_same {a:Addr}:drp H a a=none:=if_pos rfl
theorem drp_ne {a b:Addr}(h:b≠a):drp H a b=H b:=if_neg h
theorem Inv.dropped {a:Addr}{φ:Heap->Prop}(I:Inv X pins σ H s)(e:H a=some (.ext φ)):Inv X pins σ (drp H a) s:=by
 have at_:∀ b u,H b=some u->(∀ ψ,u≠.ext ψ)->drp H a b=some u:=fun b u q n=>by
  rw [drp_ne (fun z=>by rw [z,e] at q;exact n _ (Option.some.inj q).symm)]
  exact q
 refine I.un (h':=s.heap) (t':=s.toks) ⟨fun b u q n _ _=>q,fun b u q n _ _=>⟨u.slots,q⟩,fun b u q n _=>?_,fun b u q _=>⟨u,q⟩,fun b xs q=>at_ b _ q (fun _ z=>by cases z),fun b u v q=>at_ b _ q (fun _ z=>by cases z),fun b ps q=>⟨#[],by rw [at_ b _ q (fun _ z=>by cases z)];simp⟩⟩ fun b u q=>?_
 · by_cases z:b=a
   · rw [z];exact drp_same
   · rw [drp_ne z];exact n
 · by_cases z:b=a
   · rw [z,drp_same] at q;cases q
   · rw [drp_ne z] at q
     exact (I.hok b u q).stay (fun c v _ w=>w) (fun c w=>at_ c _ w fun _ z=>by cases z) fun c xs w=>at_ c _ w fun _ z=>by cases z
theorem Inv.seen {a:Addr}{φ:Heap->Prop}(I:Inv X pins σ H s)(O:OwnB X)(h0:X.s_0.heap.get? a=none)(fr:H a=none)(nL:a≠X.env.locals)(nC:∀ x c,X.env.cells.lookup x=some c->c≠a)(npn:pins=[])(nf:a∉X.fs)(new:ObjOk X.prog X.w (upd H a (.ext φ)) s.heap a (.ext φ)) :
  Inv X pins σ (upd H a (.ext φ)) s:=by
 have at_:∀ b u,H b=some u->(upd H a (.ext φ)) b=some u:=fun b u q=>by rw [upd_ne (ne_of_none q fr)];exact q
 refine ⟨I.ok,I.os,I.bare,⟨I.base.keep,I.base.slot,fun b o q n hx=>?_,I.base.there,fun b xs q=>at_ b _ (I.base.tups b xs q),fun b u v q=>at_ b _ (I.base.frzs b u v q),fun b ps q=>?_⟩,I.loc,I.cell,?_,fun x c q=>?_,fun p hp=>?_,fun b u q=>?_,I.len⟩
 · rw [upd_ne (fun z=>by rw [z,h0] at q;cases q)]
   exact I.base.free b o q n hx
 · obtain ⟨m,w⟩:=I.base.tbls b ps q
   exact ⟨m,at_ b _ w⟩
 · rw [upd_ne nL.symm]
   exact I.free
 · rw [upd_ne (nC x c q)]
   exact I.freeC x c q
 · rw [O.pn,npn] at hp
   simp at hp
 · by_cases z:b=a
   · subst z
     rw [upd_same] at q
     cases q
     exact new
   · rw [upd_ne z] at q
     exact (I.hok b u q).stay (fun c v _ w=>w) (fun c w=>at_ c _ w) fun c xs w=>at_ c _ w
end
def tRz (C:Addr)(E:XK)(t:TA):TS:=fun _ σ H=>t σ H fun vs _=>∃ k p,vs=[.int k,.int p]/\Rz C E k p
theorem ps_raise {X:Cx}{C N fI:Addr}{E:XK}{x:Str}{np cpos pos:Pos}{e:Expr}{es:List Expr}{t:TA}{j:Nat}{fdI:FuncData}(O:OwnB X)(Z:ExcK X.K C N fI)(FI:FnOk X.prog X.w X.K X.mg X.base CX0 j fI fdI ["self","kind","place"] (spXI C))(hr:Room (j+1) X.A)
  (bI:Binds X.K fdI ["self","kind","place"] [])(hg:Gl X x)(hm:X.mg x=some (.ref C))(ha:PA (X.wish (XF X C E)) (e::es) t)(hdb:(x==("__debug__":Str))=false:=by decide)
  (he:starEach (e::es) X.env=(false,eval e X.env)::starEach es X.env:=by rfl)(hpl:(backTo cpos (starEach es X.env)).any (·.1)=false:=by rfl) :
  PS (X.wish (XF X C E)) (.Raise (some (.Call (.Name x np) (e::es) [] cpos)) none pos) (tRz C E t):=by
 intro pins s σ H D I h
 obtain ⟨oC,hC,hF⟩:=Z.cls
 rw [arm_exec_Raise]
 refine wpAny_bind (wpAny_standAt (raise_made hr.hd (wpAny_bind (wpAny_mono ?_ (fun v s1 q=>wpAny_bind (wpAny_standAt (wpAny_pure q))) fun _ _ z=>z))))
 refine wpAny_Call_Name_kw (ld_glob (X:=X) I.unwish hg hm ?_ hdb)
 refine PySem.W.callWith_K (h₀:=X.base) I.ok.mod.kin Z.kp (thn (ha cpos pins s σ H _ I h) fun us s2 ⟨vs,H1,I1,r,k,p,ev,hz⟩=>⟨I1.kIn,?_⟩) he hpl
 subst ev
 have I1:Inv X pins σ H1 s2:=I1.unwish
 obtain ⟨u1,u2,rfl,r1,r2⟩:=vals2 r
 obtain ⟨oI,hfo,hfc⟩:∃ oI,s2.heap.get? fI=some oI/\oI.cls=.type "function":=by
  have z:=beq_iff_eq.mp Z.fn
  unfold PySem.W.typeIn at z
  cases q:X.K.lookup fI with
  | none=>simp [q] at z
  | some o =>
   simp [q] at z
   exact ⟨o,I1.kIn _ _ q,z⟩
 obtain ⟨nm,q,bs,sn,sub,ab,col,dd,k0,k1,k2,k3,k5,hF'⟩:=id hF
 obtain ⟨hp,ga,d,tk,os⟩:=s2
 refine wpAny_call_exc_init F.excBase_Exception (hF' ▸ I1.kIn _ _ hC) (nsK_of I1.kIn Z.keys) (nsK_in Z.init) hfo hfc (fun h' a M=>?_) (by show 2<=sizeLine;decide)
 obtain ⟨keep,fresh,t0,hget,_,_⟩:=M
 have I2:Inv X pins σ (upd H1 a (xoA a C t0 none)) (⟨h',ga,d,tk,os⟩:Shared):=I1.grown keep fresh (xoA_ok hget)
 have rv:Vals [V.ref a,V.int k,V.int p] [Value.ref a,u1,u2]:=.cons rfl r
 refine wpAny_call (codeAny_mono (FI.run _ X.stack _ _ ⟨[Value.ref a,u1,u2],[]⟩ [Value.ref a,u1,u2] [V.ref a,V.int k,V.int p]
  (fun v H'=>v=.non/\∃ dx,(upd H1 a (xoA a C t0 none)) dx=none/\dx≠a/\H'=upd (upd (upd H1 a (xoA a C t0 none)) dx (xdA dx (ff k p))) a (xoA a C t0 (some dx))) E0 (hr.make C [u1,u2] []) (I2.env0.make C [u1,u2] []) ?_ rv ⟨a,t0,k,p,rfl,upd_same,fun dx h1 h2=>⟨rfl,dx,h1,h2,rfl⟩⟩) fun r s3 hq=>?_)
 · have z:=bI (⟨h',ga,d,tk,os⟩:Shared) [Value.ref a,u1,u2] I2.kIn rfl
   rw [List.append_nil] at z
   exact z
 cases r with
 | error e=>exact False.elim hq
 | ok fl =>
  cases fl with
  | next=>exact False.elim hq
  | brk=>exact False.elim hq
  | cont=>exact False.elim hq
  | ret u =>
   obtain ⟨v,H',I3,rv,ev,dx,hdx,ne,eH⟩:=I2.after hq
   subst ev eH
   have ea:(upd (upd (upd H1 a (xoA a C t0 none)) dx (xdA dx (ff k p))) a (xoA a C t0 (some dx))) a=some (xoA a C t0 (some dx)):=upd_same
   obtain ⟨φ,_,_⟩:=I3.hok a _ ea
   refine ⟨rv,a,C,N,oC,some dx,_,rfl,⟨_,φ,⟨rfl,rfl⟩,rfl⟩,rfl,I3.kIn _ _ hC,hF,σ,_,a,dx,none,k,p,⟨rfl,(I3.dropped ea).pins_of (pins':=[]) fun p hp=>absurd hp (by simp)⟩,⟨_,⟨⟨_,φ,⟨rfl,rfl⟩,rfl⟩,I1.gone O a fresh⟩,rfl⟩,fun b hb=>?_,fun T fl z=>(nomatch z),?_,hz⟩
   · have:b=a:=by simpa [recs] using hb
     rw [this]
     exact drp_same
   · rw [drp_ne ne,upd_ne ne,upd_same]
section
variable {X:Cx}{st:Stmt}{rest:List Stmt}{t u:TS}
theorem PS.zero (h:PS X st t):PS0 X st t:=fun s σ H D I q=>h [] s σ H D I q
theorem PSs.zero (h:PSs X rest t):PSs0 X rest t:=fun s σ H D I q=>h [] s σ H D I q
theorem pss0_cons (h1:PS0 X st t)(h2:PSs0 X rest u):PSs0 X (st::rest) (tSeq t u):=by
 intro s σ H D I h
 refine wpAny_execs_cons (thn (h1 s σ H { D with nx:=u D } I h) fun f s1 q=>?_)
 cases f with
 | next =>
  obtain ⟨σ',H',I',q⟩:=q
  exact h2 s1 σ' H' D I' q
 | ret v=>exact q
 | brk=>exact q
 | cont=>exact q
end
section
variable {P:Program}{w:World}{K:PySem.W.Frag}{mg:Str->Option Value}{base:Heap}
theorem Fun.ok0 {x qual:Str} {st:Stmt} {f:Addr} {fd:FuncData} {N ps:List Str} {k:Nat} {sp:Sp} (F:Fun K x qual st f fd) (S:FnScope N ps (defScope st)) (len:∀ vs H Q E,sp vs H Q E->vs.length=ps.length)
  (hbody:∀ (cdv:Value) (A:Around) (outer:List Env) (s:Shared) (H:Hp) (vs:List V) (Q:VK) (E:XK),Room k (A.deeper (envOfC qual (defScope st) s.heap.objs.size f cdv))->sp vs H Q E ->
   ∃ t,PSs0 (cxOf CX0 P w K mg base N qual (defScope st) f cdv A outer s H E).nox (defBody st) t/\t { nx:=fun _ H'=>Q .non H',rt:=Q } (start N vs) H):FnOk P w K mg base CX0 (k+1) f fd ps sp:=by
 obtain ⟨oc,od,kV,doc,pm,an,cdv,ct,osl,rfl,lk,hcd⟩:=F.ex
 refine fn_of0 lk hcd S len fun A outer s H vs Q E hr hsp=>?_
 obtain ⟨t,h,q⟩:=hbody cdv A outer s H vs Q E hr hsp
 exact ⟨t,fun s1 σ H1 D I hw=>wpAny_mono (h s1 σ H1 D (I.wish _) hw) (fun _ _ q=>q.unwish) fun _ _ z=>False.elim z,q⟩
end
def xcA (a C dx:Addr):HO:=.ext fun h=>∃ (oe:Obj) (vs:Array Value),h.get? a=some oe/\oe.cls=.ref C/\oe.dict=some dx/\oe.data=.fields vs
theorem xcA_ok {P:Program}{w:World}{H:Hp}{h:Heap}{a C dx:Addr}{oe:Obj}{vs:Array Value}(e:h.get? a=some oe)(c:oe.cls=.ref C)(x:oe.dict=some dx)(d:oe.data=.fields vs):ObjOk P w H h a (xcA a C dx) :=
 ⟨⟨oe,vs,e,c,x,d⟩,⟨_,e⟩,fun h1 h2 ⟨o,vs,e,r⟩ k=>⟨o,vs,k _ e,r⟩⟩
def tXfld (C:Addr)(ta:TE)(f:Str):TE:=fun σ H Q=>ta σ H fun x H1=>∃ a dx fs v,x=.ref a/\H1 a=some (xcA a C dx)/\H1 dx=some (xdA dx fs)/\fs.lookup f=some v/\Q v H1
theorem pe_xfld {X:Cx}{C N fI:Addr}{e:Expr}{f:Str}{pos:Pos}{ta:TE}(Z:ExcK X.K C N fI)(nf:PySem.W.findIn X.K (.ref C) f=some none)(he:PE X e ta)(hb:attributeBase e f X.env (eval e X.env)=eval e X.env):PE X (.Attribute e f pos) (tXfld C ta f):=by
 intro pins s σ H Q I h
 obtain ⟨oC,hC,hF⟩:=Z.cls
 refine attr_of hb (thn (he pins s σ H _ I h) fun u s1 ⟨x,H1,I1,rx,a,dx,fs,v,ex,ea,ed,l,q⟩=>?_)
 subst ex
 obtain rfl:u=Value.ref a:=rx
 obtain ⟨⟨oe,vs,e1,c1,x1,d1⟩,_,_⟩:=I1.hok a _ ea
 obtain ⟨⟨mA,n1,rl⟩,_,_⟩:=I1.hok dx _ ed
 have rv:=rl f
 rw [l] at rv
 obtain ⟨u,hu,ru⟩:=RelO.some_of rv
 have hK:=I1.kIn
 obtain ⟨hp,ga,d,tk,os⟩:=s1
 exact fault_field hK hC hF Z.ga Z.gt nf ⟨oe,e1,⟨c1,x1⟩,d1⟩ n1 hu (PySem.W.handedOut_of (handed_of ru)) ⟨v,H1,I1.tok _,ru,q⟩
def EE (R:Int->Int->Prop):XK:=fun _ odx H=>∃ dx k p,odx=some dx/\H dx=some (xdA dx (ff k p))/\R k p
theorem Rz_EE {C:Addr}{R:Int->Int->Prop}{k p:Int}(h:R k p):Rz C (EE R) k p:=fun _ dx e=>⟨dx,k,p,rfl,e,h⟩
abbrev Cx.sui (X:Cx)(a:Addr):Cx:={ X with A:=X.A.mark (some (.ref a)),calm:=false,xe:=fun _ _=>False }
section
variable {X:Cx}{pins:List (Addr×Obj)}{σ:St}{H:Hp}{s:Shared}
theorem Inv.sui (I:Inv X pins σ H s) (a:Addr):Inv (X.sui a) pins σ H s :=
 ⟨⟨I.ok.mod,I.ok.kind,I.ok.glob,I.ok.blt,I.ok.above,I.ok.inj,I.ok.has,I.ok.cab,fun z=>(by cases z),I.ok.frames,I.ok.stk,I.ok.exf,I.ok.bs,I.ok.bsz,I.ok.noex,I.ok.exfs,I.ok.funs,I.ok.frf⟩,I.os,I.bare,I.base,I.loc,I.cell,I.free,I.freeC,I.pin,I.hok,I.len⟩
theorem Inv.unsui {a:Addr}(I:Inv (X.sui a) pins σ H s)(ok:X.Ok):Inv X pins σ H s:=⟨ok,I.os,I.bare,I.base,I.loc,I.cell,I.free,I.freeC,I.pin,I.hok,I.len⟩
theorem Inv.forgot {h':Heap}{m':Str->Option Value}{t':Nat}(I:Inv X [] σ H s)(O:OwnB X)(hn:h'.Ns X.env.locals m')(sb:Heap.SameBut X.env.locals s.heap h'):Inv X [] (List.replicate X.N.length none) H { s with heap:=h',toks:=t' }:=by
 refine ⟨I.ok,I.os,I.bare,⟨fun b o e n hb hx=>?_,fun b o e n hb hx=>?_,I.base.free,fun b o e hx=>?_,I.base.tups,I.base.frzs,I.base.tbls⟩,⟨m',hn,fun i x v e1 e2 _=>?_⟩,fun x c e=>?_,I.free,I.freeC,fun p hp=>?_,fun b u e=>?_,by simp⟩
 · exact (sb.2 b (Nat.ne_of_lt (Nat.lt_of_lt_of_le (Heap.lt_size e) I.ok.above))).trans (I.base.keep b o e n hb hx)
 · obtain ⟨sl,z⟩:=I.base.slot b o e n hb hx
   exact ⟨sl,(sb.2 b (Nat.ne_of_lt (Nat.lt_of_lt_of_le (Heap.lt_size e) I.ok.above))).trans z⟩
 · obtain ⟨o',z⟩:=I.base.there b o e hx
   exact ⟨o',(sb.2 b (Nat.ne_of_lt (Nat.lt_of_lt_of_le (Heap.lt_size e) I.ok.above))).trans z⟩
 · rw [List.getElem?_replicate] at e2
   split at e2 <;> cases e2
 · obtain ⟨v,z⟩:=I.cell x c e
   exact ⟨v,z.sameBut sb (I.cne x c e)⟩
 · rw [O.pn] at hp
   simp at hp
 · refine (I.hok b u e).stay (fun c v hc q=>(sb.2 c ?_).trans q) (fun _ q=>q) fun _ _ q=>q
   rintro rfl
   have fr:=I.free
   rcases hc with rfl|hc
   · rw [fr] at e;cases e
   · rw [fr] at hc;cases hc
end
def tTry (C:Addr)(i:Nat)(R:Int->Int->Prop)(tb th:TS):TS:=fun D σ H=>tb D σ H /\
 ∀ (σ':St) (H':Hp) (a dx:Addr) (k p:Int),R k p->σ'[i]?=some (some (.ref a))->H' a=some (xcA a C dx)->H' dx=some (xdA dx (ff k p))->th { nx:=fun _ _=>False,rt:=D.rt } σ' H'
theorem ps_try {X:Cx}{C N fI:Addr}{R:Int->Int->Prop}{x n:Str}{np hpos pos:Pos}{body suite:List Stmt}{b0:Stmt}{i:Nat}{tb th:TS}(O:OwnB X)(Z:ExcK X.K C N fI)(hg:Gl X x)(hm:X.mg x=some (.ref C))(hN:X.N.Nodup)(hi:X.N[i]?=some n)
  (hl:X.env.scope.names.lookup n=some .local)(hb:PSs (X.wish (XF X C (EE R))) body tb)(hh:∀ a,PSs (X.sui a) (b0::suite) th)(hdb:(x==("__debug__":Str))=false:=by decide) :
  PS0 X (.Try body [.ExceptHandler (some (.Name x np)) (some n) (b0::suite) hpos] [] [] pos) (tTry C i R tb th):=by
 rintro s σ H D I ⟨hq,hth⟩
 obtain ⟨oC,hC,hF⟩:=Z.cls
 refine wpAny_Try_except (wpAny_mono (hb [] s σ H D (I.wish _) hq) (fun f s1 q=>?_) fun e s1 z=>?_)
 · cases f with
   | next=>exact wpAny_execs_nil q.unwish
   | brk=>exact q.unwish
   | cont=>exact q.unwish
   | ret u=>exact q.unwish
 obtain ⟨σ1,H1,a,dx,t,k,p,⟨rfl,I1⟩,F1,hH,hfl,hx,hz⟩:=z
 obtain ⟨dx',k',p',e1,e2,hR⟩:=hz H1 dx hx
 cases e1
 refine note_x O I1 F1 hH hfl fun g T I2 F2 H2=>?_
 refine flight_x (v:=none) O I2 F2 H2 fun g2 I3 F3=>?_
 obtain ⟨vs3,⟨⟨oe3,ge3,⟨ce3,xe3⟩,de3⟩,_⟩,_⟩:=id F3
 obtain ⟨_,_,_,_,_,_,_,_,_,_,_,_,_,hF'⟩:=id hF
 refine wpAny_handleBy_cons (codeAny_handlers_test (ld_glob (X:=X.sui a) (I3.sui a) hg hm ?_ hdb)) (by intro z;cases z)
 refine wpAny_excMatches_sub_self (hF' ▸ I3.kIn _ _ hC) ge3 ce3 (by decide) (codeAny_handlers_suite_as ?_)
 have H3:∀ b∈recs a (some (T,(none:Option Addr).elim Value.none fun f=>rawInt f)),H1 b=none:=H2
 refine flight_x (v:=none) O I3 F3 H3 fun g4 I4 F4=>?_
 obtain ⟨vs4,⟨⟨oe4,ge4,⟨ce4,xe4⟩,de4⟩,z4⟩,_⟩:=id F4
 have nL:a≠X.env.locals:=by
  rintro rfl
  obtain ⟨m,⟨o',es,ep,ho',hd',_⟩,_⟩:=I4.loc
  rw [ho'] at ge4
  cases ge4
  rw [hd'] at de4
  cases de4
 have nC:∀ x c,X.env.cells.lookup x=some c->c≠a:=by
  rintro x c e rfl
  obtain ⟨v,o',ho',hd'⟩:=I4.cell x c e
  rw [ho'] at ge4
  cases ge4
  rw [hd'] at de4
  cases de4
 have nf:a∉X.fs:=fun z=>by
  obtain ⟨_,o',ho',hd'⟩:=I4.funs.mem z
  rw [ho'] at ge4
  cases ge4
  exact hd' _ de4
 have I5:Inv X [] σ1 (upd H1 a (xcA a C dx)) _:=I4.seen O z4 (hH a (List.mem_cons_self ..)) nL nC rfl nf (xcA_ok ge4 ce4 xe4 de4)
 have nd:dx≠a:=fun z=>by
  have:=hH a (List.mem_cons_self ..)
  rw [← z,hx] at this
  cases this
 refine store_ok (X:=X.sui a) (v:=V.ref a) (I5.sui a) hN hi (.inl hl) rfl (fun s6 I6=>?_) (.inr hl)
 have li:i < σ1.length:=by rw [I4.len];exact (List.getElem?_eq_some_iff.mp hi).1
 refine wpAny_mono (hh a [] s6 _ _ { nx:=fun _ _=>False,rt:=D.rt } I6 (hth _ _ a dx k' p' hR (List.getElem?_set_self li) upd_same (by rw [upd_ne nd];exact e2))) (fun f s7 z=>?_) fun _ _ z=>False.elim z
 cases f with
 | next=>obtain ⟨_,_,_,z⟩:=z;exact False.elim z
 | brk=>obtain ⟨_,_,_,z⟩:=z;exact False.elim z
 | cont=>obtain ⟨_,_,_,z⟩:=z;exact False.elim z
 | ret u =>
  obtain ⟨v,σ8,H8,I8,rv,z⟩:=z
  have I8:Inv X [] σ8 H8 s7:=I8.unsui I.ok
  obtain ⟨m,hn,_⟩:=id I8.loc
  refine wpAny_nameGoes hl hn (by rw [I.ok.kind];rfl) fun h' m' hn' sb=>?_
  exact ⟨v,_,H8,I8.forgot O hn' sb,rv,z⟩
end L2
namespace L2
open PySem PySem.Spec PyProof.Rows
section
variable {X:Cx}
theorem cr_sortedT:CallR X (.builtin "sorted") (fun xs H Q=>∃ (t:Addr) (ns:List Int),xs=[.ref t]/\SqT X.K H t (ns.map V.int)/\ns.length < 64 /\
  ∀ (ms:List Int) (p:Addr),ms.Perm ns->ms.Pairwise (·<=·)->H p=none->Q (.ref p) (upd H p (.lst (ms.map V.int)))):=by
 rintro pins s σ H xs us Q I r ⟨t,ns,rfl,ht,h64,q⟩
 rw [Vals.ref1 r]
 obtain ⟨its,rv,⟨o,ho,hc,n,hd⟩,hz⟩:=I.tuple ht
 have hi:=rv.ints
 have few:its.length < 64:=by rw [hi.length];exact h64
 have line:its.length<=sizeLine:=small64 few
 refine PySem.Calls.call_function_entry kind_sorted plain_sorted entry_sorted (args_sorted1 _) ?_
 show wpAny _ _ (checkCount "sorted" 1 1 1 >>= fun _=>collect (.ref t) >>= fun vs=>newList vs >>= fun l=>holding [l] (call (.builtin "list.sort") [l] []) >>= fun _=>ret l) _ _ _
 refine wpAny_bind (wpAny_pure (wpAny_bind (wpAny_collect_seq t (.inr rfl) ho hc hd (fun h1 k1=>wpAny_bind (wpAny_newList (wpAny_bind (wpAny_holding ?_)) ?_)) ?_)))
 ·
  have new:(h1.push { cls:=.type "list",data:=.seq its.toArray.toList.toArray }).get? h1.objs.size=some (seqObj "list" its.toArray 0):=Heap.get?_push_size h1 rfl
  refine wpAny_call_entry slot_list_sort ⟨_,new,rfl⟩ entry_list_sort (list_sort_tree new hi few fun out ms p1 p2 p3=>⟨.none,rfl,wpAny_pure ⟨_,rfl,?_⟩⟩) (args_list_sort _)
  have none0:s.heap.get? h1.objs.size=none:=by
   cases z:s.heap.get? h1.objs.size with
   | none=>rfl
   | some u=>exact absurd (Heap.lt_size (k1 _ _ z)) (Nat.lt_irrefl _)
  obtain ⟨ep,at_⟩:=sortedHeap_at (vs:=its) (out:=out) new
  have keep:∀ b u,s.heap.get? b=some u->(sortedHeap (h1.push { cls:=.type "list",data:=.seq its.toArray.toList.toArray }) h1.objs.size its out).get? b=some u:=fun b u e=>by
   have e1:=Heap.get?_push_of_some { cls:=.type "list",data:=.seq its.toArray.toList.toArray } (k1 b u e)
   rw [sortedHeap_old (fun z=>by rw [z,none0] at e;cases e) (Heap.lt_size e1)]
   exact e1
  have len:(ms.map V.int).length<=sizeLine:=by rw [List.length_map,p2.length_eq];exact small64 h64
  exact ⟨.ref _,upd H h1.objs.size (.lst (ms.map V.int)),I.grown (t':=s.toks) keep none0 ⟨len,out.toList,ep,vals_of_ints p1,at_⟩,rfl,q ms _ p2 p3 (I.hok.gone none0)⟩
 · simpa using line
 · simpa using line
end
end L2
namespace Bw
open PySem PySem.Spec PyProof.Rows L2
def Fn (P:Program)(w:World)(K:PySem.W.Frag)(mg:Str->Option Value)(base:Heap)(CX:CXT)(k:Nat)(x:Str)(ps:List Str)(sp:Sp):Prop :=
 ∃ (f:Addr) (fd:FuncData),mg x=some (.ref f)/\PySem.W.keepIn K (.ref f)=true/\Binds K fd ps []/\FnOk P w K mg base CX k f fd ps sp
def Dfn (K:PySem.W.Frag)(mg:Str->Option Value)(x:Str)(st:Stmt):Prop:=∃ (f:Addr) (fd:FuncData),mg x=some (.ref f)/\Fun K x x st f fd
section
variable {X:Cx}{CX:CXT}{k:Nat}{x:Str}{ps:List Str}{sp:Sp}{E:XK}{p pos:Pos}{e:Expr}{es:List Expr}{t:TA}
theorem pe_fn (F:Fn X.prog X.w X.K X.mg X.base CX k x ps sp) (hr:Room k X.A) (hx:Passes CX X E) (ha:PA X (e::es) t) (hg:Gl X x:=by rfl) (hdb:(x==("__debug__":Str))=false:=by decide) (he:starEach (e::es) X.env=(false,eval e X.env)::starEach es X.env:=by rfl) (hpl:(backTo pos (starEach es X.env)).any (·.1)=false:=by rfl) :
  PE X (.Call (.Name x p) (e::es) [] pos) (tCall sp [] E t):=by
 obtain ⟨f,fd,hm,hk,hb,F⟩:=F
 exact pe_call F hr hg hm hk hb .nil hx ha hdb he hpl
end
section
variable {P:Program}{w:World}{K:PySem.W.Frag}{mg:Str->Option Value}{base:Heap}
theorem Dfn.mk {CX:CXT} {x:Str} {st:Stmt} {ps:List Str} {k:Nat} {sp:Sp} (D:Dfn K mg x st)
  (hb:∀ (kV doc pm:Value) (an:Option Addr) (cdv ct:Value) (us:List Value),us.length=ps.length->bindArgs (PySem.W.fnOf x x (defArgs st) (defBody st) (defScope st) .none kV doc pm an cdv ct) ⟨us,[]⟩=pure (ps.zip us))
  (ok:∀ f fd,Fun K x x st f fd->FnOk P w K mg base CX k f fd ps sp):Fn P w K mg base CX k x ps sp:=by
 obtain ⟨f,fd,hm,F⟩:=D
 exact ⟨f,fd,hm,F.kp,F.binds hb,ok f fd F⟩
theorem Fn.mono {CX:CXT}{x:Str}{ps:List Str}{j k:Nat}{sp:Sp}(F:Fn P w K mg base CX j x ps sp)(h:j<=k):Fn P w K mg base CX k x ps sp:=by
 obtain ⟨f,fd,hm,hk,hb,F⟩:=F
 exact ⟨f,fd,hm,hk,hb,F.mono h⟩
end
def st (w:W):Str:=⟨w.toArray⟩
theorem tl_st (w:W):TL.tl (st w)=w:=rfl
theorem st_len (w:W):(st w).length=w.length:=by rw [TL.len_tl,tl_st]
theorem st_inj {v w:W}:st v=st w↔v=w:=⟨fun h=>by have:=congrArg TL.tl h;exact this,fun h=>by rw [h]⟩
theorem of_st {s:String}:Str.ofString s=st (cd s):=TL.ext_tl (by rw [TL.tl_ofString,tl_st];rfl)
def Gv (mg:Str->Option Value)(x:Str)(v:V):Prop:=∃ u,mg x=some u/\RelV v u
theorem pe_gv {X:Cx}{x:Str}{v:V}{pos:Pos}(h:Gv X.mg x v)(hg:Gl X x:=by rfl)(hd:(x==("__debug__":Str))=false:=by decide):PE X (.Name x pos) (tC v):=by
 obtain ⟨u,hm,r⟩:=h
 exact pe_glob hg hm r hd
end Bw
namespace L2
open PySem PySem.Spec PyProof.Rows
def Ev (t:TE)(σ:St)(H:Hp)(v:V):Prop:=∀ R:VK,R v H->t σ H R
def Tv (t:TT)(σ:St)(H:Hp)(b:Bool):Prop:=∀ R:Bool->Hp->Prop,R b H->t σ H R
section
variable {σ:St}{H:Hp}{ta tb tc te:TE}{t u:TT}{x y v:V}{i j k:Int}{b c:Bool}{K:PySem.W.Frag}{a p:Addr}{xs ys:List V}
theorem ev_var {n:Nat} (h:σ[n]?=some (some v)):Ev (tVar n) σ H v:=fun _ r=>⟨v,h,r⟩
theorem ev_c:Ev (tC v) σ H v:=fun _ r=>r
theorem ev_i {f:Int->Int->V}(ha:Ev ta σ H (.int i))(hb:Ev tb σ H (.int j)):Ev (tOp (rI0 f) ta tb) σ H (f i j):=fun _ r=>ha _ (hb _ ⟨i,j,rfl,rfl,r⟩)
theorem ev_ic {C:Int->Int->Prop}{f:Int->Int->V}(ha:Ev ta σ H (.int i))(hb:Ev tb σ H (.int j))(h:C i j):Ev (tOp (rI C f) ta tb) σ H (f i j):=fun _ r=>ha _ (hb _ ⟨i,j,rfl,rfl,h,r⟩)
theorem ev_eq (ha:Ev ta σ H x)(hb:Ev tb σ H y)(s:scal x y=true:=by rfl):Ev (tOp rEq ta tb) σ H (.bl (decide (x=y))):=fun _ r=>ha _ (hb _ ⟨s,r⟩)
theorem ev_ne (ha:Ev ta σ H x)(hb:Ev tb σ H y)(s:scal x y=true:=by rfl):Ev (tOp rNe ta tb) σ H (.bl (!decide (x=y))):=fun _ r=>ha _ (hb _ ⟨s,r⟩)
theorem ev_isN (ha:Ev ta σ H x):Ev (tOp (fun x y H Q=>y=.non/\Q (.bl (decide (x=.non))) H) ta (tC .non)) σ H (.bl (decide (x=.non))):=fun _ r=>ha _ ⟨rfl,r⟩
theorem ev_inS {n:Nat}{z:Str}(ha:Ev ta σ H (.str ⟨#[n]⟩))(hb:Ev tb σ H (.str z)):Ev (tOp (fun x y H Q=>∃ (c:Nat) (z:Str),x=.str ⟨#[c]⟩/\y=.str z/\Q (.bl (decide (c∈z.cps.toList))) H) ta tb) σ H (.bl (decide (n∈z.cps.toList))):=fun _ r=>ha _ (hb _ ⟨n,z,rfl,rfl,r⟩)
theorem ev_ninS {n:Nat}{z:Str}(ha:Ev ta σ H (.str ⟨#[n]⟩))(hb:Ev tb σ H (.str z)):Ev (tOp (fun x y H Q=>∃ (c:Nat) (z:Str),x=.str ⟨#[c]⟩/\y=.str z/\Q (.bl (!decide (c∈z.cps.toList))) H) ta tb) σ H (.bl (!decide (n∈z.cps.toList))):=fun _ r=>ha _ (hb _ ⟨n,z,rfl,rfl,r⟩)
theorem ev_in {neg:Bool}(ha:Ev ta σ H x)(hb:Ev tb σ H (.ref p))(s:SqL K H p xs∨SqT K H p xs)(f:flatV x=true)(fs:xs.all flatV=true):Ev (tOp (rIn K neg) ta tb) σ H (.bl (if neg then !inV x xs else inV x xs)):=fun _ r=>ha _ (hb _ ⟨p,xs,rfl,s,f,fs,r⟩)
theorem ev_ixS {z:Str}{n:Nat}(ha:Ev ta σ H (.str z))(hb:Ev tb σ H (.int i))(hz:z.length<=sizeLine)(e:atI z.cps.toList i=some n):Ev (tOp rIxS ta tb) σ H (.str ⟨#[n]⟩):=fun _ r=>ha _ (hb _ ⟨z,i,n,rfl,rfl,hz,e,r⟩)
theorem ev_ixL (ha:Ev ta σ H (.ref p))(hb:Ev tb σ H (.int i))(s:SqL K H p xs)(e:atI xs i=some v):Ev (tOp (rIxL K) ta tb) σ H v:=fun _ r=>ha _ (hb _ ⟨p,xs,i,v,rfl,rfl,s,e,r⟩)
theorem ev_ixT (ha:Ev ta σ H (.ref p))(hb:Ev tb σ H (.int i))(s:SqT K H p xs)(e:atI xs i=some v):Ev (tOp (rIxT K) ta tb) σ H v:=fun _ r=>ha _ (hb _ ⟨p,xs,i,v,rfl,rfl,s,e,r⟩)
theorem ev_fld {C dx:Addr}{fs:List (Str×V)}{f:Str}(ha:Ev ta σ H (.ref a))(e:H a=some (.ins C dx fs))(c:Cls K C)(n:NoAttr K C f)(l:fs.lookup f=some v):Ev (tFld K ta f) σ H v:=fun _ r=>ha _ ⟨a,C,dx,fs,v,rfl,e,c,n,l,r⟩
theorem ev_lenQ (ha:Ev ta σ H (.ref p))(s:SqL K H p xs∨SqT K H p xs):Ev (tCB (fun xs H Q=>∃ p ys,xs=[.ref p]/\(SqL K H p ys∨SqT K H p ys)/\Q (.int ys.length) H) (tCons ta tNil)) σ H (.int xs.length):=fun _ r=>ha _ ⟨p,xs,rfl,s,r⟩
theorem ev_lenS {z:Str}(ha:Ev ta σ H (.str z))(hz:z.length<=sizeLine):Ev (tCB (fun xs H Q=>∃ z,xs=[.str z]/\z.length<=sizeLine/\Q (.int z.length) H) (tCons ta tNil)) σ H (.int z.length):=fun _ r=>ha _ ⟨z,rfl,hz,r⟩
theorem ev_or (ha:Ev ta σ H (.bl b))(hb:b=false->Ev tb σ H (.bl c)):Ev (tOrV ta tb) σ H (.bl (b||c)):=fun R r=>ha _ ⟨b,rfl,by
 cases b with
 | false=>exact iteF (hb rfl _ r)
 | true=>exact iteT r⟩
theorem tv_test (h:Ev te σ H (.bl b)):Tv (tTest te) σ H b:=fun _ r=>h _ ⟨b,rfl,r⟩
theorem tv_b (h:Ev te σ H (.bl b)):Tv (tB te) σ H b:=fun _ r=>h _ ⟨b,rfl,r⟩
theorem ev_chain {p q:Int->Int->Bool}(ha:Ev ta σ H (.int i))(hb:Ev tb σ H (.int j))(hc:Ev tc σ H (.int k)):Ev (tChain (rI0 fun i j=>.bl (p i j)) (rI0 fun i j=>.bl (q i j)) ta tb tc) σ H (.bl (p i j&&q j k)):=fun R r=>ha _ (hb _ ⟨i,j,rfl,rfl,p i j,rfl,by
 cases h:p i j with
 | false=>rw [h] at r;exact iteF r
 | true=>rw [h] at r;exact iteT (hc _ ⟨j,k,rfl,rfl,r⟩)⟩)
theorem tv_chain {p q:Int->Int->Bool}(ha:Ev ta σ H (.int i))(hb:Ev tb σ H (.int j))(hc:Ev tc σ H (.int k)):Tv (tTest (tChain (rI0 fun i j=>.bl (p i j)) (rI0 fun i j=>.bl (q i j)) ta tb tc)) σ H (p i j&&q j k):=tv_test (ev_chain ha hb hc)
theorem tv_i {p:Int->Int->Bool}(ha:Ev ta σ H (.int i))(hb:Ev tb σ H (.int j)):Tv (tTest (tOp (rI0 fun i j=>.bl (p i j)) ta tb)) σ H (p i j):=fun _ r=>ha _ (hb _ ⟨i,j,rfl,rfl,_,rfl,r⟩)
theorem tv_not (h:Tv t σ H b):Tv (tNot t) σ H (!b):=fun _ r=>h _ r
theorem tv_and (h:Tv t σ H b)(h2:b=true->Tv u σ H c):Tv (tAnd t u) σ H (b&&c):=fun R r=>h _ (by
 cases b with
 | false=>exact iteF r
 | true=>exact iteT (h2 rfl _ r))
theorem tv_or (h:Tv t σ H b)(h2:b=false->Tv u σ H c):Tv (tOr t u) σ H (b||c):=fun R r=>h _ (by
 cases b with
 | false=>exact iteF (h2 rfl _ r)
 | true=>exact iteT r)
theorem ev_neg (ha:Ev ta σ H (.int i)):Ev (tUn (rU fun i=>.int (-i)) ta) σ H (.int (-i)):=fun _ r=>ha _ ⟨i,rfl,r⟩
theorem ev_m0 {z:Str}{r:V->List V->Hp->VK->Prop}(ha:Ev ta σ H (.str z))(h:∀ R,R v H->r (.str z) [] H R):Ev (tM0 r ta) σ H v:=fun R q=>ha _ ⟨⟨z,rfl⟩,h R q⟩
theorem rd_if {D:Ends}{s1 s2:TS}(h:Tv t σ H b)(q1:b=true->s1 D σ H)(q2:b=false->s2 D σ H):tIfS t s1 s2 D σ H:=h _ (by
 cases b with
 | false=>exact iteF (q2 rfl)
 | true=>exact iteT (q1 rfl))
theorem rd_ret {D:Ends}(h:Ev te σ H v)(q:D.rt v H):tRet te D σ H:=h _ q
theorem rd_set {D:Ends}{n:Nat}(h:Ev te σ H v)(q:D.nx (σ.set n (some v)) H):tAsg te (gName n) D σ H:=h _ q
end
theorem Same.laid {H H':Hp}{p:Addr}{o:HO}(e:Same H H')(h:H p=none):Same H (upd H' p o):=fun b u q=>by
 rw [upd_ne (ne_of_none q h)]
 exact e b u q
section
variable {σ:St}{H:Hp}{ta tb tc:TE}{i j c:Int}
theorem rd_rng3 {n:Nat} {R:It->Hp->Prop} (ha:Ev ta σ H (.int i)) (hb:Ev tb σ H (.int j)) (hc:Ev tc σ H (.int c)) (rg:RgC i j c n) (q:R (Itc i c n) H):iRng3 (tCons ta (tCons tb (tCons tc tNil))) σ H R:=ha _ (hb _ (hc _ ⟨i,j,c,n,rfl,rg,q⟩))
theorem rd_rng2 {R:It->Hp->Prop}(ha:Ev ta σ H (.int i))(hb:Ev tb σ H (.int j))(rg:-(2 ^ 62)<=i/\i < 2 ^ 62/\-(2 ^ 62)<=j/\j < 2 ^ 62)(q:R (Itr i (j - i).toNat) H):iRng2 (tCons ta (tCons tb tNil)) σ H R:=ha _ (hb _ ⟨i,j,rfl,rg,q⟩)
theorem rd_rng1 {R:It->Hp->Prop}(ha:Ev ta σ H (.int j))(h1:-(2 ^ 62)<=j)(h2:j < 2 ^ 62)(q:R (Itr 0 j.toNat) H):iRng1 (tCons ta tNil) σ H R:=ha _ ⟨j,rfl,h1,h2,q⟩
theorem rd_for {wi:TI}{g:TG}{tb:TS}{D:Ends}(h:wi σ H fun J H1=>∃ W:Nat->Nat->St->Hp->Prop,(∃ m,W 0 m σ H1)/\∀ i m σ H,W i m σ H ->
  (J.stop i H/\D.nx σ H)∨(J.go i H/\∃ N:St->Hp->Prop,(∀ σ' H',N σ' H'->∃ m',m' < m/\W (i+1) m' σ' H')/\∀ x H',J.yld i H x H'->g x σ H' fun σ2 H2=>tb { D with nx:=N,ct:=N,bk:=D.nx } σ2 H2)):tFor wi g tb D σ H:=h
end
theorem lc_str {z:Str}{g:TG}{tt:TT}{te:TE}{vs:List Nat}{σ:St}{H1:Hp}{D:Addr}{Qd:Hp->Prop}(Pv:Nat->Hp->Prop)(h0:Pv 0 (upd H1 D (.lst [])))
  (hs:∀ i c H,z.cps.toList[i]?=some c->Pv i H->g (.str ⟨#[c]⟩) (wipe σ vs) H fun σ2 H2=>wipe σ2 vs=wipe σ vs/\tt σ2 H2 fun b H3 =>
   if b=true then te σ2 H3 fun y H4=>∃ acc,H4 D=some (.lst acc)/\acc.length < sizeLine/\Pv (i+1) (upd H4 D (.lst (acc++[y]))) else Pv (i+1) H3) (hd:∀ H,Pv z.cps.toList.length H->Qd H) :
  ∃ W:Nat->Nat->Hp->Prop,(∃ m,W 0 m (upd H1 D (.lst [])))/\∀ i m H,W i m H ->
   ((Its z).stop i H/\Qd H)∨((Its z).go i H/\∃ Nx:Hp->Prop,(∀ H',Nx H'->∃ m',m' < m/\W (i+1) m' H')/\∀ x H',(Its z).yld i H x H'->g x (wipe σ vs) H' fun σ2 H2=>wipe σ2 vs=wipe σ vs/\tt σ2 H2 fun b H3 =>
    if b=true then te σ2 H3 fun y H4=>∃ acc,H4 D=some (.lst acc)/\acc.length < sizeLine/\Nx (upd H4 D (.lst (acc++[y]))) else Nx H3):=by
 have sz:z.cps.toList.length=z.cps.size:=Array.length_toList
 refine ⟨fun i m H=>m=z.cps.size - i/\i<=z.cps.size/\Pv i H,⟨z.cps.size,by simp,Nat.zero_le _,h0⟩,?_⟩
 rintro i m H ⟨rfl,hi,p⟩
 by_cases hlt:i < z.cps.size
 · refine .inr ⟨hlt,Pv (i+1),fun H' p'=>⟨z.cps.size - (i+1),by omega,rfl,hlt,p'⟩,fun x H' y=>?_⟩
   obtain ⟨e,c,hc,rfl⟩:=y
   subst e
   exact hs i c _ (by rw [Array.getElem?_toList];exact hc) p
 · have e:i=z.cps.size:=by omega
   subst e
   exact .inl ⟨Nat.le_refl _,hd H (by rw [sz];exact p)⟩
end L2
namespace Bw
open PySem PySem.Spec PyProof.Rows L2
abbrev letS:Str:=Str.ofString "abcdefghijklmnopqrstuvwxyz"
abbrev digS:Str:=Str.ofString "0123456789"
structure GW (mg:Str->Option Value):Prop where
 letters:Gv mg "LETTERS" (.str letS)
 digits:Gv mg "DIGITS" (.str digS)
 most:Gv mg "MOST_NAME" (.int 12)
 mostD:Gv mg "MOST_DIGITS" (.int 7)
 len:mg "len"=none
 all:mg "all"=none
 int:mg "int"=none
theorem let_tl:TL.tl letS=(List.range 26).map (·+97):=by rw [TL.tl_ofString];decide +kernel
theorem dig_tl:TL.tl digS=(List.range 10).map (·+48):=by rw [TL.tl_ofString];decide +kernel
theorem let_at {c:Nat}(h1:97<=c)(h2:c<=122):atI (letS.cps.toList) ((c:Int) - 97)=some c:=by
 have e:((c:Int) - 97)=((c - 97:Nat):Int):=by omega
 rw [e]
 refine atI_nat ?_
 have q:letS.cps.toList=(List.range 26).map (·+97):=let_tl
 rw [q,List.getElem?_map,List.getElem?_range (by omega)]
 simp
 omega
theorem dig_at {c:Nat}(h1:48<=c)(h2:c<=57):atI (digS.cps.toList) ((c:Int) - 48)=some c:=by
 have e:((c:Int) - 48)=((c - 48:Nat):Int):=by omega
 rw [e]
 refine atI_nat ?_
 have q:digS.cps.toList=(List.range 10).map (·+48):=dig_tl
 rw [q,List.getElem?_map,List.getElem?_range (by omega)]
 simp
 omega
theorem let_in (c:Nat):decide (c∈letS.cps.toList)=isLet c:=by
 have q:letS.cps.toList=(List.range 26).map (·+97):=let_tl
 rw [q,Bool.eq_iff_iff]
 unfold isLet
 simp only [decide_eq_true_eq,Bool.and_eq_true,List.mem_map,List.mem_range]
 constructor
 · rintro ⟨x,hx,rfl⟩
   omega
 · rintro ⟨h1,h2⟩
   exact ⟨c - 97,by omega,by omega⟩
theorem dig_in (c:Nat):decide (c∈digS.cps.toList)=isDig c:=by
 have q:digS.cps.toList=(List.range 10).map (·+48):=dig_tl
 rw [q,Bool.eq_iff_iff]
 unfold isDig
 simp only [decide_eq_true_eq,Bool.and_eq_true,List.mem_map,List.mem_range]
 constructor
 · rintro ⟨x,hx,rfl⟩
   omega
 · rintro ⟨h1,h2⟩
   exact ⟨c - 48,by omega,by omega⟩
def spSign:Sp:=fun vs H Q _=>∃ c:Nat,vs=[.int c]/\Q (.str (st [sg c])) H
theorem sg_let' {c:Nat}(h:97<=c/\c<=122):sg c=c:=by unfold sg okS isLet;simp [h]
theorem sg_dig' {c:Nat}(h:48<=c/\c<=57):sg c=c:=by unfold sg okS isDig;simp [h]
theorem sg_no {c:Nat}(h1:¬ (97<=c/\c<=122))(h2:¬ (48<=c/\c<=57))(h3:c≠32)(h4:c≠10)(h5:c≠44)(h6:c≠47):sg c=63:=by
 unfold sg okS isLet isDig
 have e1:(decide (97<=c)&&decide (c<=122))=false:=by simp;omega
 have e2:(decide (48<=c)&&decide (c<=57))=false:=by simp;omega
 rw [e1,e2]
 simp [h3,h4,h5,h6]
section
variable {P:Program}{w:World}{K:PySem.W.Frag}{mg:Str->Option Value}{base:Heap}
theorem sc_sign:FnScope ["code"] ["code"] (defScope f_sign_of):=⟨rfl,rfl,rfl,by decide +kernel,rfl,by decide +kernel,by decide +kernel⟩
theorem ok_sign (G:GW mg){f:Addr}{fd:FuncData}(F:Fun K "sign_of" "sign_of" f_sign_of f fd):FnOk P w K mg base CX0 1 f fd ["code"] spSign:=by
 refine F.ok sc_sign (fun vs H Q E h=>?_) (fun cdv A outer s H vs Q E hr h=>?_)
 · obtain ⟨c,rfl,_⟩:=h
   rfl
 · obtain ⟨c,rfl,q⟩:=h
   refine ⟨_,pss_cons (ps_if (pt_chain op_le op_le pe_int (pv 0) pe_int) (pss_one (ps_ret (pe_ix ix_str (pe_gv G.letters) (pe_op op_sub (pv 0) pe_int) (fun _ _=>rfl)))) pss_nil)
    (pss_cons (ps_if (pt_chain op_le op_le pe_int (pv 0) pe_int) (pss_one (ps_ret (pe_ix ix_str (pe_gv G.digits) (pe_op op_sub (pv 0) pe_int) (fun _ _=>rfl)))) pss_nil)
    (pss_cons (ps_if (pt_cmpR op_eq (pv 0) pe_int (nomark _)) (pss_one (ps_ret pe_str)) pss_nil)
    (pss_cons (ps_if (pt_cmpR op_eq (pv 0) pe_int (nomark _)) (pss_one (ps_ret pe_str)) pss_nil)
    (pss_cons (ps_if (pt_cmpR op_eq (pv 0) pe_int (nomark _)) (pss_one (ps_ret pe_str)) pss_nil)
    (pss_cons (ps_if (pt_cmpR op_eq (pv 0) pe_int (nomark _)) (pss_one (ps_ret pe_str)) pss_nil)
    (pss_one (ps_ret pe_str))))))),?_⟩
   refine rd_if (tv_chain ev_c (ev_var rfl) ev_c) (fun h=>?_) (fun h1=>?_)
   · simp only [Bool.and_eq_true,decide_eq_true_eq] at h
     refine rd_ret (ev_ixS ev_c (ev_i (ev_var rfl) ev_c) (by decide +kernel) (let_at (c:=c) (by omega) (by omega))) ?_
     rw [sg_let' (by omega)] at q
     exact q
   refine rd_if (tv_chain ev_c (ev_var rfl) ev_c) (fun h=>?_) (fun h2=>?_)
   · simp only [Bool.and_eq_true,decide_eq_true_eq] at h
     refine rd_ret (ev_ixS ev_c (ev_i (ev_var rfl) ev_c) (by decide +kernel) (dig_at (c:=c) (by omega) (by omega))) ?_
     rw [sg_dig' (by omega)] at q
     exact q
   have step:∀ (n:Nat) (b:Bool),b=decide (V.int (c:Int)=V.int (n:Int))->(b=true->c=n)/\(b=false->c≠n):=fun n b e=>by
    rw [dec_int] at e
    subst e
    constructor
    · intro z
      have:=eq_of_beq z
      omega
    · intro z z2
      subst z2
      simp at z
   refine rd_if (tv_test (ev_eq (ev_var rfl) ev_c)) (fun h=>?_) (fun h3=>?_)
   · have e:=(step 32 _ rfl).1 h
     subst e
     exact rd_ret ev_c q
   refine rd_if (tv_test (ev_eq (ev_var rfl) ev_c)) (fun h=>?_) (fun h4=>?_)
   · have e:=(step 10 _ rfl).1 h
     subst e
     exact rd_ret ev_c q
   refine rd_if (tv_test (ev_eq (ev_var rfl) ev_c)) (fun h=>?_) (fun h5=>?_)
   · have e:=(step 44 _ rfl).1 h
     subst e
     exact rd_ret ev_c q
   refine rd_if (tv_test (ev_eq (ev_var rfl) ev_c)) (fun h=>?_) (fun h6=>?_)
   · have e:=(step 47 _ rfl).1 h
     subst e
     exact rd_ret ev_c q
   rw [sg_no (fun z=>by simp at h1;omega) (fun z=>by simp at h2;omega) ((step 32 _ rfl).2 h3) ((step 10 _ rfl).2 h4) ((step 44 _ rfl).2 h5) ((step 47 _ rfl).2 h6)] at q
   exact q
def spText (K:PySem.W.Frag):Sp:=fun vs H Q _=>∃ (a:Addr) (cs:List Nat),vs=[.ref a]/\SqL K H a (cs.map fun c=>V.int (c:Nat))/\cs.length<=70000/\∀ H',Same H H'->Q (.str (st (cs.map sg))) H'
theorem take_snoc {α:Type}{l:List α}{i:Nat}{x:α}(h:l[i]?=some x):l.take (i+1)=l.take i++[x]:=by
 rw [List.take_add_one,h]
 rfl
theorem join_signs (l:List Nat):Txt.join (Str.ofString "") (l.map fun c=>st [c])=st l:=by
 rw [TL.join_eq]
 refine TL.ext_tl ?_
 rw [TL.tl_join,TL.tl_ofString,tl_st]
 show TL.joinL [] ((l.map fun c=>st [c]).map TL.tl)=l
 rw [List.map_map]
 induction l with
 | nil=>rfl
 | cons c l ih =>
  cases l with
  | nil=>rfl
  | cons d l =>
   have ih:TL.joinL [] ((d::l).map (TL.tl ∘ fun c=>st [c]))=d::l:=ih
   show [c]++([]++TL.joinL [] ((d::l).map (TL.tl ∘ fun c=>st [c])))=c::d::l
   rw [ih]
   rfl
theorem sc_text:FnScope ["codes","code"] ["codes"] (defScope f_text_of):=⟨rfl,rfl,rfl,by decide +kernel,rfl,by decide +kernel,by decide +kernel⟩
theorem ok_text {k:Nat}(FS:Fn P w K mg base CX0 k "sign_of" ["code"] spSign){f:Addr}{fd:FuncData}(F:Fun K "text_of" "text_of" f_text_of f fd):FnOk P w K mg base CX0 (k+1) f fd ["codes"] (spText K):=by
 refine F.ok sc_text (fun vs H Q E h=>?_) (fun cdv A outer s H vs Q E hr h=>?_)
 · obtain ⟨a,cs,rfl,_⟩:=h
   rfl
 · obtain ⟨a,cs,rfl,hS,hl,q⟩:=h
   refine ⟨_,pss_one (ps_ret (pe_join pe_str (pe_lc rfl sc_text.nd (pi_list (pv 0)) (blkOk_by (own:=[("code",1)]) rfl) (fun _ _ _ _ _=>pg_name (i:=1) sc_text.nd rfl (Or.inl rfl)) (fun _ _ _ _ _=>pts_nil)
    (fun _ _ _ _ _=>pe_fn FS hr pass0 (pa_cons (pv 1) pa_nil))))),?_⟩
   refine ⟨⟨_,rfl⟩,_,rfl,a,rfl,⟨_,hS⟩,fun D hD=>lc_list (K:=K) (a:=a) (xs:=cs.map fun c=>V.int (c:Nat)) (fun i H'=>Same H H'/\H' D=some (.lst ((cs.take i).map fun c=>V.str (st [sg c]))))
    ⟨(Same.refl H).laid hD,upd_same⟩ (fun i H' _ h=>h.1.seq hS) ?_ ?_⟩
   · rintro i x H' hi ⟨h1,h2⟩
     rw [List.getElem?_map] at hi
     obtain ⟨c,hc,rfl⟩:=Option.map_eq_some_iff.mp hi
     refine ⟨rfl,_,rfl,c,rfl,_,h2,?_,?_⟩
     · rw [List.length_map,List.length_take,sizeLine_eq]
       omega
     · refine ⟨fun b u z=>?_,?_⟩
       · rw [upd_ne (ne_of_none z hD)]
         exact h1 b u z
       · rw [upd_same,take_snoc hc,List.map_append]
         rfl
   · rintro H' ⟨h1,h2⟩
     rw [List.length_map,List.take_length] at h2
     refine ⟨_,D,(cs.map sg).map (fun c=>st [c]),rfl,rfl,.inl (SqL.of ?_),?_,?_⟩
     · rw [h2,List.map_map,List.map_map]
       rfl
     · have e:(((cs.map sg).map (fun c=>st [c])).map (·.length)).sum=cs.length:=by
        rw [List.map_map,List.map_map]
        clear h2 hS q hl
        induction cs with
        | nil=>rfl
        | cons c cs ih =>
         rw [List.map_cons,List.sum_cons,ih,List.length_cons]
         show 1+cs.length=_
         omega
       have e2:(Str.ofString "").length=0:=by decide +kernel
       rw [e,e2]
       omega
     · rw [join_signs]
       exact q H' h1
def spIsName:Sp:=fun vs H Q _=>∃ wd:W,vs=[.str (st wd)]/\wd.length<=70000/\∀ H',Same H H'->Q (.bl (nameM wd)) H'
theorem head_at {wd:W}(h:wd≠[]):atI (st wd).cps.toList ((0:Int))=some (wd.headD 0):=by
 refine atI_nat (j:=0) ?_
 show wd[0]?=some (wd.headD 0)
 cases wd with
 | nil=>exact absurd rfl h
 | cons c r=>rfl
theorem sc_isname:FnScope ["word","sign"] ["word"] (defScope f_is_name):=⟨rfl,rfl,rfl,by decide +kernel,rfl,by decide +kernel,by decide +kernel⟩
theorem ok_isname (G:GW mg){f:Addr}{fd:FuncData}(F:Fun K "is_name" "is_name" f_is_name f fd):FnOk P w K mg base CX0 1 f fd ["word"] spIsName:=by
 refine F.ok sc_isname (fun vs H Q E h=>?_) (fun cdv A outer s H vs Q E hr h=>?_)
 · obtain ⟨a,rfl,_⟩:=h
   rfl
 · obtain ⟨wd,rfl,hl,q⟩:=h
   have hz:(st wd).length<=sizeLine:=by rw [st_len,sizeLine_eq];omega
   refine ⟨_,pss_cons (ps_if (PW.pt (pw_or (pt_not (pt_chain op_le op_le pe_int (pe_callB call_len_str (by rfl) G.len PySem.boot_len (pa_cons (pv 0) pa_nil)) (pe_gv G.most)))
     (pw_or1 (pt_cmpR op_notIn_sign (pe_ix ix_str (pv 0) pe_int (fun _ _=>rfl)) (pe_gv G.letters) (by with_unfolding_all rfl))))) (pss_one (ps_ret pe_bl)) pss_nil)
    (pss_one (ps_ret (pe_callB (cr_all rfl) (by rfl) G.all PyProof.Rows.boot_all (pa_cons (pe_lc rfl sc_isname.nd (pi_str (pv 0)) (blkOk_by (own:=[("sign",1)]) rfl) (fun _ _ _ _ _=>pg_name (i:=1) sc_isname.nd rfl (Or.inl rfl)) (fun _ _ _ _ _=>pts_nil)
     (fun _ _ _ _ _=>pe_or (pe_cmpR op_in_sign (pv 1) (pe_gv G.letters) (by with_unfolding_all rfl)) (pe_one (pe_cmpR op_in_sign (pv 1) (pe_gv G.digits) (by with_unfolding_all rfl))))) pa_nil)))),?_⟩
   refine rd_if (tv_or (tv_not (tv_chain ev_c (ev_lenS (ev_var rfl) hz) ev_c)) fun h0=>tv_test (ev_ninS (ev_ixS (ev_var rfl) ev_c hz (head_at ?_)) ev_c)) (fun h=>?_) (fun h=>?_)
   · rintro rfl
     simp at h0
     rw [st_len] at h0
     simp at h0
   · rw [let_in] at h
     refine rd_ret ev_c ?_
     have e:nameM wd=false:=by
      unfold nameM
      rw [st_len] at h
      simp only [Bool.or_eq_true,Bool.not_eq_true',Bool.and_eq_false_iff,decide_eq_false_iff_not] at h
      rcases h with (h|h)|h
      · have:¬ 1<=wd.length:=fun z=>h (by omega)
        simp [this]
      · have:¬ wd.length<=12:=fun z=>h (by omega)
        simp [this]
      · rw [h]
        simp
     rw [← e]
     exact q H (Same.refl H)
   · rw [let_in,st_len] at h
     simp only [Bool.or_eq_false_iff,Bool.not_eq_false',Bool.and_eq_true,decide_eq_true_eq] at h
     obtain ⟨⟨h1,h2⟩,h3⟩:=h
     have e:nameM wd=wd.all fun c=>isLet c||isDig c:=by
      unfold nameM
      have z1:decide (1<=wd.length)=true:=decide_eq_true (by omega)
      have z2:decide (wd.length<=12)=true:=decide_eq_true (by omega)
      rw [z1,z2,h3]
      simp
     refine ⟨_,rfl,_,rfl,fun D hD=>lc_str (z:=st wd) (fun i H'=>Same H H'/\H' D=some (.lst ((wd.take i).map fun c=>V.bl (isLet c||isDig c)))) ⟨(Same.refl H).laid hD,upd_same⟩ ?_ ?_⟩
     · rintro i c H' hi ⟨k1,k2⟩
       have hi:wd[i]?=some c:=hi
       refine ⟨rfl,?_⟩
       refine (ev_or (ev_inS (ev_var rfl) ev_c) fun _=>ev_inS (ev_var rfl) ev_c) _ ⟨_,k2,?_,?_⟩
       · rw [List.length_map,List.length_take,sizeLine_eq]
         omega
       · rw [let_in,dig_in]
         refine ⟨fun b u z=>?_,?_⟩
         · rw [upd_ne (ne_of_none z hD)]
           exact k1 b u z
         · rw [upd_same,take_snoc hi,List.map_append]
           rfl
     · rintro H' ⟨k1,k2⟩
       have k2:H' D=some (.lst ((wd.take wd.length).map fun c=>V.bl (isLet c||isDig c))):=k2
       rw [List.take_length] at k2
       refine ⟨D,wd.map fun c=>isLet c||isDig c,rfl,SqL.of (by rw [k2,List.map_map];rfl),?_⟩
       have e2:((wd.map fun c=>isLet c||isDig c).all id)=nameM wd:=by rw [e,List.all_map];rfl
       rw [e2]
       exact q H' k1
def spNum:Sp:=fun vs H Q _=>∃ wd:W,vs=[.str (st wd)]/\wd.length<=70000/\(∀ c∈wd,c < 128)/\Q (.int (numM wd)) H
theorem dig_asc:∀ c:Nat,c < 128->Unicode.isDigit c=isDig c:=by decide +kernel
theorem isdigit_eq {wd:W}(h:∀ c∈wd,c < 128):Txt.isdigit (st wd)=(!wd.isEmpty&&wd.all isDig):=by
 unfold Txt.isdigit
 have e:(st wd).cps.all Unicode.isDigit=wd.all isDig:=by
  show wd.toArray.all Unicode.isDigit=_
  rw [List.all_toArray,Bool.eq_iff_iff,List.all_eq_true,List.all_eq_true]
  exact ⟨fun z c hc=>by rw [← dig_asc c (h c hc)];exact z c hc,fun z c hc=>by rw [dig_asc c (h c hc)];exact z c hc⟩
 rw [e,st_len]
 cases wd with
 | nil=>rfl
 | cons c r=>simp
theorem digits_val (wd:W):NumText.digitsVal wd=valD wd:=by
 unfold NumText.digitsVal valD
 congr 1
 funext n c
 omega
theorem int_eq {wd:W}(h0:wd≠[])(h1:wd.all isDig=true)(h2:wd.length<=7):intText? (st wd)=some ((valD wd:Nat):Int):=by
 rw [← digits_val]
 refine intText_digits (x:=st wd) (fun c hc=>?_) h0 (by rw [st_len];omega)
 have:=List.all_eq_true.mp h1 c hc
 unfold isDig at this
 simpa using this
theorem sc_num:FnScope ["word"] ["word"] (defScope f_number_of):=⟨rfl,rfl,rfl,by decide +kernel,rfl,by decide +kernel,by decide +kernel⟩
theorem ok_num (G:GW mg){f:Addr}{fd:FuncData}(F:Fun K "number_of" "number_of" f_number_of f fd):FnOk P w K mg base CX0 1 f fd ["word"] spNum:=by
 refine F.ok sc_num (fun vs H Q E h=>?_) (fun cdv A outer s H vs Q E hr h=>?_)
 · obtain ⟨a,rfl,_⟩:=h
   rfl
 · obtain ⟨wd,rfl,hl,ha,q⟩:=h
   have hz:(st wd).length<=sizeLine:=by rw [st_len,sizeLine_eq];omega
   refine ⟨_,pss_cons (ps_if (PW.pt (pw_or (pt_cmpR op_gt (pe_callB call_len_str (by rfl) G.len PySem.boot_len (pa_cons (pv 0) pa_nil)) (pe_gv G.mostD) (nomark _)) (pw_or1 (pt_not (pt_val (pe_m0 PySem.F.slot_str_isdigit PySem.F.type_str_isdigit mt_isdigit (pv 0))))))) (pss_one (ps_ret (pe_un un_neg pe_int))) pss_nil)
    (pss_cons (ps_if (PW.pt (pw_and (pt_cmpR op_eq (pe_ix ix_str (pv 0) pe_int (fun _ _=>rfl)) pe_str (nomark _)) (pw_and1 (pt_cmpR op_ne (pv 0) pe_str (nomark _))))) (pss_one (ps_ret (pe_un un_neg pe_int))) pss_nil)
    (pss_one (ps_ret (pe_callTy call_int_str (by rfl) G.int PyProof.Rows.boot_int (pa_cons (pv 0) pa_nil))))),?_⟩
   refine rd_if (tv_or (tv_test (ev_i (ev_lenS (ev_var rfl) hz) ev_c)) fun h0=>tv_not (tv_b (ev_m0 (ev_var rfl) fun R r=>⟨_,rfl,rfl,trivial,r⟩))) (fun h=>?_) (fun h=>?_)
   · refine rd_ret (ev_neg ev_c) ?_
     have e:numM wd=-1:=by
      unfold numM
      rw [if_pos]
      rw [isdigit_eq ha,st_len] at h
      simp only [Bool.or_eq_true,Bool.not_eq_true',Bool.and_eq_false_iff,decide_eq_true_eq] at h
      rcases h with h|h|h
      · exact .inl (by omega)
      · exact .inr (.inl (by cases wd with|nil=>rfl|cons c r=>simp at h))
      · exact .inr (.inr h)
     rw [e] at q
     exact q
   · rw [isdigit_eq ha,st_len] at h
     simp only [Bool.or_eq_false_iff,Bool.not_eq_false',Bool.and_eq_true,decide_eq_false_iff_not] at h
     obtain ⟨h1,h2,h3⟩:=h
     have hne:wd≠[]:=by rintro rfl;simp at h2
     have e0:numM wd=if wd.headD 0=48/\wd≠[48] then -1 else (valD wd:Int):=by
      unfold numM
      rw [if_neg]
      rintro (z|z|z)
      · exact h1 (by omega)
      · exact hne z
      · rw [h3] at z;cases z
     refine rd_if (tv_and (tv_test (ev_eq (ev_ixS (ev_var rfl) ev_c hz (head_at hne)) ev_c)) fun h0=>tv_test (ev_ne (ev_var rfl) ev_c)) (fun h=>?_) (fun h=>?_)
     · refine rd_ret (ev_neg ev_c) ?_
       rw [if_pos] at e0
       · rw [e0] at q
         exact q
       · simp only [Bool.and_eq_true,decide_eq_true_eq,Bool.not_eq_true',decide_eq_false_iff_not] at h
         refine ⟨?_,fun z=>h.2 ?_⟩
         · have:=h.1
           injection this with this
           have:=congrArg TL.tl this
           have:[wd.headD 0]=[48]:=this
           injection this
         · rw [z]
           rfl
     · rw [if_neg] at e0
       · rw [e0] at q
         exact ⟨_,rfl,_,_,rfl,int_eq hne h3 (by omega),by rw [st_len];omega,q⟩
       · rintro ⟨z1,z2⟩
         simp only [Bool.and_eq_false_iff,decide_eq_false_iff_not,Bool.not_eq_false',decide_eq_true_eq] at h
         rcases h with h|h
         · exact h (by rw [z1];rfl)
         · injection h with h
           have h:=congrArg TL.tl h
           exact z2 h
end
end Bw
namespace L2
open PySem PySem.Spec PyProof.Rows
structure DictK (P:Program)(w:World)(K:PySem.W.Frag)(d:Addr)(vs:List (Key×Value)):Prop where
 dd:∀ h:Heap,K.In h->h.DictOf (mixKind P w) d vs
 ne:(d==sysModules)=false
section
variable {X:Cx}{d:Addr}{vs:List (Key×Value)}{o i:Expr}{td ty:TE}{pos:Pos}
def tDGetK (d:Addr) (vs:List (Key×Value)) (td ty:TE):TE:=fun σ H Q=>td σ H fun x H1=>ty σ H1 fun y H2=>∃ k v u,x=.ref d/\y=kV k/\valueAt vs k=some u/\RelV v u/\Q v H2
def tDInK (d:Addr)(vs:List (Key×Value))(ty td:TE):TE:=fun σ H Q=>ty σ H fun y H1=>td σ H1 fun x H2=>∃ k,x=.ref d/\y=kV k/\Q (.bl (valueAt vs k).isSome) H2
theorem pe_dgetK (D:DictK X.prog X.w X.K d vs)(ho:PE X o td)(hi:PE X i ty)(hs:NoSl i):PE X (.Subscript o i pos) (tDGetK d vs td ty):=by
 intro pins s σ H Q I h
 refine subD_of PySem.F.slot_dict_getitem.lookup hs (thn (ho pins s σ H _ I h) fun u s1 ⟨x,H1,I1,rx,q1⟩=>thn (hi pins s1 σ H1 _ I1 q1) fun iv s2 ⟨y,H2,I2,ry,k,v,u',ex,ey,hv,rv,q2⟩=>?_)
 subst ex ey
 obtain rfl:u=Value.ref d:=rx
 have dd:=D.dd s2.heap I2.kIn
 obtain ⟨ob,es,ep,e1,e2,_⟩:=id dd
 exact ⟨⟨ob,e1,e2.1⟩,wpAny_getItem_of (kV_is ry) dd.mapOf hv ⟨v,H2,I2.tok _,rv,q2⟩⟩
theorem pc_dinK (D:DictK X.prog X.w X.K d vs)(hi:PE X i ty)(ho:PE X o td):PC X .In i o (tDInK d vs ty td):=by
 intro pins s σ H Q I h
 refine thn (hi pins s σ H _ I h) fun iv s1 ⟨y,H1,I1,ry,q1⟩=>thn (ho pins s1 σ H1 _ I1 q1) fun u s2 ⟨x,H2,I2,rx,k,ex,ey,q2⟩=>?_
 subst ex ey
 obtain rfl:u=Value.ref d:=rx
 have dd:=D.dd s2.heap I2.kIn
 exact wpAny_in_of (kV_is ry) D.ne dd.mapOf ⟨.bl _,H2,I2.tok _,rfl,q2⟩
end
section
variable {α β γ:Type}{F G:α->β->Prop}
theorem Paired.at1:∀ {l₁:List α} {l₂:List β} {i:Nat} {x:α},Paired F l₁ l₂->l₁[i]?=some x->∃ y,l₂[i]?=some y/\F x y
 | _,_,_,_,.nil,e=>by simp at e
 | _,_,0,_,.cons r _,e=>by simp at e;subst e;exact ⟨_,rfl,r⟩
 | _,_,i+1,x,.cons _ t,e=>by
  obtain ⟨y,h1,h2⟩:=Paired.at1 (i:=i) (x:=x) t (by simpa using e)
  exact ⟨y,by simpa using h1,h2⟩
theorem Paired.at2:∀ {l₁:List α} {l₂:List β} {i:Nat} {y:β},Paired F l₁ l₂->l₂[i]?=some y->∃ x,l₁[i]?=some x/\F x y
 | _,_,_,_,.nil,e=>by simp at e
 | _,_,0,_,.cons r _,e=>by simp at e;subst e;exact ⟨_,rfl,r⟩
 | _,_,i+1,y,.cons _ t,e=>by
  obtain ⟨x,h1,h2⟩:=Paired.at2 (i:=i) (y:=y) t (by simpa using e)
  exact ⟨x,by simpa using h1,h2⟩
theorem Paired.tk:∀ {l₁:List α} {l₂:List β} (n:Nat),Paired F l₁ l₂->Paired F (l₁.take n) (l₂.take n)
 | _,_,0,_=>.nil
 | _,_,_+1,.nil=>.nil
 | _,_,n+1,.cons r t=>.cons r (Paired.tk n t)
theorem Paired.dp:∀ {l₁:List α} {l₂:List β} (n:Nat),Paired F l₁ l₂->Paired F (l₁.drop n) (l₂.drop n)
 | _,_,0,r=>r
 | _,_,_+1,.nil=>.nil
 | _,_,n+1,.cons _ t=>Paired.dp n t
theorem Paired.rep {a:α}{b:β}(h:F a b):∀ n:Nat,Paired F (List.replicate n a) (List.replicate n b)
 | 0=>.nil
 | n+1=>.cons h (Paired.rep h n)
end
end L2
namespace Bw
open PySem PySem.Spec PyProof.Rows L2 Tote
def sV (ws:List W):List V:=ws.map fun w=>V.str (st w)
def nV (ns:List Nat):List V:=ns.map fun n=>V.int (n:Nat)
def IntsAt (K:PySem.W.Frag)(H:Hp)(a:Addr)(ns:List Nat):Prop:=SqL K H a (nV ns)
def ListsAt (K:PySem.W.Frag)(H:Hp)(a:Addr)(rs:List (List Nat)):Prop:=∃ as:List Addr,SqL K H a (as.map V.ref)/\Paired (IntsAt K H) as rs
def SetsAt (H:Hp)(a:Addr)(rs:List (List Nat)):Prop:=∃ as:List Addr,H a=some (.lst (as.map V.ref))/\Paired (fun b ns=>H b=some (.lst (nV ns))) as rs
section
variable {K:PySem.W.Frag}{H H':Hp}{a:Addr}
theorem SetsAt.lists {rs:List (List Nat)} (h:SetsAt H a rs):ListsAt K H a rs:=by
 obtain ⟨as,h1,h2⟩:=h
 exact ⟨as,SqL.of h1,Paired.mapP h2 fun _ _ z=>SqL.of z⟩
theorem SetsAt.same {rs:List (List Nat)}(h:SetsAt H a rs)(e:Same H H'):SetsAt H' a rs:=by
 obtain ⟨as,h1,h2⟩:=h
 exact ⟨as,e _ _ h1,Paired.mapP h2 fun _ _ z=>e _ _ z⟩
theorem IntsAt.same {ns:List Nat}(h:IntsAt K H a ns)(e:Same H H'):IntsAt K H' a ns:=e.seq h
theorem lists_same {as:List Addr}{rs:List (List Nat)}(h:Paired (IntsAt K H) as rs)(e:Same H H'):Paired (IntsAt K H') as rs:=Paired.mapP h fun _ _ z=>z.same e
theorem ListsAt.same {rs:List (List Nat)}(h:ListsAt K H a rs)(e:Same H H'):ListsAt K H' a rs:=by
 obtain ⟨as,h1,h2⟩:=h
 exact ⟨as,e.seq h1,lists_same h2 e⟩
theorem sV_len (ws:List W):(sV ws).length=ws.length:=List.length_map ..
theorem nV_len (ws:List Nat):(nV ws).length=ws.length:=List.length_map ..
theorem sV_at {ws:List W}{i:Nat}{x:W}(h:ws[i]?=some x):(sV ws)[i]?=some (.str (st x)):=by
 unfold sV
 rw [List.getElem?_map,h]
 rfl
end
structure CK (K:PySem.W.Frag)(mg:Str->Option Value)(x:Str)(fs:List Str)(C:Addr):Prop where
 cl:Cls K C
 no:∀ f∈fs,NoAttr K C f
 mg:mg x=some (.ref C)
def Dm (K:PySem.W.Frag)(C:Addr)(m qual:Str)(st:Stmt):Prop:=∃ (f:Addr) (fd:FuncData),Meth K C m f/\Fun K m qual st f fd
def Di (K:PySem.W.Frag)(C:Addr)(qual:Str)(st:Stmt):Prop:=∃ (f:Addr) (fd:FuncData),Mk K C f/\Fun K "__init__" qual st f fd
def FnI (P:Program)(w:World)(K:PySem.W.Frag)(mg:Str->Option Value)(base:Heap)(CX:CXT)(k:Nat)(C:Addr)(ps:List Str)(sp:Sp):Prop :=
 ∃ (f:Addr) (fd:FuncData),Mk K C f/\Binds K fd ps []/\FnOk P w K mg base CX k f fd ps sp
def FnM (P:Program)(w:World)(K:PySem.W.Frag)(mg:Str->Option Value)(base:Heap)(CX:CXT)(k:Nat)(C:Addr)(m:Str)(ps:List Str)(sp:Sp):Prop :=
 ∃ (f:Addr) (fd:FuncData),Meth K C m f/\Binds K fd ps []/\FnOk P w K mg base CX k f fd ps sp
section
variable {X:Cx}{CX:CXT}{k:Nat}{x:Str}{ps:List Str}{sp:Sp}{E:XK}{p pos:Pos}{e:Expr}{es:List Expr}{t:TA}{C:Addr}
theorem pe_mk (F:FnI X.prog X.w X.K X.mg X.base CX k C ps sp) (hr:Room (k+1) X.A) (hm:X.mg x=some (.ref C)) (hx:Passes CX X E) (ha:PA X (e::es) t) (hg:Gl X x:=by rfl) (hdb:(x==("__debug__":Str))=false:=by decide) (he:starEach (e::es) X.env=(false,eval e X.env)::starEach es X.env:=by rfl)
  (hpl:(backTo pos (starEach es X.env)).any (·.1)=false:=by rfl):PE X (.Call (.Name x p) (e::es) [] pos) (tMake C sp [] E t):=by
 obtain ⟨f,fd,M,hb,F⟩:=F
 exact pe_make M F hr hg hm hb .nil hx ha hdb he hpl
end
theorem putF_nil {f:Str}{v:V}:putF f v []=[(f,v)]:=rfl
theorem putF_ne {f g:Str}{v x:V}{r:List (Str×V)}(h:g≠f):putF f v ((g,x)::r)=(g,x)::putF f v r:=by
 show (if g=f then (g,v)::r else (g,x)::putF f v r)=_
 rw [if_neg h]
theorem look_hit {f:Str}{v:V}{r:List (Str×V)}:List.lookup f ((f,v)::r)=some v:=by simp [List.lookup]
theorem look_ne {f g:Str}{v:V}{r:List (Str×V)}(h:f≠g):List.lookup f ((g,v)::r)=List.lookup f r:=by
 have:(f==g)=false:=beq_eq_false_iff_ne.mpr h
 simp [List.lookup,this]
def fPool (nm kd fa u:V):List (Str×V):=[("name",nm),("kind",kd),("fields",fa),("unit",u)]
abbrev poolFs:List Str:=["name","kind","fields","unit"]
theorem fPool_name {a b c d:V}:(fPool a b c d).lookup ("name":Str)=some a:=look_hit
theorem fPool_kind {a b c d:V}:(fPool a b c d).lookup ("kind":Str)=some b:=by unfold fPool;rw [look_ne (by decide +kernel)];exact look_hit
theorem fPool_fields {a b c d:V}:(fPool a b c d).lookup ("fields":Str)=some c:=by unfold fPool;rw [look_ne (by decide +kernel),look_ne (by decide +kernel)];exact look_hit
theorem fPool_unit {a b c d:V}:(fPool a b c d).lookup ("unit":Str)=some d:=by unfold fPool;rw [look_ne (by decide +kernel),look_ne (by decide +kernel),look_ne (by decide +kernel)];exact look_hit
def PoolAt (K:PySem.W.Frag)(C:Addr)(H:Hp)(a:Addr)(p:PoolM):Prop:=∃ dx fa,H a=some (.ins C dx (fPool (.str (st p.name)) (.str (st (cd (kindS p.kind)))) (.ref fa) (.int (p.unit:Nat))))/\ListsAt K H fa p.fields
def PoolsAt (K:PySem.W.Frag)(C:Addr)(H:Hp)(a:Addr)(ps:List PoolM):Prop:=∃ as:List Addr,SqL K H a (as.map V.ref)/\Paired (PoolAt K C H) as ps
section
variable {K:PySem.W.Frag}{H H':Hp}{C a:Addr}
theorem PoolAt.same {p:PoolM} (h:PoolAt K C H a p) (e:Same H H'):PoolAt K C H' a p:=by
 obtain ⟨dx,fa,h1,h2⟩:=h
 exact ⟨dx,fa,e _ _ h1,h2.same e⟩
theorem pools_same {as:List Addr}{ps:List PoolM}(h:Paired (PoolAt K C H) as ps)(e:Same H H'):Paired (PoolAt K C H') as ps:=Paired.mapP h fun _ _ z=>z.same e
end
def spPoolI (C:Addr):Sp:=fun vs H Q _=>∃ (x dx:Addr) (a b c d:V),vs=[.ref x,a,b,c,d]/\H x=some (.ins C dx [])/\Q .non (upd H x (.ins C dx (fPool a b c d)))
section
variable {P:Program}{w:World}{K:PySem.W.Frag}{mg:Str->Option Value}{base:Heap}
theorem sc_poolI:FnScope ["self","name","kind","fields","unit"] ["self","name","kind","fields","unit"] (defScope m_Pool_init):=⟨rfl,rfl,rfl,by decide +kernel,rfl,by decide +kernel,by decide +kernel⟩
theorem ok_poolI {C:Addr}(T:CK K mg "Pool" poolFs C){f:Addr}{fd:FuncData}(F:Fun K "__init__" "Pool.__init__" m_Pool_init f fd):FnOk P w K mg base CX0 1 f fd ["self","name","kind","fields","unit"] (spPoolI C):=by
 refine F.ok sc_poolI (fun vs H Q E h=>?_) (fun cdv A outer s H vs Q E hr h=>?_)
 · obtain ⟨x,dx,a,b,c,d,rfl,_⟩:=h
   rfl
 · obtain ⟨x,dx,a,b,c,d,rfl,hx,q⟩:=h
   refine ⟨_,pss_cons (ps_fld (pv 0) (pv 1) rfl) (pss_cons (ps_fld (pv 0) (pv 2) rfl) (pss_cons (ps_fld (pv 0) (pv 3) rfl) (pss_one (ps_fld (pv 0) (pv 4) rfl)))),?_⟩
   refine ⟨_,rfl,_,rfl,x,C,dx,[],rfl,hx,T.cl,T.no _ (by simp),(by show 0 < 1000;decide),?_⟩
   refine ⟨_,rfl,_,rfl,x,C,dx,_,rfl,upd_same,T.cl,T.no _ (by simp),(by show 1 < 1000;decide),?_⟩
   refine ⟨_,rfl,_,rfl,x,C,dx,_,rfl,upd_same,T.cl,T.no _ (by simp),(by repeat (first|rw [putF_nil]|rw [putF_ne (by decide +kernel)]);show 2 < 1000;decide),?_⟩
   refine ⟨_,rfl,_,rfl,x,C,dx,_,rfl,upd_same,T.cl,T.no _ (by simp),(by repeat (first|rw [putF_nil]|rw [putF_ne (by decide +kernel)]);show 3 < 1000;decide),?_⟩
   rw [upd_upd,upd_upd,upd_upd]
   repeat (first|rw [putF_nil]|rw [putF_ne (by decide +kernel)])
   exact q
end
end Bw
namespace L2
open PySem PySem.Spec PyProof.Rows
section
variable {σ:St}{H:Hp}{ta tb te:TE}{t u:TT}{x y v:V}{b c:Bool}
theorem rd_andV {Q:VK} (h:Ev ta σ H (.bl b)) (q1:b=true->tb σ H Q) (q2:b=false->Q (.bl false) H):tAndV ta tb σ H Q:=h _ ⟨b,rfl,by
 cases b with
 | false=>exact iteF (q2 rfl)
 | true=>exact iteT (q1 rfl)⟩
end
end L2
namespace Bw
open PySem PySem.Spec PyProof.Rows L2 Tote
def WsOk (ws:List W):Prop:=ws.length<=70000/\∀ w∈ws,w.length<=70000/\∀ c∈w,c < 128
theorem lit_eq {w:W}{s:String}:decide (V.str (st w)=V.str (Str.ofString s))=decide (w=cd s):=by
 rw [decide_eq_decide,of_st]
 constructor
 · intro h
   injection h with h
   exact st_inj.mp h
 · intro h
   rw [h]
theorem ws_at {ws:List W}{i:Nat}(h:i < ws.length):ws[i]?=some (ws.getD i []):=by
 rw [List.getD_eq_getElem?_getD,List.getElem?_eq_getElem h]
 rfl
theorem at_sV {ws:List W}{i:Nat}(h:i < ws.length):atI (sV ws) ((i:Nat):Int)=some (.str (st (ws.getD i []))):=atI_nat (sV_at (ws_at h))
theorem WsOk.getD {ws:List W}(o:WsOk ws)(i:Nat):(ws.getD i []).length<=70000/\∀ c∈ws.getD i [],c < 128:=by
 by_cases h:i < ws.length
 · exact o.2 _ (List.mem_of_getElem? (ws_at h))
 · rw [List.getD_eq_getElem?_getD,List.getElem?_eq_none (by omega)]
   exact ⟨Nat.zero_le _,fun c hc=>by simp at hc⟩
abbrev fixedL:List (Nat×W):=[(0,cd "pool"),(4,cd "from"),(6,cd "take"),(8,cd "break"),(10,cd "least"),(12,cd "unit"),(14,cd "none")]
abbrev sizeOf:Tote.Kind->Int×Int
 | .place=>(1,4)
 | .order=>(2,4)
 | .any=>(2,3)
 | .legs=>(2,6)
structure GC (P:Program)(w:World)(K:PySem.W.Frag)(mg:Str->Option Value)(dS aF:Addr):Prop where
 races:Gv mg "MOST_RACES" (.int 16)
 pools:Gv mg "MOST_POOLS" (.int 64)
 couples:Gv mg "MOST_COUPLES" (.int 8)
 runners:Gv mg "MOST_RUNNERS" (.int 24)
 words:Gv mg "POOL_WORDS" (.int 16)
 sizes:Gv mg "SIZES" (.ref dS)
 fixed:Gv mg "FIXED" (.ref aF)
 sizesD:∃ ts:Tote.Kind->Addr,DictK P w K dS [(.inr (st (cd "place")),.ref (ts .place)),(.inr (st (cd "order")),.ref (ts .order)),(.inr (st (cd "any")),.ref (ts .any)),(.inr (st (cd "legs")),.ref (ts .legs))]/\∀ (k:Tote.Kind) (H:Hp),SqT K H (ts k) [.int (sizeOf k).1,.int (sizeOf k).2]
 fixedT:∃ ts:List Addr,(∀ H,SqT K H aF (ts.map V.ref))/\Paired (fun t (p:Nat×W)=>∀ H,SqT K H t [.int (p.1:Nat),.str (st p.2)]) ts fixedL
 range:mg "range"=none
section
variable {P:Program}{w:World}{K:PySem.W.Frag}{mg:Str->Option Value}{base:Heap}
def spDay (K:PySem.W.Frag):Sp:=fun vs H Q _=>∃ (a:Addr) (ws:List W),vs=[.ref a]/\SqL K H a (sV ws)/\WsOk ws/\∀ H',Same H H'->Q (.bl (dayM ws)) H'
theorem sc_day:FnScope ["words"] ["words"] (defScope f_is_day):=⟨rfl,rfl,rfl,by decide +kernel,rfl,by decide +kernel,by decide +kernel⟩
theorem ok_day (G:GW mg){k:Nat}(FN:Fn P w K mg base CX0 k "is_name" ["word"] spIsName){f:Addr}{fd:FuncData}(F:Fun K "is_day" "is_day" f_is_day f fd):FnOk P w K mg base CX0 (k+1) f fd ["words"] (spDay K):=by
 refine F.ok sc_day (fun vs H Q E h=>?_) (fun cdv A outer s H vs Q E hr h=>?_)
 · obtain ⟨a,ws,rfl,_⟩:=h
   rfl
 · obtain ⟨a,ws,rfl,hS,ok,q⟩:=h
   refine ⟨_,pss_one (ps_ret (pe_and (pe_cmpR op_eq (pe_callB call_len_seq (by rfl) G.len PySem.boot_len (pa_cons (pv 0) pa_nil)) pe_int (nomark _)) (pe_and (pe_cmpR op_eq (pe_ix ix_list (pv 0) pe_int (fun _ _=>rfl)) pe_str (nomark _))
    (pe_one (pe_fn FN hr pass0 (pa_cons (pe_ix ix_list (pv 0) pe_int (fun _ _=>rfl)) pa_nil)))))),?_⟩
   refine rd_andV (ev_eq (ev_lenQ (ev_var rfl) (.inl hS)) ev_c) (fun h=>?_) (fun h=>?_)
   · rw [dec_int,sV_len] at h
     have hl:ws.length=2:=by have:=eq_of_beq h;omega
     refine rd_andV (ev_eq (ev_ixL (ev_var rfl) ev_c hS (at_sV (i:=0) (by omega))) ev_c) (fun h=>?_) (fun h=>?_)
     · rw [lit_eq] at h
       refine (ev_ixL (ev_var rfl) ev_c hS (at_sV (i:=1) (by omega))) _ ⟨_,rfl,(ok.getD 1).1,fun H' e=>?_⟩
       have:dayM ws=nameM (ws.getD 1 []):=by
        unfold dayM
        rw [hl,of_decide_eq_true h]
        simp
       rw [← this]
       exact q H' e
     · rw [lit_eq] at h
       have:dayM ws=false:=by
        unfold dayM
        have z:(ws.getD 0 []==cd "day")=false:=by
         rw [beq_eq_false_iff_ne]
         exact of_decide_eq_false h
        rw [z]
        simp
       rw [← this]
       exact q H (Same.refl H)
   · rw [dec_int,sV_len] at h
     have:dayM ws=false:=by
      unfold dayM
      have z:(ws.length==2)=false:=by
       rw [beq_eq_false_iff_ne] at h ⊢
       exact fun z=>h (by rw [z];rfl)
      rw [z]
      rfl
     rw [← this]
     exact q H (Same.refl H)
def formM (ws:List W):Bool:=ws.length==16&&(fixedL.all fun p=>ws.getD p.1 []==p.2)&&nameM (ws.getD 1 [])&&(kindM (ws.getD 2 [])).isSome
def spForm (K:PySem.W.Frag):Sp:=fun vs H Q _=>∃ (a:Addr) (ws:List W),vs=[.ref a]/\SqL K H a (sV ws)/\WsOk ws/\∀ H',Same H H'->Q (.bl (formM ws)) H'
theorem sizes_at {ts:Tote.Kind->Addr}{w:W}:valueAt [((.inr (st (cd "place")):Key),Value.ref (ts .place)),(.inr (st (cd "order")),.ref (ts .order)),(.inr (st (cd "any")),.ref (ts .any)),(.inr (st (cd "legs")),.ref (ts .legs))] (.inr (st w))=(kindM w).map fun k=>Value.ref (ts k):=by
 have key:∀ s:W,((Sum.inr (st s):Key)=Sum.inr (st w))↔s=w:=fun s=>⟨fun h=>st_inj.mp (Sum.inr.inj h),fun h=>by rw [h]⟩
 unfold valueAt kindM
 simp only [List.find?_cons,List.find?_nil,key]
 by_cases h1:w=cd "place"
 · subst h1;simp
 · rw [decide_eq_false (fun z=>h1 z.symm),if_neg h1]
   by_cases h2:w=cd "order"
   · subst h2;simp
   · rw [decide_eq_false (fun z=>h2 z.symm),if_neg h2]
     by_cases h3:w=cd "any"
     · subst h3;simp
     · rw [decide_eq_false (fun z=>h3 z.symm),if_neg h3]
       by_cases h4:w=cd "legs"
       · subst h4;simp
       · rw [decide_eq_false (fun z=>h4 z.symm),if_neg h4]
         rfl
theorem sc_form:FnScope ["words","at","word"] ["words"] (defScope f_has_pool_form):=⟨rfl,rfl,rfl,by decide +kernel,rfl,by decide +kernel,by decide +kernel⟩
theorem ok_form {dS aF:Addr}(G:GW mg)(GC:GC P w K mg dS aF){k:Nat}(FN:Fn P w K mg base CX0 k "is_name" ["word"] spIsName){f:Addr}{fd:FuncData}(F:Fun K "has_pool_form" "has_pool_form" f_has_pool_form f fd) :
  FnOk P w K mg base CX0 (k+1) f fd ["words"] (spForm K):=by
 refine F.ok sc_form (fun vs H Q E h=>?_) (fun cdv A outer s H vs Q E hr h=>?_)
 · obtain ⟨a,ws,rfl,_⟩:=h
   rfl
 · obtain ⟨a,ws,rfl,hS,ok,q⟩:=h
   obtain ⟨ts,hD,hT⟩:=GC.sizesD
   obtain ⟨fs,hF,hP⟩:=GC.fixedT
   refine ⟨_,pss_cons (ps_if (pt_cmpR op_ne (pe_callB call_len_seq (by rfl) G.len PySem.boot_len (pa_cons (pv 0) pa_nil)) (pe_gv GC.words) (nomark _)) (pss_one (ps_ret pe_bl)) pss_nil)
    (pss_cons (ps_if (pt_not (pt_val (pe_callB (cr_all rfl) (by rfl) G.all PyProof.Rows.boot_all (pa_cons (pe_lc (g:=gTup K 2 (gCons (gName 1) (gCons (gName 2) gNil))) (te:=tOp rEq (tOp (rIxL K) (tVar 0) (tVar 1)) (tVar 2)) rfl sc_form.nd (pi_tup (pe_gv GC.fixed)) (blkOk_by (own:=[("at",1),("word",2)]) rfl)
      (fun _ _ _ _ _=>pg_tup rfl (pgs_cons (pg_name (i:=1) sc_form.nd rfl (Or.inl rfl) (Or.inr rfl)) (pgs_cons (pg_name (i:=2) sc_form.nd rfl (Or.inl rfl) (Or.inr rfl)) pgs_nil))) (fun _ _ _ _ _=>pts_nil)
      (fun _ _ _ _ _=>pe_cmpR op_eq (pe_ix ix_list (pv 0) (pv 1) (fun _ _=>rfl)) (pv 2) (nomark _))) pa_nil)))) (pss_one (ps_ret pe_bl)) pss_nil)
    (pss_one (ps_ret (pe_and (pe_fn FN hr pass0 (pa_cons (pe_ix ix_list (pv 0) pe_int (fun _ _=>rfl)) pa_nil)) (pe_one (pe_cmp (pc_dinK hD (pe_ix ix_list (pv 0) pe_int (fun _ _=>rfl)) (pe_gv GC.sizes)))))))),?_⟩
   refine rd_if (tv_test (ev_ne (ev_lenQ (ev_var rfl) (.inl hS)) ev_c)) (fun h=>?_) (fun h=>?_)
   · rw [dec_int,sV_len] at h
     refine rd_ret ev_c ?_
     have:formM ws=false:=by
      unfold formM
      have z:(ws.length==16)=false:=by
       rw [Bool.not_eq_true',beq_eq_false_iff_ne] at h
       rw [beq_eq_false_iff_ne]
       exact fun z=>h (by rw [z];rfl)
      rw [z]
      rfl
     rw [← this]
     exact q H (Same.refl H)
   · rw [dec_int,sV_len] at h
     have hl:ws.length=16:=by
      rw [Bool.not_eq_false'] at h
      have:=eq_of_beq h
      omega
     have lenF:fs.length=7:=by rw [Paired.length hP];rfl
     refine ⟨aF,rfl,⟨_,hF H⟩,fun D hD0=>lc_tup (K:=K) (a:=aF) (xs:=fs.map V.ref) (fun i H'=>Same H H'/\H' D=some (.lst ((fixedL.take i).map fun p=>V.bl (decide (ws.getD p.1 []=p.2)))))
      ⟨(Same.refl H).laid hD0,upd_same⟩ (fun i H' _ h=>hF H') ?_ ?_⟩
     · rintro i x H' hi ⟨k1,k2⟩
       rw [List.getElem?_map] at hi
       obtain ⟨t,ht,rfl⟩:=Option.map_eq_some_iff.mp hi
       obtain ⟨⟨n,wd⟩,hp,hs⟩:=Paired.at1 hP ht
       have hn:n < 16:=by
        have:=List.mem_of_getElem? hp
        simp at this
        omega
       refine ⟨t,_,rfl,hs H',rfl,_,_,rfl,_,_,rfl,rfl,rfl,?_⟩
       refine (ev_eq (ev_ixL (ev_var rfl) (ev_var rfl) (k1.seq hS) (at_sV (i:=n) (by omega))) (ev_var rfl)) _ ⟨_,k2,?_,?_⟩
       · rw [List.length_map,List.length_take,sizeLine_eq]
         have:fixedL.length=7:=rfl
         omega
       · refine ⟨fun b u z=>?_,?_⟩
         · rw [upd_ne (ne_of_none z hD0)]
           exact k1 b u z
         · rw [upd_same,take_snoc hp,List.map_append]
           have:decide (V.str (st (ws.getD n []))=V.str (st wd))=decide (ws.getD n []=wd):=by
            rw [decide_eq_decide]
            exact ⟨fun h=>st_inj.mp (by injection h),fun h=>by rw [h]⟩
           rw [this]
           rfl
     · rintro H' ⟨k1,k2⟩
       have k2:H' D=some (.lst ((fixedL.take (fs.map V.ref).length).map fun p=>V.bl (decide (ws.getD p.1 []=p.2)))):=k2
       rw [List.length_map,lenF] at k2
       have eA:((fixedL.map fun p=>decide (ws.getD p.1 []=p.2)).all id)=fixedL.all fun p=>ws.getD p.1 []==p.2:=by
        rw [List.all_map]
        congr 1
        funext p
        show decide (ws.getD p.1 []=p.2)=(ws.getD p.1 []==p.2)
        rw [Bool.eq_iff_iff,decide_eq_true_eq,beq_iff_eq]
       refine ⟨D,fixedL.map fun p=>decide (ws.getD p.1 []=p.2),rfl,SqL.of (by rw [k2,List.map_map];rfl),_,rfl,?_⟩
       rw [eA]
       refine ite2 (fun h=>?_) (fun h=>?_)
       · refine rd_ret ev_c ?_
         have:formM ws=false:=by
          unfold formM
          rw [Bool.not_eq_true'] at h
          rw [h]
          simp
         rw [← this]
         exact q H' k1
       · have hA:(fixedL.all fun p=>ws.getD p.1 []==p.2)=true:=by simpa using h
         refine (ev_ixL (ev_var rfl) ev_c (k1.seq hS) (at_sV (i:=1) (by omega))) _ ⟨_,rfl,(ok.getD 1).1,fun H2 e2=>⟨_,rfl,?_⟩⟩
         have eF:formM ws=(nameM (ws.getD 1 [])&&(kindM (ws.getD 2 [])).isSome):=by
          unfold formM
          rw [hA,hl]
          simp
         refine ite2 (fun h=>?_) (fun h=>?_)
         · refine (ev_ixL (ev_var rfl) ev_c ((k1.trans e2).seq hS) (at_sV (i:=2) (by omega))) _ ⟨Sum.inr (st (ws.getD 2 [])),rfl,rfl,?_⟩
           rw [sizes_at]
           have:((kindM (ws.getD 2 [])).map fun k=>Value.ref (ts k)).isSome=formM ws:=by
            rw [eF,h,Option.isSome_map]
            rfl
           rw [this]
           exact q H2 (k1.trans e2)
         · have:formM ws=false:=by
            rw [eF]
            have:nameM (ws.getD 1 [])=false:=by simpa using h
            rw [this]
            rfl
           rw [← this]
           exact q H2 (k1.trans e2)
end
theorem ev_num {σ:L2.St}{H:Hp}{te:TE}{wd:W}(h:Ev te σ H (.str (st wd)))(ok:wd.length<=70000/\∀ c∈wd,c < 128):Ev (tCall spNum [] E0 (tCons te tNil)) σ H (.int (numM wd)):=fun _ r=>h _ ⟨wd,rfl,ok.1,ok.2,r⟩
theorem cut_nat {xs:List V}{i j:Nat}(h:j<=xs.length):cutV xs (some (i:Int)) (some (j:Int))=(xs.drop i).take (j - i):=by
 unfold cutV
 rw [HT.sIx_nat,HT.sIx_nat,Nat.min_eq_left h]
 by_cases hi:i<=xs.length
 · rw [Nat.min_eq_left hi]
 · rw [Nat.min_eq_right (by omega),List.drop_eq_nil_of_le (Nat.le_refl _),List.drop_eq_nil_of_le (by omega)]
   simp
section
variable {P:Program}{w:World}{K:PySem.W.Frag}{mg:Str->Option Value}{base:Heap}
def termsM (ws:List W):Bool :=
 !(!(decide (0<=numM (ws.getD 7 []))&&decide (numM (ws.getD 7 [])<=400))||!(decide (1<=numM (ws.getD 9 []))&&decide (numM (ws.getD 9 [])<=1000))) &&
 (!(!(decide (1<=numM (ws.getD 13 []))&&decide (numM (ws.getD 13 [])<=10000))||!(decide (numM (ws.getD 11 [])=0)||(decide (numM (ws.getD 13 [])<=numM (ws.getD 11 []))&&decide (numM (ws.getD 11 [])<=2*numM (ws.getD 13 []))))) &&
 (if ws.getD 15 []=cd "fewer" then !decide (ws.getD 2 []=cd "place") else decide (ws.getD 15 []=cd "refund")||decide (ws.getD 15 []=cd "carry")))
def spTerms (K:PySem.W.Frag):Sp:=fun vs H Q _=>∃ (a:Addr) (ws:List W),vs=[.ref a]/\SqL K H a (sV ws)/\WsOk ws/\ws.length=16/\∀ H',Same H H'->Q (.bl (termsM ws)) H'
theorem sc_terms:FnScope ["words","least","unit"] ["words"] (defScope f_are_terms_good):=⟨rfl,rfl,rfl,by decide +kernel,rfl,by decide +kernel,by decide +kernel⟩
theorem ok_terms {k:Nat}(FN:Fn P w K mg base CX0 k "number_of" ["word"] spNum){f:Addr}{fd:FuncData}(F:Fun K "are_terms_good" "are_terms_good" f_are_terms_good f fd):FnOk P w K mg base CX0 (k+1) f fd ["words"] (spTerms K):=by
 refine F.ok sc_terms (fun vs H Q E h=>?_) (fun cdv A outer s H vs Q E hr h=>?_)
 · obtain ⟨a,ws,rfl,_⟩:=h
   rfl
 · obtain ⟨a,ws,rfl,hS,ok,hl,q⟩:=h
   refine ⟨_,pss_cons (ps_set (i:=1) sc_terms.nd rfl (Or.inl rfl) (pe_fn FN hr pass0 (pa_cons (pe_ix ix_list (pv 0) pe_int (fun _ _=>rfl)) pa_nil)))
    (pss_cons (ps_set (i:=2) sc_terms.nd rfl (Or.inl rfl) (pe_fn FN hr pass0 (pa_cons (pe_ix ix_list (pv 0) pe_int (fun _ _=>rfl)) pa_nil)))
    (pss_cons (ps_if (PW.pt (pw_or (pt_not (pt_chain op_le op_le pe_int (pe_fn FN hr pass0 (pa_cons (pe_ix ix_list (pv 0) pe_int (fun _ _=>rfl)) pa_nil)) pe_int)) (pw_or1 (pt_not (pt_chain op_le op_le pe_int (pe_fn FN hr pass0 (pa_cons (pe_ix ix_list (pv 0) pe_int (fun _ _=>rfl)) pa_nil)) pe_int))))) (pss_one (ps_ret pe_bl)) pss_nil)
    (pss_cons (ps_if (PW.pt (pw_or (pt_not (pt_chain op_le op_le pe_int (pv 2) pe_int)) (pw_or1 (pt_not (PW.pt (pw_or (pt_cmpR op_eq (pv 1) pe_int (nomark _)) (pw_or1 (pt_chain op_le op_le (pv 2) (pv 1) (pe_op op_mul pe_int (pv 2)))))))))) (pss_one (ps_ret pe_bl)) pss_nil)
    (pss_cons (ps_if (pt_cmpR op_eq (pe_ix ix_list (pv 0) pe_int (fun _ _=>rfl)) pe_str (nomark _)) (pss_one (ps_ret (pe_cmpR op_ne (pe_ix ix_list (pv 0) pe_int (fun _ _=>rfl)) pe_str (nomark _)))) pss_nil)
    (pss_one (ps_ret (pe_cmpR op_in_seq (pe_ix ix_list (pv 0) pe_int (fun _ _=>rfl)) (pe_tup (pa_cons pe_str (pa_cons pe_str pa_nil))) (by with_unfolding_all rfl)))))))),?_⟩
   refine rd_set (ev_num (ev_ixL (ev_var rfl) ev_c hS (at_sV (i:=11) (by omega))) (ok.getD 11)) ?_
   refine rd_set (ev_num (ev_ixL (ev_var rfl) ev_c hS (at_sV (i:=13) (by omega))) (ok.getD 13)) ?_
   refine rd_if (tv_or (tv_not (tv_chain ev_c (ev_num (ev_ixL (ev_var rfl) ev_c hS (at_sV (i:=7) (by omega))) (ok.getD 7)) ev_c)) fun _=>tv_not (tv_chain ev_c (ev_num (ev_ixL (ev_var rfl) ev_c hS (at_sV (i:=9) (by omega))) (ok.getD 9)) ev_c)) (fun h=>?_) (fun h1=>?_)
   · refine rd_ret ev_c ?_
     have:termsM ws=false:=by unfold termsM;rw [h];rfl
     rw [← this]
     exact q H (Same.refl H)
   refine rd_if (tv_or (tv_not (tv_chain ev_c (ev_var rfl) ev_c)) fun _=>tv_not (tv_or (tv_test (ev_eq (ev_var rfl) ev_c)) fun _=>tv_chain (ev_var rfl) (ev_var rfl) (ev_ic ev_c (ev_var rfl) (.inl ⟨by decide,by decide⟩)))) (fun h=>?_) (fun h2=>?_)
   · refine rd_ret ev_c ?_
     have:termsM ws=false:=by
      unfold termsM
      have e:decide (V.int (numM (ws.getD 11 []))=V.int 0)=decide (numM (ws.getD 11 [])=0):=by rw [dec_int];rfl
      rw [e] at h
      rw [h]
      simp
     rw [← this]
     exact q H (Same.refl H)
   have e2:termsM ws=if ws.getD 15 []=cd "fewer" then !decide (ws.getD 2 []=cd "place") else decide (ws.getD 15 []=cd "refund")||decide (ws.getD 15 []=cd "carry"):=by
    unfold termsM
    have e:decide (V.int (numM (ws.getD 11 []))=V.int 0)=decide (numM (ws.getD 11 [])=0):=by rw [dec_int];rfl
    rw [e] at h2
    rw [h1,h2]
    simp
   refine rd_if (tv_test (ev_eq (ev_ixL (ev_var rfl) ev_c hS (at_sV (i:=15) (by omega))) ev_c)) (fun h=>?_) (fun h=>?_)
   · rw [lit_eq] at h
     refine rd_ret (ev_ne (ev_ixL (ev_var rfl) ev_c hS (at_sV (i:=2) (by omega))) ev_c) ?_
     rw [lit_eq]
     rw [if_pos (of_decide_eq_true h)] at e2
     rw [← e2]
     exact q H (Same.refl H)
   · rw [lit_eq] at h
     refine (ev_ixL (ev_var rfl) ev_c hS (at_sV (i:=15) (by omega))) _ ⟨(by show 2<=sizeLine;decide),fun t ht=>⟨t,_,rfl,.inr (SqT.of upd_same),rfl,rfl,?_⟩⟩
     rw [if_neg (of_decide_eq_false h)] at e2
     have:inV (V.str (st (ws.getD 15 []))) [V.str (Str.ofString "refund"),V.str (Str.ofString "carry")]=termsM ws:=by
      rw [e2]
      have key:∀ s:String,eqV (V.str (Str.ofString s)) (V.str (st (ws.getD 15 [])))=decide (ws.getD 15 []=cd s):=fun s=>by
       show (Str.ofString s==st (ws.getD 15 []))=_
       rw [Bool.eq_iff_iff,beq_iff_eq,decide_eq_true_eq,of_st,st_inj]
       exact ⟨fun z=>z.symm,fun z=>z.symm⟩
      show ([V.str (Str.ofString "refund"),V.str (Str.ofString "carry")].any fun y=>eqV y (V.str (st (ws.getD 15 []))))=_
      simp only [List.any_cons,List.any_nil,key,Bool.or_false]
     rw [← this] at q
     exact q _ ((Same.refl H).laid ht)
def fldOk (kd:Tote.Kind)(k rc:Nat)(rs:List (List Nat)):Bool:=match kd with
 | .legs=>decide (rc+k<=rs.length+1)
 | _=>decide (k<=(rs.getD (rc - 1) []).length)
def fieldsA {α:Type}(d:α)(kd:Tote.Kind)(k rc:Nat)(as:List α):List α:=match kd with
 | .legs=>(as.drop (rc - 1)).take k
 | .place=>[as.getD (rc - 1) d]
 | _=>List.replicate k (as.getD (rc - 1) d)
theorem fieldsA_eq (kd:Tote.Kind)(k rc:Nat)(rs:List (List Nat)):fieldsA [] kd k rc rs=fieldsM kd k rc rs:=by cases kd <;> rfl
theorem fieldsA_pair {α β:Type}{F:α->β->Prop}{d:α}{e:β}{kd:Tote.Kind}{k rc:Nat}{as:List α}{rs:List β}(h:Paired F as rs)(h1:1<=rc)(h2:rc<=rs.length):Paired F (fieldsA d kd k rc as) (fieldsA e kd k rc rs):=by
 obtain ⟨y,hy⟩:∃ y,rs[rc - 1]?=some y:=⟨_,List.getElem?_eq_getElem (by omega)⟩
 obtain ⟨x,hx,hf⟩:=Paired.at2 h hy
 have ex:as.getD (rc - 1) d=x:=by rw [List.getD_eq_getElem?_getD,hx];rfl
 have ey:rs.getD (rc - 1) e=y:=by rw [List.getD_eq_getElem?_getD,hy];rfl
 unfold fieldsA
 cases kd with
 | legs=>exact Paired.tk k (Paired.dp (rc - 1) h)
 | place=>rw [ex,ey];exact .cons hf .nil
 | order=>rw [ex,ey];exact Paired.rep hf k
 | any=>rw [ex,ey];exact Paired.rep hf k
def spFields (K:PySem.W.Frag):Sp:=fun vs H Q _=>∃ (kd:Tote.Kind) (k rc:Nat) (a:Addr) (as:List Addr) (rs:List (List Nat)),vs=[.str (st (cd (kindS kd))),.int (k:Nat),.int (rc:Nat),.ref a]/\SqL K H a (as.map V.ref)/\Paired (IntsAt K H) as rs/\1<=k/\k<=6/\1<=rc/\rc<=rs.length/\rs.length<=70000 /\
 (fldOk kd k rc rs=false->Q .non H)/\(fldOk kd k rc rs=true->∀ H' p,Same H H'->H p=none->H' p=some (.lst ((fieldsA 0 kd k rc as).map V.ref))->Q (.ref p) H')
theorem kind_lit {kd:Tote.Kind}{s:String}:decide (V.str (st (cd (kindS kd)))=V.str (Str.ofString s))=decide (cd (kindS kd)=cd s):=lit_eq
theorem sc_fields:FnScope ["kind","size","race","races","interests","place"] ["kind","size","race","races"] (defScope f_fields_of):=⟨rfl,rfl,rfl,by decide +kernel,rfl,by decide +kernel,by decide +kernel⟩
theorem ok_fields {dS aF:Addr}(G:GW mg)(GC:GC P w K mg dS aF){f:Addr}{fd:FuncData}(F:Fun K "fields_of" "fields_of" f_fields_of f fd):FnOk P w K mg base CX0 1 f fd ["kind","size","race","races"] (spFields K):=by
 refine F.ok sc_fields (fun vs H Q E h=>?_) (fun cdv A outer s H vs Q E hr h=>?_)
 · obtain ⟨_,_,_,_,_,_,rfl,_⟩:=h
   rfl
 · obtain ⟨kd,k,rc,a,as,rs,rfl,hA,hP,hk1,hk2,hr1,hr2,hr3,q0,q1⟩:=h
   have lenA:as.length=rs.length:=Paired.length hP
   refine ⟨_,pss_cons (ps_if (pt_cmpR op_eq (pv 0) pe_str (nomark _)) (pss_cons (ps_if (pt_cmpR op_gt (pe_op op_sub (pe_op op_add (pv 2) (pv 1)) pe_int) (pe_callB call_len_seq (by rfl) G.len PySem.boot_len (pa_cons (pv 3) pa_nil)) (nomark _)) (pss_one (ps_ret pe_non)) pss_nil)
     (pss_one (ps_ret (pe_slice sl_list (pv 3) (po_some (pe_op op_sub (pv 2) pe_int)) (po_some (pe_op op_add (pe_op op_sub (pv 2) pe_int) (pv 1))))))) pss_nil)
    (pss_cons (ps_set (i:=4) sc_fields.nd rfl (Or.inr rfl) (pe_ix ix_list (pv 3) (pe_op op_sub (pv 2) pe_int) (fun _ _=>rfl)))
    (pss_cons (ps_if (pt_cmpR op_lt (pe_callB call_len_seq (by rfl) G.len PySem.boot_len (pa_cons (pv 4) pa_nil)) (pv 1) (nomark _)) (pss_one (ps_ret pe_non)) pss_nil)
    (pss_cons (ps_if (pt_cmpR op_eq (pv 0) pe_str (nomark _)) (pss_one (ps_ret (pe_lst (pa_cons (pv 4) pa_nil)))) pss_nil)
    (pss_one (ps_ret (pe_lc rfl sc_fields.nd (pi_range1 rfl GC.range (pa_cons (pv 1) pa_nil)) (blkOk_by (own:=[("place",5)]) rfl) (fun _ _ _ _ _=>pg_name (i:=5) sc_fields.nd rfl (Or.inl rfl)) (fun _ _ _ _ _=>pts_nil) (fun _ _ _ _ _=>pv 4))))))),?_⟩
   refine rd_if (tv_test (ev_eq (ev_var rfl) ev_c)) (fun h=>?_) (fun h=>?_)
   · rw [kind_lit] at h
     have e:kd=.legs:=by
      cases kd <;> first|rfl|(exact absurd (of_decide_eq_true h) (by decide))
     subst e
     refine rd_if (tv_i (ev_i (ev_i (ev_var rfl) (ev_var rfl)) ev_c) (ev_lenQ (ev_var rfl) (.inl hA))) (fun h=>?_) (fun h=>?_)
     · refine rd_ret ev_c (q0 ?_)
       rw [List.length_map,lenA] at h
       have:=of_decide_eq_true h
       exact decide_eq_false (by omega)
     · rw [List.length_map,lenA] at h
       have:=of_decide_eq_false h
       refine ⟨_,rfl,?_⟩
       refine (ev_i (ev_var rfl) ev_c) _ ⟨_,rfl,?_⟩
       refine (ev_i (ev_i (ev_var rfl) ev_c) (ev_var rfl)) _ ⟨_,rfl,a,as.map V.ref,rfl,hA,fun p hp=>?_⟩
       have e1:(rc:Int) - 1=((rc - 1:Nat):Int):=by omega
       have e2:(rc:Int) - 1+(k:Int)=((rc - 1+k:Nat):Int):=by omega
       rw [e1,show (((rc - 1:Nat):Int)+(k:Int))=((rc - 1+k:Nat):Int) by omega,cut_nat (by rw [List.length_map,lenA];omega)]
       refine q1 (decide_eq_true (by omega)) _ p ((Same.refl H).laid hp) hp ?_
       show upd H p _ p=some (.lst (((as.drop (rc - 1)).take k).map V.ref))
       rw [upd_same,show rc - 1+k - (rc - 1)=k by omega,List.map_take,List.map_drop]
   · rw [kind_lit] at h
     have hnl:kd≠.legs:=by
      rintro rfl
      exact absurd (of_decide_eq_false h) (by decide)
     obtain ⟨ns,hns⟩:∃ ns,rs[rc - 1]?=some ns:=⟨_,List.getElem?_eq_getElem (by omega)⟩
     obtain ⟨ai,hai,hI⟩:=Paired.at2 hP hns
     have hg:rs.getD (rc - 1) []=ns:=by rw [List.getD_eq_getElem?_getD,hns];rfl
     have hgA:as.getD (rc - 1) 0=ai:=by rw [List.getD_eq_getElem?_getD,hai];rfl
     have hat:atI (as.map V.ref) ((rc:Int) - 1)=some (.ref ai):=by
      rw [show (rc:Int) - 1=((rc - 1:Nat):Int) by omega]
      exact atI_nat (by rw [List.getElem?_map,hai];rfl)
     refine rd_set (ev_ixL (ev_var rfl) (ev_i (ev_var rfl) ev_c) hA hat) ?_
     have eO:fldOk kd k rc rs=decide (k<=ns.length):=by
      unfold fldOk
      rw [hg]
      cases kd <;> first|rfl|exact absurd rfl hnl
     rw [eO] at q0 q1
     refine rd_if (tv_i (ev_lenQ (ev_var rfl) (.inl hI)) (ev_var rfl)) (fun h=>?_) (fun h=>?_)
     · refine rd_ret ev_c (q0 (decide_eq_false ?_))
       rw [nV_len] at h
       have:=of_decide_eq_true h
       omega
     · rw [nV_len] at h
       have:=of_decide_eq_false h
       have q1:=q1 (decide_eq_true (by omega))
       refine rd_if (tv_test (ev_eq (ev_var rfl) ev_c)) (fun h=>?_) (fun h=>?_)
       · rw [kind_lit] at h
         have e:kd=.place:=by
          cases kd <;> first|rfl|(exact absurd (of_decide_eq_true h) (by decide))
         subst e
         refine ⟨_,rfl,(by show 1<=sizeLine;decide),fun p hp=>q1 _ p ((Same.refl H).laid hp) hp ?_⟩
         show upd H p _ p=some (.lst [.ref (as.getD (rc - 1) 0)])
         rw [hgA]
         exact upd_same
       · rw [kind_lit] at h
         have hnp:kd≠.place:=by
          rintro rfl
          exact absurd (of_decide_eq_false h) (by decide)
         have eF:fieldsA 0 kd k rc as=List.replicate k ai:=by
          unfold fieldsA
          rw [hgA]
          cases kd <;> first|rfl|exact absurd rfl hnl|exact absurd rfl hnp
         rw [eF] at q1
         refine ⟨_,rfl,(k:Int),rfl,by omega,by omega,fun D hD=>?_⟩
         rw [show ((k:Int)).toNat=k by omega]
         refine lc_range (lo:=0) (n:=k) (fun i H'=>Same H H'/\H' D=some (.lst ((List.replicate i ai).map V.ref))) ⟨(Same.refl H).laid hD,upd_same⟩ ?_ ?_
         · rintro i H' hi ⟨k1,k2⟩
           refine ⟨rfl,_,rfl,_,k2,?_,?_⟩
           · rw [List.length_map,List.length_replicate,sizeLine_eq]
             omega
           · refine ⟨fun b u z=>?_,?_⟩
             · rw [upd_ne (ne_of_none z hD)]
               exact k1 b u z
             · rw [upd_same,List.replicate_succ',List.map_append]
               rfl
         · rintro H' ⟨k1,k2⟩
           exact q1 H' D k1 hD k2
end
theorem kindM_lit {w:W}{kd:Tote.Kind}(h:kindM w=some kd):w=cd (kindS kd):=by
 unfold kindM at h
 split at h
 · rename_i e;cases h;exact e
 · split at h
   · rename_i e;cases h;exact e
   · split at h
     · rename_i e;cases h;exact e
     · split at h
       · rename_i e;cases h;exact e
       · cases h
theorem form_kind {ws:List W}(h:formM ws=true):ws.length=16/\∃ kd,kindM (ws.getD 2 [])=some kd:=by
 unfold formM at h
 simp only [Bool.and_eq_true,beq_iff_eq] at h
 exact ⟨h.1.1.1,Option.isSome_iff_exists.mp h.2⟩
theorem len16 {ws:List W}(h:ws.length=16):∃ p nm kd k fr rc tk t br b le m un u no z:W,ws=[p,nm,kd,k,fr,rc,tk,t,br,b,le,m,un,u,no,z]:=by
 match ws,h with
 | [p,nm,kd,k,fr,rc,tk,t,br,b,le,m,un,u,no,z],_=>exact ⟨p,nm,kd,k,fr,rc,tk,t,br,b,le,m,un,u,no,z,rfl⟩
theorem pool_none {ws:List W}{rs:List (List Nat)}(h:¬ (formM ws=true/\termsM ws=true)):poolM ws rs=none:=by
 by_cases hl:ws.length=16
 · obtain ⟨p,nm,kd,k,fr,rc,tk,t,br,b,le,m,un,u,no,z,rfl⟩:=len16 hl
   show (match kindM kd with
    | none=>none
    | some kind=>if poolConds rs kind p nm k fr rc tk t br b le m un u no z then some (⟨nm,kind,fieldsM kind (numM k).toNat (numM rc).toNat rs,(numM u).toNat⟩:PoolM) else none)=none
   cases hk:kindM kd with
   | none=>rfl
   | some kind =>
    show (if poolConds rs kind p nm k fr rc tk t br b le m un u no z then _ else none)=none
    rw [if_neg]
    rintro ⟨c1,c2,c3,c4,c5,c6,c7,c8,c9,c10,c11,c12,c13,c14,c15,c16⟩
    refine h ⟨?_,?_⟩
    · unfold formM
      show (_&&(fixedL.all fun q=>_)&&nameM nm&&(kindM kd).isSome)=true
      rw [c8,hk]
      simp [fixedL,c1,c2,c3,c4,c5,c6,c7]
    · have hkl:=kindM_lit hk
      unfold termsM
      show (!(!(decide (0<=numM t)&&decide (numM t<=400))||!(decide (1<=numM b)&&decide (numM b<=1000)))&&(!(!(decide (1<=numM u)&&decide (numM u<=10000))||!(decide (numM m=0)||(decide (numM u<=numM m)&&decide (numM m<=2*numM u)))) &&
       (if z=cd "fewer" then !decide (kd=cd "place") else decide (z=cd "refund")||decide (z=cd "carry"))))=true
      have d1:(decide (0<=numM t)&&decide (numM t<=400))=true:=by simp [c9]
      have d2:(decide (1<=numM b)&&decide (numM b<=1000))=true:=by simp [c10]
      have d3:(decide (1<=numM u)&&decide (numM u<=10000))=true:=by simp [c11]
      have d4:(decide (numM m=0)||(decide (numM u<=numM m)&&decide (numM m<=2*numM u)))=true:=by simpa using c12
      rw [d1,d2,d3,d4]
      by_cases hz:z=cd "fewer"
      · rw [if_pos hz]
        rcases c13 with c|c|c
        · have:kd≠cd "place":=by
           rw [hkl]
           intro e
           exact c.2 (by cases kind <;> first|rfl|exact absurd e (by decide))
          simp [this]
        · rw [hz] at c;exact absurd c (by decide)
        · rw [hz] at c;exact absurd c (by decide)
      · rw [if_neg hz]
        rcases c13 with c|c|c
        · exact absurd c.1 hz
        · simp [c]
        · simp [c]
 · unfold poolM
   split
   · rename_i e
     exact absurd (by rfl) hl
   · rfl
theorem pool_eq {ws:List W}{rs:List (List Nat)}{kd:Tote.Kind}(hf:formM ws=true)(ht:termsM ws=true)(hk:kindM (ws.getD 2 [])=some kd) :
  poolM ws rs=if ((sizeOf kd).1<=numM (ws.getD 3 [])/\numM (ws.getD 3 [])<=(sizeOf kd).2)/\(1<=numM (ws.getD 5 [])/\numM (ws.getD 5 [])<=(rs.length:Int))/\fldOk kd (numM (ws.getD 3 [])).toNat (numM (ws.getD 5 [])).toNat rs=true
   then some ⟨ws.getD 1 [],kd,fieldsM kd (numM (ws.getD 3 [])).toNat (numM (ws.getD 5 [])).toNat rs,(numM (ws.getD 13 [])).toNat⟩ else none:=by
 obtain ⟨hl,_⟩:=form_kind hf
 obtain ⟨p,nm,kw,k,fr,rc,tk,t,br,b,le,m,un,u,no,z,rfl⟩:=len16 hl
 have hk:kindM kw=some kd:=hk
 show (match kindM kw with
   | none=>none
   | some kind=>if poolConds rs kind p nm k fr rc tk t br b le m un u no z then some (⟨nm,kind,fieldsM kind (numM k).toNat (numM rc).toNat rs,(numM u).toNat⟩:PoolM) else none)=if ((sizeOf kd).1<=numM k/\numM k<=(sizeOf kd).2)/\(1<=numM rc/\numM rc<=(rs.length:Int))/\fldOk kd (numM k).toNat (numM rc).toNat rs=true
   then some (⟨nm,kd,fieldsM kd (numM k).toNat (numM rc).toNat rs,(numM u).toNat⟩:PoolM) else none
 rw [hk]
 show (if poolConds rs kd p nm k fr rc tk t br b le m un u no z then some (⟨nm,kd,fieldsM kd (numM k).toNat (numM rc).toNat rs,(numM u).toNat⟩:PoolM) else none)=_
 have key:poolConds rs kd p nm k fr rc tk t br b le m un u no z↔((sizeOf kd).1<=numM k/\numM k<=(sizeOf kd).2)/\(1<=numM rc/\numM rc<=(rs.length:Int))/\fldOk kd (numM k).toNat (numM rc).toNat rs=true:=by
  have hkl:=kindM_lit hk
  have f1:(fixedL.all fun q=>[p,nm,kw,k,fr,rc,tk,t,br,b,le,m,un,u,no,z].getD q.1 []==q.2)=true:=by
   unfold formM at hf
   simp only [Bool.and_eq_true] at hf
   exact hf.1.1.2
  have f2:nameM nm=true:=by
   unfold formM at hf
   simp only [Bool.and_eq_true] at hf
   exact hf.1.2
  have f1:p=cd "pool"/\fr=cd "from"/\tk=cd "take"/\br=cd "break"/\le=cd "least"/\un=cd "unit"/\no=cd "none":=by
   have g:((p==cd "pool")&&((fr==cd "from")&&((tk==cd "take")&&((br==cd "break")&&((le==cd "least")&&((un==cd "unit")&&((no==cd "none")&&true)))))))=true:=f1
   simp only [Bool.and_eq_true,beq_iff_eq] at g
   obtain ⟨g1,g2,g3,g4,g5,g6,g7,_⟩:=g
   exact ⟨g1,g2,g3,g4,g5,g6,g7⟩
  have f3:(!(!(decide (0<=numM t)&&decide (numM t<=400))||!(decide (1<=numM b)&&decide (numM b<=1000)))&&(!(!(decide (1<=numM u)&&decide (numM u<=10000))||!(decide (numM m=0)||(decide (numM u<=numM m)&&decide (numM m<=2*numM u)))) &&
        (if z=cd "fewer" then !decide (kw=cd "place") else decide (z=cd "refund")||decide (z=cd "carry"))))=true:=ht
  simp only [Bool.and_eq_true,Bool.not_eq_true',Bool.or_eq_false_iff,Bool.not_eq_false',decide_eq_true_eq,Bool.or_eq_true] at f3
  obtain ⟨⟨t1,t2⟩,⟨t3,t4⟩,t5⟩:=f3
  have s1:(leastK kd:Int)=(sizeOf kd).1:=by cases kd <;> rfl
  have s2:(mostK kd:Int)=(sizeOf kd).2:=by cases kd <;> rfl
  have s3:1<=(sizeOf kd).1:=by cases kd <;> decide
  constructor
  · rintro ⟨_,_,_,_,_,_,_,_,_,_,_,_,_,c14,c15,c16⟩
    rw [s1,s2] at c14
    refine ⟨c14,c15,?_⟩
    unfold fldOk
    rcases c16 with ⟨rfl,c⟩|⟨hn,c⟩
    · exact decide_eq_true (by omega)
    · have e:(numM rc - 1).toNat=(numM rc).toNat - 1:=by omega
      rw [e] at c
      cases kd <;> first|exact decide_eq_true (by omega)|exact absurd rfl hn
  · rintro ⟨c14,c15,c16⟩
    refine ⟨f1.1,f1.2.1,f1.2.2.1,f1.2.2.2.1,f1.2.2.2.2.1,f1.2.2.2.2.2.1,f1.2.2.2.2.2.2,f2,t1,t2,t3,t4,?_,by rw [s1,s2];exact c14,c15,?_⟩
    · split at t5
      · rename_i hz
        simp only [Bool.not_eq_true',decide_eq_false_iff_not] at t5
        refine .inl ⟨hz,?_⟩
        rintro rfl
        exact t5 hkl
      · refine .inr ?_
        simpa using t5
    · have e:(numM rc - 1).toNat=(numM rc).toNat - 1:=by omega
      rw [e]
      unfold fldOk at c16
      by_cases hn:kd=.legs
      · subst hn
        have:=of_decide_eq_true c16
        exact .inl ⟨rfl,by omega⟩
      · refine .inr ⟨hn,?_⟩
        have:(numM k).toNat<=(rs.getD ((numM rc).toNat - 1) []).length:=by
         cases kd <;> first|exact of_decide_eq_true c16|exact absurd rfl hn
        omega
 by_cases hc:poolConds rs kd p nm k fr rc tk t br b le m un u no z
 · rw [if_pos hc,if_pos (key.mp hc)]
 · rw [if_neg hc,if_neg (fun z=>hc (key.mpr z))]
section
variable {P:Program}{w:World}{K:PySem.W.Frag}{mg:Str->Option Value}{base:Heap}
def spPool (K:PySem.W.Frag) (C:Addr):Sp:=fun vs H Q _=>∃ (a b:Addr) (ws:List W) (as:List Addr) (rs:List (List Nat)),vs=[.ref a,.ref b]/\SqL K H a (sV ws)/\WsOk ws/\SqL K H b (as.map V.ref)/\Paired (IntsAt K H) as rs/\rs.length<=16 /\
 (poolM ws rs=none->∀ H',Same H H'->Q .non H')/\(∀ p,poolM ws rs=some p->∀ H' x dx fa fas,Same H H'->H x=none->H fa=none->H' x=some (.ins C dx (fPool (.str (st p.name)) (.str (st (cd (kindS p.kind)))) (.ref fa) (.int (p.unit:Nat)))) ->
  H' fa=some (.lst (fas.map V.ref))->(∀ F:Addr->List Nat->Prop,Paired F as rs->Paired F fas p.fields)->Q (.ref x) H')
theorem sc_pool:FnScope ["words","races","kind","size","bounds","race","fields"] ["words","races"] (defScope f_read_pool):=⟨rfl,rfl,rfl,by decide +kernel,rfl,by decide +kernel,by decide +kernel⟩
theorem ok_pool {dS aF C:Addr}(G:GW mg)(GC:GC P w K mg dS aF)(T:CK K mg "Pool" poolFs C){k:Nat}(FF:Fn P w K mg base CX0 k "has_pool_form" ["words"] (spForm K))(FT:Fn P w K mg base CX0 k "are_terms_good" ["words"] (spTerms K))
  (FN:Fn P w K mg base CX0 k "number_of" ["word"] spNum)(FL:Fn P w K mg base CX0 k "fields_of" ["kind","size","race","races"] (spFields K))(FP:FnI P w K mg base CX0 k C ["self","name","kind","fields","unit"] (spPoolI C))
  {f:Addr}{fd:FuncData}(F:Fun K "read_pool" "read_pool" f_read_pool f fd):FnOk P w K mg base CX0 (k+2) f fd ["words","races"] (spPool K C):=by
 refine F.ok sc_pool (fun vs H Q E h=>?_) (fun cdv A outer s H vs Q E hr1 h=>?_)
 · obtain ⟨_,_,_,_,_,rfl,_⟩:=h
   rfl
 · obtain ⟨a,b,ws,as,rs,rfl,hS,ok,hA0,hP0,hR16,q0,q1⟩:=h
   have hr:Room k _:=hr1.mono (Nat.le_succ k)
   obtain ⟨ts,hD,hT⟩:=GC.sizesD
   refine ⟨_,pss_cons (ps_if (PW.pt (pw_or (pt_not (pt_val (pe_fn FF hr pass0 (pa_cons (pv 0) pa_nil)))) (pw_or1 (pt_not (pt_val (pe_fn FT hr pass0 (pa_cons (pv 0) pa_nil))))))) (pss_one (ps_ret pe_non)) pss_nil)
    (pss_cons (ps_set (i:=2) sc_pool.nd rfl (Or.inl rfl) (pe_ix ix_list (pv 0) pe_int (fun _ _=>rfl)))
    (pss_cons (ps_set (i:=3) sc_pool.nd rfl (Or.inl rfl) (pe_fn FN hr pass0 (pa_cons (pe_ix ix_list (pv 0) pe_int (fun _ _=>rfl)) pa_nil)))
    (pss_cons (ps_set (i:=4) sc_pool.nd rfl (Or.inl rfl) (pe_dgetK hD (pe_gv GC.sizes) (pv 2) (fun _ _=>rfl)))
    (pss_cons (ps_set (i:=5) sc_pool.nd rfl (Or.inl rfl) (pe_fn FN hr pass0 (pa_cons (pe_ix ix_list (pv 0) pe_int (fun _ _=>rfl)) pa_nil)))
    (pss_cons (ps_if (PW.pt (pw_or (pt_not (pt_chain op_le op_le (pe_ix ix_tup (pv 4) pe_int (fun _ _=>rfl)) (pv 3) (pe_ix ix_tup (pv 4) pe_int (fun _ _=>rfl)))) (pw_or1 (pt_not (pt_chain op_le op_le pe_int (pv 5) (pe_callB call_len_seq (by rfl) G.len PySem.boot_len (pa_cons (pv 1) pa_nil))))))) (pss_one (ps_ret pe_non)) pss_nil)
    (pss_cons (ps_set (i:=6) sc_pool.nd rfl (Or.inl rfl) (pe_fn FL hr pass0 (pa_cons (pv 2) (pa_cons (pv 3) (pa_cons (pv 5) (pa_cons (pv 1) pa_nil))))))
    (pss_cons (ps_if (pt_cmpR op_isN (pv 6) pe_non (nomark _)) (pss_one (ps_ret pe_non)) pss_nil)
    (pss_one (ps_ret (pe_mk FP hr1 T.mg pass0 (pa_cons (pe_ix ix_list (pv 0) pe_int (fun _ _=>rfl)) (pa_cons (pv 2) (pa_cons (pv 6) (pa_cons (pe_fn FN hr pass0 (pa_cons (pe_ix ix_list (pv 0) pe_int (fun _ _=>rfl)) pa_nil)) pa_nil)))))))))))))),?_⟩
   refine ⟨_,rfl,a,ws,rfl,hS,ok,fun H1 e1=>⟨_,rfl,?_⟩⟩
   refine ite2 (fun h=>?_) (fun h=>?_)
   · refine q0 (pool_none fun z=>?_) H1 e1
     rw [z.1] at h
     cases h
   have hf:formM ws=true:=by simpa using h
   obtain ⟨hl,kd,hk⟩:=form_kind hf
   refine ⟨_,rfl,a,ws,rfl,e1.seq hS,ok,hl,fun H2 e2=>⟨_,rfl,?_⟩⟩
   have e12:=e1.trans e2
   refine ite2 (fun h=>?_) (fun h=>?_)
   · refine q0 (pool_none fun z=>?_) H2 e12
     rw [z.2] at h
     cases h
   have ht:termsM ws=true:=by simpa using h
   have hS2:=e12.seq hS
   have pe:=pool_eq (rs:=rs) hf ht hk
   have hkl:=kindM_lit hk
   refine rd_set (ev_ixL (ev_var rfl) ev_c hS2 (at_sV (i:=2) (by omega))) ?_
   refine rd_set (ev_num (ev_ixL (ev_var rfl) ev_c hS2 (at_sV (i:=3) (by omega))) (ok.getD 3)) ?_
   refine ⟨_,rfl,Sum.inr (st (ws.getD 2 [])),V.ref (ts kd),Value.ref (ts kd),rfl,rfl,by rw [sizes_at,hk];rfl,rfl,?_⟩
   refine rd_set (ev_num (ev_ixL (ev_var rfl) ev_c hS2 (at_sV (i:=5) (by omega))) (ok.getD 5)) ?_
   have hA:=e12.seq hA0
   have hP:=lists_same hP0 e12
   have lenA:as.length=rs.length:=Paired.length hP
   refine rd_if (tv_or (tv_not (tv_chain (ev_ixT (ev_var rfl) ev_c (hT kd H2) (atI_nat (j:=0) rfl)) (ev_var rfl) (ev_ixT (ev_var rfl) ev_c (hT kd H2) (atI_nat (j:=1) rfl)))) fun _=>tv_not (tv_chain ev_c (ev_var rfl) (ev_lenQ (ev_var rfl) (.inl hA)))) (fun h=>?_) (fun h=>?_)
   · refine rd_ret ev_c (q0 ?_ H2 e12)
     rw [pe,if_neg]
     rintro ⟨z1,z2,_⟩
     rw [List.length_map,lenA] at h
     simp only [Bool.or_eq_true,Bool.not_eq_true',Bool.and_eq_false_iff,decide_eq_false_iff_not] at h
     omega
   rw [List.length_map,lenA] at h
   simp only [Bool.or_eq_false_iff,Bool.not_eq_false',Bool.and_eq_true,decide_eq_true_eq] at h
   obtain ⟨h1,h2⟩:=h
   have s3:1<=(sizeOf kd).1:=by cases kd <;> decide
   have s4:(sizeOf kd).2<=6:=by cases kd <;> decide
   have n3:numM (ws.getD 3 [])=(((numM (ws.getD 3 [])).toNat:Nat):Int):=by omega
   have n5:numM (ws.getD 5 [])=(((numM (ws.getD 5 [])).toNat:Nat):Int):=by omega
   refine ⟨_,rfl,_,rfl,_,rfl,_,rfl,kd,(numM (ws.getD 3 [])).toNat,(numM (ws.getD 5 [])).toNat,b,as,rs,by rw [← n3,← n5,← hkl];rfl,hA,hP,by omega,by omega,by omega,by omega,by omega,fun hO=>?_,fun hO H3 p e3 hpn hp=>?_⟩
   ·
    refine ⟨_,rfl,rfl,_,rfl,q0 ?_ H2 e12⟩
    rw [pe,if_neg]
    rintro ⟨_,_,z⟩
    rw [hO] at z
    cases z
   · refine ⟨_,rfl,rfl,_,rfl,?_⟩
     have e13:=e12.trans e3
     have hS3:=e13.seq hS
     refine (ev_ixL (ev_var rfl) ev_c hS3 (at_sV (i:=1) (by omega))) _ ⟨_,rfl,_,rfl,?_⟩
     refine (ev_num (ev_ixL (ev_var rfl) ev_c hS3 (at_sV (i:=13) (by omega))) (ok.getD 13)) _ ?_
     intro x dx nx ndx nex
     refine ⟨x,dx,_,_,_,_,rfl,upd_same,rfl,?_⟩
     rw [if_pos ⟨h1,h2,hO⟩] at pe
     have sm:Same H3 (upd (upd (upd H3 dx (.own x)) x (.ins C dx [])) x (.ins C dx (fPool (V.str (st (ws.getD 1 []))) (V.str (st (ws.getD 2 []))) (V.ref p) (V.int (numM (ws.getD 13 [])))))):=fun b u z=>by
      rw [upd_ne (ne_of_none z nx),upd_ne (ne_of_none z nx),upd_ne (ne_of_none z ndx)]
      exact z
     have hu:0<=numM (ws.getD 13 []):=by
      unfold termsM at ht
      simp only [Bool.and_eq_true,Bool.not_eq_true',Bool.or_eq_false_iff,Bool.not_eq_false',decide_eq_true_eq] at ht
      omega
     have nxp:p≠x:=ne_of_none hp nx
     have npd:p≠dx:=ne_of_none hp ndx
     refine q1 _ pe _ x dx p (fieldsA 0 kd (numM (ws.getD 3 [])).toNat (numM (ws.getD 5 [])).toNat as) (e13.trans sm) (e13.free nx) (e12.free hpn) ?_ ?_ ?_
     · rw [upd_same,hkl]
       rw [hkl] at *
       simp only [Int.toNat_of_nonneg hu]
     · exact sm _ _ hp
     · intro F0 hF0
       show Paired _ _ (fieldsM _ _ _ rs)
       rw [← fieldsA_eq]
       exact fieldsA_pair hF0 (by omega) (by omega)
end
end Bw
namespace L2
open PySem PySem.Spec PyProof.Rows
theorem rd_rt {te:TE}{D:Ends}{σ:St}{H:Hp}(h:te σ H D.rt):tRet te D σ H:=h
theorem rd_lc {wi:TI}{g:TG}{tt:TT}{te:TE}{vs:List Nat}{σ:St}{H:Hp}{Q:VK}(h:wi σ H fun J H1=>∀ D,H1 D=none->∃ W:Nat->Nat->Hp->Prop,(∃ m,W 0 m (upd H1 D (.lst [])))/\∀ i m H,W i m H ->
 (J.stop i H/\Q (.ref D) H)∨(J.go i H/\∃ Nx:Hp->Prop,(∀ H',Nx H'->∃ m',m' < m/\W (i+1) m' H')/\∀ x H',J.yld i H x H'->g x (wipe σ vs) H' fun σ2 H2=>wipe σ2 vs=wipe σ vs/\tt σ2 H2 fun b H3 =>
  if b=true then te σ2 H3 fun y H4=>∃ acc,H4 D=some (.lst acc)/\acc.length < sizeLine/\Nx (upd H4 D (.lst (acc++[y]))) else Nx H3)):tLc wi g tt te vs σ H Q:=h
theorem ev_add {σ:St}{H:Hp}{ta tb:TE}{i j:Int}(ha:Ev ta σ H (.int i))(hb:Ev tb σ H (.int j)):Ev (tOp (rI0 fun i j=>.int (i+j)) ta tb) σ H (.int (i+j)):=fun _ r=>ha _ (hb _ ⟨i,j,rfl,rfl,r⟩)
theorem ev_sub {σ:St}{H:Hp}{ta tb:TE}{i j:Int}(ha:Ev ta σ H (.int i))(hb:Ev tb σ H (.int j)):Ev (tOp (rI0 fun i j=>.int (i - j)) ta tb) σ H (.int (i - j)):=fun _ r=>ha _ (hb _ ⟨i,j,rfl,rfl,r⟩)
theorem tv_din {σ:St}{H:Hp}{ty td:TE}{y:V}{d:Addr}{o:Option V}(hy:Ev ty σ H y)(hd:Ev td σ H (.ref d))(g:DGet H d y o):Tv (tB (tDIn ty td)) σ H o.isSome:=fun _ r=>hy _ (hd _ ⟨d,o,rfl,g,_,rfl,r⟩)
def tChain3 (p q r:Int->Int->Bool)(ta tb tc td:TE):TT:=fun σ H Q=>∃ i j k l,Ev ta σ H (.int i)/\Ev tb σ H (.int j)/\Ev tc σ H (.int k)/\Ev td σ H (.int l)/\Q (p i j&&(q j k&&r k l)) H
theorem pt_chain3 {X:Cx}{a b c d:Expr}{o1 o2 o3:CmpOp}{p q r:Int->Int->Bool}{ta tb tc td:TE}{pos:Pos}(h1:OpR X (compareOp o1) (rI0 fun i j=>.bl (p i j)))(h2:OpR X (compareOp o2) (rI0 fun i j=>.bl (q i j)))(h3:OpR X (compareOp o3) (rI0 fun i j=>.bl (r i j)))
  (ha:PE X a ta)(hb:PE X b tb)(hc:PE X c tc)(hd:PE X d td)(hm:lastMarks [o1,o2,o3] [b,c,d]=false:=by with_unfolding_all rfl):PT X (.Compare a [o1,o2,o3] [b,c,d] pos) (tChain3 p q r ta tb tc td):=by
 rintro pins s σ H Q I ⟨i,j,k,l,ea,eb,ec,ed,hq⟩
 have get:∀ {e:Expr} {te:TE} {v:V},PE X e te->Ev te σ H v->∀ s',Inv X pins σ H s'->wpAny (model X.prog X.w) X.A (eval e X.env) (fun u s2=>RelV v u/\Inv X pins σ H s2) X.xe s':=fun {e te v} he ev s' I' =>
  thn (he pins s' σ H (fun x H1=>x=v/\H1=H) I' (ev _ ⟨rfl,rfl⟩)) fun u s2 ⟨x,H1,I2,rx,e1,e2⟩=>by
   subst e1 e2
   exact ⟨rx,I2⟩
 have cmp:∀ {op:CmpOp} {p:Int->Int->Bool} {i j:Int} {u v:Value},OpR X (compareOp op) (rI0 fun i j=>.bl (p i j))->RelV (.int i) u->RelV (.int j) v->∀ s',Inv X pins σ H s'->wpAny (model X.prog X.w) X.A (compareOp op u v) (fun c s2=>c=.bool (p i j)/\Inv X pins σ H s2) X.xe s':=fun {op p i j u v} ho ru rv s' I' =>
  thn (ho pins s' σ H _ _ u v (fun x H1=>x=.bl (p i j)/\H1=H) I' ru rv ⟨i,j,rfl,rfl,rfl,rfl⟩) fun c s2 ⟨x,H1,I2,rx,e1,e2⟩=>by
   subst e1 e2
   exact ⟨rx,I2⟩
 refine isTrue_chain (thn (get ha ea s I) fun u0 s0 ⟨r0,I0⟩=>test_link (thn (get hb eb s0 I0) fun u1 s1 ⟨r1,I1⟩=>thn (cmp h1 r0 r1 s1 I1) fun c1 s2 ⟨e1,I2⟩=>?_)) hm
 subst e1
 refine wpAny_truthy_bool ?_
 cases z1:p i j with
 | false=>rw [z1] at hq;exact ite_ff ⟨H,I2,hq⟩
 | true =>
  rw [z1] at hq
  refine ite_tt (test_link (thn (get hc ec s2 I2) fun u2 s3 ⟨r2,I3⟩=>thn (cmp h2 r1 r2 s3 I3) fun c2 s4 ⟨e2,I4⟩=>?_))
  subst e2
  refine wpAny_truthy_bool ?_
  cases z2:q j k with
  | false=>rw [z2] at hq;exact ite_ff ⟨H,I4,hq⟩
  | true =>
   rw [z2] at hq
   refine ite_tt (test_last (thn (get hd ed s4 I4) fun u3 s5 ⟨r3,I5⟩=>thn (cmp h3 r2 r3 s5 I5) fun c3 s6 ⟨e3,I6⟩=>?_))
   subst e3
   exact wpAny_truthy_bool ⟨H,I6,hq⟩
end L2
namespace Bw
open PySem PySem.Spec PyProof.Rows L2 Tote
def DSet (H:Hp)(d:Addr)(l:List Nat):Prop:=∃ kvs,H d=some (.dK kvs)/\kvs.length<=l.length/\∀ n:Nat,(valV kvs (Sum.inl (n:Int):Key)).isSome=decide (n∈l)
theorem DSet.put {kvs:List (Key×V)}{l:List Nat}{n:Nat}(h:kvs.length<=l.length)(hk:∀ n:Nat,(valV kvs (Sum.inl (n:Int):Key)).isSome=decide (n∈l)) :
  (putK kvs (Sum.inl (n:Int)) (V.bl true)).length<=(l++[n]).length/\∀ m:Nat,(valV (putK kvs (Sum.inl (n:Int)) (V.bl true)) (Sum.inl (m:Int):Key)).isSome=decide (m∈l++[n]):=by
 refine ⟨?_,fun m=>?_⟩
 · have:=length_putK kvs (Sum.inl (n:Int):Key) (V.bl true)
   rw [List.length_append]
   simp
   omega
 · rw [valV_put]
   by_cases e:m=n
   · subst e
     rw [if_pos rfl]
     simp
   · rw [if_neg (fun z=>e (by have:=Sum.inl.inj z;omega)),hk m]
     simp [e]
theorem small_3 {b:Int}(hb:0<=b)(hb':b < 100000):Builtin.Range.small 2 b 3=true:=by
 unfold Builtin.Range.small Builtin.Range.rangeSize
 simp only [Builtin.Range.rangeFitsLong,Bool.and_eq_true,Bool.or_eq_true,decide_eq_true_eq,beq_iff_eq,show ((3:Int) > 0) by decide,if_true]
 split <;> omega
theorem size_3 {m:Nat}:Builtin.Range.rangeSize 2 ((2+3*m:Nat):Int) 3=(m:Int):=by
 unfold Builtin.Range.rangeSize
 simp only [show ((3:Int) > 0) by decide,if_true]
 split <;> omega
theorem coup_step {R:Nat}{c a b:W}{r:List W}{fs ss:List Nat}:coupM R (c::a::b::r) fs ss=if c=cd "couple"/\1<=numM a/\numM a < numM b/\numM b<=(R:Int)/\¬ (numM a).toNat∈ss/\¬ (numM b).toNat∈fs/\¬ (numM b).toNat∈ss
  then coupM R r (fs++[(numM a).toNat]) (ss++[(numM b).toNat]) else none:=rfl
theorem drop3 {r:List W}{i:Nat}(h:i+3<=r.length):r.drop i=r.getD i []::r.getD (i+1) []::r.getD (i+2) []::r.drop (i+3):=by
 have g:∀ j,j < r.length->r.drop j=r.getD j []::r.drop (j+1):=fun j hj=>by
  rw [List.drop_eq_getElem_cons hj,List.getD_eq_getElem?_getD,List.getElem?_eq_getElem hj]
  rfl
 rw [g i (by omega),g (i+1) (by omega),g (i+2) (by omega)]
section
variable {P:Program}{w:World}{K:PySem.W.Frag}{mg:Str->Option Value}{base:Heap}
def spRace (K:PySem.W.Frag):Sp:=fun vs H Q _=>∃ (a:Addr) (ws:List W),vs=[.ref a]/\SqL K H a (sV ws)/\WsOk ws/\ws≠[] /\
 (raceM ws=none->∀ H',Same H H'->Q .non H')/\(∀ hs,raceM ws=some hs->∀ H' x,Same H H'->H x=none->H' x=some (.lst (nV hs))->Q (.ref x) H')
theorem race_eq {w0 n:W}{r:List W}:raceM (w0::n::r)=if r.length % 3=0/\r.length<=24/\2<=numM n/\numM n<=24 then (coupM (numM n).toNat r [] []).map (interests (numM n).toNat) else none:=rfl
theorem race_short {ws:List W}(hne:ws≠[])(h:(!((ws.length:Int)==2+3*(((ws.length:Int) - 2) / 3))||decide (8 < ((ws.length:Int) - 2) / 3))=true):raceM ws=none:=by
 match ws,hne with
 | [w0],_=>rfl
 | w0::n::r,_ =>
  rw [race_eq,if_neg]
  rintro ⟨z1,z2,_⟩
  have el:((w0::n::r).length:Int)=2+(r.length:Int):=by simp;omega
  rw [el] at h
  simp only [Bool.or_eq_true,Bool.not_eq_true',beq_eq_false_iff_ne,decide_eq_true_eq] at h
  omega
theorem race_long {ws:List W}(hne:ws≠[])(h:(ws.length:Int)=2+3*(((ws.length:Int) - 2) / 3)):∃ w0 n r,ws=w0::n::r:=by
 match ws,hne with
 | [w0],_=>exact absurd h (by show ¬ ((1:Int)=2+3*((1 - 2) / 3));decide)
 | w0::n::r,_=>exact ⟨w0,n,r,rfl⟩
theorem interests_eq (R:Nat)(ss:List Nat):interests R ss=((List.range R).map fun i=>i+1).filter fun n=>!decide (n∈ss):=by
 unfold interests
 congr 1
 funext n
 rw [List.contains_eq_mem]
theorem sc_race:FnScope ["words","couples","runners","firsts","seconds","at","first","second","runner"] ["words"] (defScope f_read_race):=⟨rfl,rfl,rfl,by decide +kernel,rfl,by decide +kernel,by decide +kernel⟩
theorem ok_race {dS aF:Addr}(G:GW mg)(GC:GC P w K mg dS aF){k:Nat}(FN:Fn P w K mg base CX0 k "number_of" ["word"] spNum){f:Addr}{fd:FuncData}(F:Fun K "read_race" "read_race" f_read_race f fd):FnOk P w K mg base CX0 (k+1) f fd ["words"] (spRace K):=by
 refine F.ok sc_race (fun vs H Q E h=>?_) (fun cdv A outer s H vs Q E hr h=>?_)
 · obtain ⟨_,_,rfl,_⟩:=h
   rfl
 · obtain ⟨a,ws,rfl,hS,ok,hne,q0,q1⟩:=h
   have hu:∀ {X:Cx},X.A=(A.deeper (envOfC "read_race" (defScope f_read_race) s.heap.objs.size f cdv))->X.A.units+1 < cLine:=fun {X} e=>by rw [e];have:=hr.un;omega
   refine ⟨_,pss_cons (ps_set (i:=1) sc_race.nd rfl (Or.inl rfl) (pe_op op_fdiv (pe_op op_sub (pe_callB call_len_seq (by rfl) G.len PySem.boot_len (pa_cons (pv 0) pa_nil)) pe_int) pe_int))
    (pss_cons (ps_if (PW.pt (pw_or (pt_cmpR op_ne (pe_callB call_len_seq (by rfl) G.len PySem.boot_len (pa_cons (pv 0) pa_nil)) (pe_op op_add pe_int (pe_op op_mul pe_int (pv 1))) (nomark _)) (pw_or1 (pt_cmpR op_gt (pv 1) (pe_gv GC.couples) (nomark _))))) (pss_one (ps_ret pe_non)) pss_nil)
    (pss_cons (ps_set (i:=2) sc_race.nd rfl (Or.inl rfl) (pe_fn FN hr pass0 (pa_cons (pe_ix ix_list (pv 0) pe_int (fun _ _=>rfl)) pa_nil)))
    (pss_cons (ps_if (pt_not (pt_chain op_le op_le pe_int (pv 2) (pe_gv GC.runners))) (pss_one (ps_ret pe_non)) pss_nil)
    (pss_cons (ps_set (i:=3) sc_race.nd rfl (Or.inl rfl) pe_dnewK)
    (pss_cons (ps_set (i:=4) sc_race.nd rfl (Or.inr rfl) pe_dnewK)
    (pss_cons (ps_for PassesOwn.never rfl (pi_range3 rfl GC.range (pa_cons pe_int (pa_cons (pe_callB call_len_seq (by rfl) G.len PySem.boot_len (pa_cons (pv 0) pa_nil)) (pa_cons pe_int pa_nil)))) (pg_name (i:=5) sc_race.nd rfl (Or.inl rfl))
     (pss_cons (ps_set (i:=6) sc_race.nd rfl (Or.inl rfl) (pe_fn FN hr pass0 (pa_cons (pe_ix ix_list (pv 0) (pe_op op_add (pv 5) pe_int) (fun _ _=>rfl)) pa_nil)))
     (pss_cons (ps_set (i:=7) sc_race.nd rfl (Or.inl rfl) (pe_fn FN hr pass0 (pa_cons (pe_ix ix_list (pv 0) (pe_op op_add (pv 5) pe_int) (fun _ _=>rfl)) pa_nil)))
     (pss_cons (ps_if (PW.pt (pw_or (pt_cmpR op_ne (pe_ix ix_list (pv 0) (pv 5) (fun _ _=>rfl)) pe_str (nomark _)) (pw_or1 (pt_not (pt_chain3 op_le op_lt op_le pe_int (pv 6) (pv 7) (pv 2)))))) (pss_one (ps_ret pe_non)) pss_nil)
     (pss_cons (ps_if (PW.pt (pw_or (pt_cmp (pc_din (hu rfl) (pv 6) (pv 4))) (pw_or (pt_cmp (pc_din (hu rfl) (pv 7) (pv 3))) (pw_or1 (pt_cmp (pc_din (hu rfl) (pv 7) (pv 4))))))) (pss_one (ps_ret pe_non)) pss_nil)
     (pss_cons (ps_dput (hu rfl) (pv 3) (pv 6) pe_bl rfl)
     (pss_one (ps_dput (hu rfl) (pv 4) (pv 7) pe_bl rfl))))))))
    (pss_one (ps_ret (pe_lc rfl sc_race.nd (pi_range2 rfl GC.range (pa_cons pe_int (pa_cons (pe_op op_add (pv 2) pe_int) pa_nil))) (blkOk_by (own:=[("runner",8)]) rfl) (fun _ _ _ _ _=>pg_name (i:=8) sc_race.nd rfl (Or.inl rfl)) (fun _ _ _ _ _=>pts_one (pt_cmp (pc_dnotin (hu rfl) (pv 8) (pv 4)))) (fun _ _ _ _ _=>pv 8)))))))))),?_⟩
   refine rd_set (ev_ic (ev_i (ev_lenQ (ev_var rfl) (.inl hS)) ev_c) ev_c ⟨by decide,by decide⟩) ?_
   rw [sV_len]
   refine rd_if (tv_or (tv_test (ev_ne (ev_lenQ (ev_var rfl) (.inl hS)) (ev_i ev_c (ev_ic ev_c (ev_var rfl) (.inl ⟨by decide,by decide⟩))))) fun _=>tv_i (ev_var rfl) ev_c) (fun h=>?_) (fun h=>?_)
   · refine rd_ret ev_c (q0 ?_ H (Same.refl H))
     rw [dec_int,sV_len] at h
     exact race_short hne h
   · rw [dec_int,sV_len] at h
     simp only [Bool.or_eq_false_iff,Bool.not_eq_false',beq_iff_eq,decide_eq_false_iff_not] at h
     obtain ⟨h1,h2⟩:=h
     obtain ⟨w0,n,r,rfl⟩:=race_long hne h1
     · have el:((w0::n::r).length:Int)=2+(r.length:Int):=by simp;omega
       rw [el] at h1 h2
       obtain ⟨m,hm⟩:∃ m:Nat,r.length=3*m:=⟨r.length / 3,by omega⟩
       have hm8:m<=8:=by omega
       have okn:n.length<=70000/\∀ c∈n,c < 128:=ok.getD 1
       refine rd_set (ev_num (wd:=n) (ev_ixL (ev_var rfl) ev_c hS (at_sV (i:=1) (by simp))) okn) ?_
       refine rd_if (tv_not (tv_chain ev_c (ev_var rfl) ev_c)) (fun h=>?_) (fun h=>?_)
       · refine rd_ret ev_c (q0 ?_ H (Same.refl H))
         rw [race_eq,if_neg]
         rintro ⟨_,_,z1,z2⟩
         simp only [Bool.not_eq_true',Bool.and_eq_false_iff,decide_eq_false_iff_not] at h
         omega
       simp only [Bool.not_eq_false',Bool.and_eq_true,decide_eq_true_eq] at h
       have hn:numM n=(((numM n).toNat:Nat):Int):=by omega
       generalize hR:(numM n).toNat=R at hn
       have hre:raceM (w0::n::r)=(coupM R r [] []).map (interests R):=by
        rw [race_eq,if_pos ⟨by omega,by omega,h.1,h.2⟩,hR]
       rw [hn]
       intro d1 hd1 d2 hd2
       have n12:d2≠d1:=by
        rintro rfl
        rw [upd_same] at hd2
        cases hd2
       have hd2':H d2=none:=by rwa [upd_ne n12] at hd2
       have lenW:((w0::n::r).length:Int)=((2+3*m:Nat):Int):=by rw [el,hm];omega
       have S0:Same H (upd (upd H d1 (.dK [])) d2 (.dK [])):=((Same.refl H).laid hd1).laid hd2'
       refine rd_for (rd_rng3 (n:=m) ev_c (ev_lenQ (ev_var rfl) (.inl (S0.seq hS))) ev_c ⟨by decide,by decide,?_,?_⟩ ?_)
       · rw [sV_len,lenW]
         exact small_3 (by omega) (by omega)
       · rw [sV_len,lenW]
         exact size_3
       refine for_rangeC (lo:=2) (c:=3) (n:=m) (fun i σ H'=>∃ (v5 v6 v7:Option V) (fs ss:List Nat),σ=[some (.ref a),some (.int ((((w0::n::r).length:Int) - 2) / 3)),some (.int (R:Nat)),some (.ref d1),some (.ref d2),v5,v6,v7,none] /\
         Same H H'/\DSet H' d1 fs/\DSet H' d2 ss/\fs.length<=i/\ss.length<=i/\coupM R (r.drop (3*i)) fs ss=coupM R r [] [])
        ⟨none,none,none,[],[],rfl,S0,⟨[],by rw [upd_ne n12.symm];exact upd_same,Nat.le_refl _,fun _=>rfl⟩,⟨[],upd_same,Nat.le_refl _,fun _=>rfl⟩,Nat.le_refl _,Nat.le_refl _,rfl⟩ ?_ ?_
       · rintro i σ H' hi ⟨v5,v6,v7,fs,ss,rfl,S1,⟨k1,e1,l1,p1⟩,⟨k2,e2,l2,p2⟩,lf,ls,hc⟩
         have hS1:=S1.seq hS
         have d3:r.drop (3*i)=r.getD (3*i) []::r.getD (3*i+1) []::r.getD (3*i+2) []::r.drop (3*(i+1)):=by
          have:=drop3 (r:=r) (i:=3*i) (by omega)
          rw [this,show 3*i+3=3*(i+1) by omega]
         have ga:∀ j,(w0::n::r).getD (2+j) []=r.getD j []:=fun j=>by
          rw [show 2+j=j+1+1 by omega]
          rfl
         have at0:atI (sV (w0::n::r)) (2+(i:Nat)*3)=some (.str (st (r.getD (3*i) []))):=by
          have:=at_sV (ws:=w0::n::r) (i:=2+3*i) (by simp;omega)
          rw [ga] at this
          rw [show (2:Int)+(i:Nat)*3=((2+3*i:Nat):Int) by omega]
          exact this
         have at1:atI (sV (w0::n::r)) (2+(i:Nat)*3+1)=some (.str (st (r.getD (3*i+1) []))):=by
          have:=at_sV (ws:=w0::n::r) (i:=2+(3*i+1)) (by simp;omega)
          rw [ga] at this
          rw [show (2:Int)+(i:Nat)*3+1=((2+(3*i+1):Nat):Int) by omega]
          exact this
         have at2:atI (sV (w0::n::r)) (2+(i:Nat)*3+2)=some (.str (st (r.getD (3*i+2) []))):=by
          have:=at_sV (ws:=w0::n::r) (i:=2+(3*i+2)) (by simp;omega)
          rw [ga] at this
          rw [show (2:Int)+(i:Nat)*3+2=((2+(3*i+2):Nat):Int) by omega]
          exact this
         have ok1:(r.getD (3*i+1) []).length<=70000/\∀ c∈r.getD (3*i+1) [],c < 128:=by rw [← ga];exact ok.getD _
         have ok2:(r.getD (3*i+2) []).length<=70000/\∀ c∈r.getD (3*i+2) [],c < 128:=by rw [← ga];exact ok.getD _
         rw [d3,coup_step] at hc
         generalize hA:numM (r.getD (3*i+1) [])=na at hc
         generalize hB:numM (r.getD (3*i+2) [])=nb at hc
         refine rd_set (ev_num (ev_ixL (ev_var rfl) (ev_i (ev_var rfl) ev_c) hS1 at1) ok1) ?_
         refine rd_set (ev_num (ev_ixL (ev_var rfl) (ev_i (ev_var rfl) ev_c) hS1 at2) ok2) ?_
         rw [hA,hB]
         have none_:coupM R r [] []=none->Q .non H':=fun z=>q0 (by rw [hre,z];rfl) H' S1
         refine rd_if (tv_or (tv_test (ev_ne (ev_ixL (ev_var rfl) (ev_var rfl) hS1 at0) ev_c)) fun _=>tv_not (fun R' r'=>⟨1,na,nb,(R:Int),ev_c,ev_var rfl,ev_var rfl,ev_var rfl,r'⟩)) (fun h=>?_) (fun h=>?_)
         · refine rd_ret ev_c (none_ ?_)
           rw [← hc,if_neg]
           rintro ⟨z1,z2,z3,z4,_⟩
           rw [lit_eq] at h
           dsimp only at h
           rw [decide_eq_true z1,decide_eq_true z2,decide_eq_true z3,decide_eq_true z4] at h
           cases h
         · rw [lit_eq] at h
           simp only [Bool.or_eq_false_iff,Bool.not_eq_false',Bool.and_eq_true,decide_eq_true_eq] at h
           obtain ⟨z1,z2,z3,z4⟩:=h
           have ea:na=((na.toNat:Nat):Int):=by omega
           have eb:nb=((nb.toNat:Nat):Int):=by omega
           have gt1:DGet H' d2 (.int na) (valV k2 (Sum.inl na)):=DGet.k (k:=Sum.inl na) e2
           have gt2:DGet H' d1 (.int nb) (valV k1 (Sum.inl nb)):=DGet.k (k:=Sum.inl nb) e1
           have gt3:DGet H' d2 (.int nb) (valV k2 (Sum.inl nb)):=DGet.k (k:=Sum.inl nb) e2
           have s1:(valV k2 (Sum.inl na)).isSome=decide (na.toNat∈ss):=by rw [← p2,← ea]
           have s2:(valV k1 (Sum.inl nb)).isSome=decide (nb.toNat∈fs):=by rw [← p1,← eb]
           have s3:(valV k2 (Sum.inl nb)).isSome=decide (nb.toNat∈ss):=by rw [← p2,← eb]
           refine rd_if (tv_or (tv_din (ev_var rfl) (ev_var rfl) gt1) fun _=>tv_or (tv_din (ev_var rfl) (ev_var rfl) gt2) fun _=>tv_din (ev_var rfl) (ev_var rfl) gt3) (fun h=>?_) (fun h=>?_)
           · refine rd_ret ev_c (none_ ?_)
             rw [← hc,if_neg]
             rintro ⟨_,_,_,_,y1,y2,y3⟩
             rw [s1,s2,s3,decide_eq_false y1,decide_eq_false y2,decide_eq_false y3] at h
             cases h
           · rw [s1,s2,s3] at h
             simp only [Bool.or_eq_false_iff,decide_eq_false_iff_not] at h
             obtain ⟨y1,y2,y3⟩:=h
             rw [if_pos ⟨z1,z2,z3,z4,y1,y2,y3⟩] at hc
             have n21:d1≠d2:=n12.symm
             have pu1:=DSet.put (n:=na.toNat) l1 p1
             have pu2:=DSet.put (n:=nb.toNat) l2 p2
             rw [← ea] at pu1
             rw [← eb] at pu2
             refine ⟨_,rfl,_,rfl,d1,_,rfl,.inl ⟨k1,Sum.inl na,e1,rfl,by rw [sizeLine_eq];omega,rfl⟩,?_⟩
             refine ⟨_,rfl,_,rfl,d2,_,rfl,.inl ⟨k2,Sum.inl nb,by rw [upd_ne n12];exact e2,rfl,by rw [sizeLine_eq];omega,rfl⟩,?_⟩
             refine ⟨_,_,_,fs++[na.toNat],ss++[nb.toNat],rfl,fun b u z=>?_,⟨_,by rw [upd_ne n21];exact upd_same,pu1⟩,⟨_,upd_same,pu2⟩,by rw [List.length_append];simp;omega,by rw [List.length_append];simp;omega,hc⟩
             rw [upd_ne (ne_of_none z hd2'),upd_ne (ne_of_none z hd1)]
             exact S1 b u z
       · rintro σ H' ⟨v5,v6,v7,fs,ss,rfl,S1,hF1,⟨k2,e2,l2,p2⟩,lf,ls,hc⟩
         rw [List.drop_eq_nil_of_le (by omega)] at hc
         have hc:some ss=coupM R r [] []:=hc
         rw [← hc] at hre
         dsimp only
         refine rd_rt (rd_lc ?_)
         refine rd_rng2 (i:=1) (j:=((R:Nat):Int)+1) ev_c (ev_add (ev_var rfl) ev_c) ⟨by decide,by decide,by omega,by omega⟩ ?_
         intro D hD
         rw [show (((R:Nat):Int)+1 - 1).toNat=R by omega]
         refine lc_range (lo:=1) (n:=R) (fun i H2=>Same H' H2/\H2 D=some (.lst (nV (((List.range i).map fun j=>j+1).filter fun n=>!decide (n∈ss))))) ⟨(Same.refl H').laid hD,upd_same⟩ ?_ ?_
         · rintro i H2 hi ⟨m1,m2⟩
           refine ⟨rfl,?_⟩
           have gt:DGet H2 d2 (.int (1+(i:Nat))) (valV k2 (Sum.inl (1+(i:Nat):Int))):=DGet.k (k:=Sum.inl (1+(i:Nat):Int)) (m1 _ _ e2)
           have sg:(valV k2 (Sum.inl (1+(i:Nat):Int))).isSome=decide (i+1∈ss):=by rw [← p2];congr 3;omega
           refine ⟨_,rfl,_,rfl,d2,_,rfl,gt,_,rfl,?_⟩
           rw [sg]
           have fl:((List.range (i+1)).map fun j=>j+1).filter (fun n=>!decide (n∈ss))=(((List.range i).map fun j=>j+1).filter fun n=>!decide (n∈ss))++(if (!decide (i+1∈ss))=true then [i+1] else []):=by
            rw [List.range_succ,List.map_append,List.filter_append]
            congr 1
            by_cases z:i+1∈ss
            · simp [z]
            · simp [z]
           refine ite2 (fun h=>?_) (fun h=>?_)
           · refine ⟨_,rfl,_,m2,?_,fun b u z=>?_,?_⟩
             · rw [nV_len,sizeLine_eq]
               have:=List.length_filter_le (fun n=>!decide (n∈ss)) ((List.range i).map fun j=>j+1)
               rw [List.length_map,List.length_range] at this
               omega
             · rw [upd_ne (ne_of_none z hD)]
               exact m1 b u z
             · rw [upd_same,fl,if_pos h]
               unfold nV
               rw [List.map_append]
               show some (HO.lst (_++[V.int (1+(i:Nat))]))=some (HO.lst (_++[V.int ((i+1:Nat):Int)]))
               rw [show (1:Int)+(i:Nat)=((i+1:Nat):Int) by omega]
           · refine ⟨m1,?_⟩
             rw [fl,if_neg h,List.append_nil]
             exact m2
         · rintro H2 ⟨m1,m2⟩
           refine q1 (interests R ss) hre H2 D (S1.trans m1) (S1.free hD) ?_
           rw [m2,interests_eq]
end
end Bw
namespace L2
open PySem PySem.Spec PyProof.Rows
theorem op_noneIn {X:Cx}(hu:X.A.units+1 < cLine):OpR X (compareOp .In) (fun x y H Q=>∃ p xs,x=.non/\y=.ref p/\SqL X.K H p xs/\(∀ v∈xs,v=.non∨∃ a ys,v=.ref a/\SqL X.K H a ys)/\Q (.bl (xs.any fun v=>decide (v=.non))) H):=by
 intro pins s σ H x y v u Q I rx ry h
 obtain ⟨p,xs,rfl,rfl,hq,hx,q⟩:=h
 cases ry
 cases rx
 obtain ⟨its,r,pl,hz⟩:=I.list hq
 have key:∀ {xs:List V} {us:List Value},Vals xs us->(∀ v∈xs,v=.non∨∃ a ys,v=.ref a/\SqL X.K H a ys)->(∀ u∈us,SeqAt.EqAt X.A.in1 s u .none (u==.none))/\us.any (·==.none)=xs.any fun v=>decide (v=.non):=by
  intro xs us r
  induction r with
  | nil=>exact fun _=>⟨fun u hu=>by simp at hu,rfl⟩
  | @cons v u xs us r1 r2 ih =>
   intro hx
   obtain ⟨ih1,ih2⟩:=ih fun v hv=>hx v (List.mem_cons_of_mem _ hv)
   have e1:SeqAt.EqAt X.A.in1 s u .none (u==.none)/\(u==.none)=decide (v=.non):=by
    rcases hx v (List.mem_cons_self ..) with rfl|⟨a,ys,rfl,hs⟩
    · cases r1
      exact ⟨SeqAt.EqAt.same _,rfl⟩
    · cases r1
      obtain ⟨its2,_,pl2,_⟩:=I.list hs
      refine ⟨?_,rfl⟩
      exact SeqAt.EqAt.list_none pl2.isList (by show X.A.units+1 < cLine;exact hu)
   refine ⟨fun u' hu'=>?_,?_⟩
   · rcases List.mem_cons.mp hu' with rfl|h
     · exact e1.1
     · exact ih1 u' h
   · rw [List.any_cons,List.any_cons,e1.2,ih2]
 obtain ⟨k1,k2⟩:=key r hx
 refine SeqAt.in_listAt (·==.none) pl.isList (fun w hw=>k1 w (by simpa using hw)) ⟨.bl _,H,I,rfl,?_⟩
 rw [show its.toArray.any (·==.none)=its.any (·==.none) by simp,k2]
 exact q
end L2
namespace Bw
open PySem PySem.Spec PyProof.Rows L2 Tote
def LinesAt (K:PySem.W.Frag)(H:Hp)(a:Addr)(ls:List (List W)):Prop:=∃ as:List Addr,SqL K H a (as.map V.ref)/\Paired (fun b ws=>SqL K H b (sV ws)) as ls
def DNam (kvs:List (Key×V))(l:List W):Prop:=kvs.length<=l.length/\∀ n:W,(valV kvs (Sum.inr (st n):Key)).isSome=l.contains n
theorem DNam.put {kvs:List (Key×V)}{l:List W}{n:W}(h:DNam kvs l):DNam (putK kvs (Sum.inr (st n)) (V.bl true)) (l++[n]):=by
 refine ⟨?_,fun m=>?_⟩
 · have:=length_putK kvs (Sum.inr (st n):Key) (V.bl true)
   have:=h.1
   rw [List.length_append]
   simp
   omega
 · rw [valV_put]
   by_cases e:m=n
   · subst e
     rw [if_pos rfl]
     simp
   · rw [if_neg (fun z=>e (st_inj.mp (Sum.inr.inj z))),h.2 m]
     simp [e]
def PoolI (K:PySem.W.Frag)(C:Addr)(H H':Hp)(pl:Addr)(a:Addr)(p:PoolM):Prop:=∃ dx fa fas,H' a=some (.ins C dx (fPool (.str (st p.name)) (.str (st (cd (kindS p.kind)))) (.ref fa) (.int (p.unit:Nat))))/\fa≠pl/\H' fa=some (.lst (fas.map V.ref))/\Paired (IntsAt K H) fas p.fields
section
variable {P:Program}{w:World}{K:PySem.W.Frag}{mg:Str->Option Value}{base:Heap}
def spPools (K:PySem.W.Frag) (C:Addr):Sp:=fun vs H Q _=>∃ (a b:Addr) (ls:List (List W)) (rs:List (List Nat)),vs=[.ref a,.ref b]/\LinesAt K H a ls/\(∀ ws∈ls,WsOk ws)/\ListsAt K H b rs/\rs.length<=16 /\
 (poolsM ls rs=none->∀ H',Same H H'->Q .non H')/\(∀ ps,poolsM ls rs=some ps->∀ H' x,Same H H'->PoolsAt K C H' x ps->Q (.ref x) H')
theorem sc_pools:FnScope ["lines","races","pools","names","words","pool"] ["lines","races"] (defScope f_read_pools):=⟨rfl,rfl,rfl,by decide +kernel,rfl,by decide +kernel,by decide +kernel⟩
theorem ok_pools {dS aF C:Addr}(G:GW mg)(GC:GC P w K mg dS aF)(T:CK K mg "Pool" poolFs C){k:Nat}(FP:Fn P w K mg base CX0 k "read_pool" ["words","races"] (spPool K C)){f:Addr}{fd:FuncData}(F:Fun K "read_pools" "read_pools" f_read_pools f fd) :
  FnOk P w K mg base CX0 (k+1) f fd ["lines","races"] (spPools K C):=by
 refine F.ok sc_pools (fun vs H Q E h=>?_) (fun cdv A outer s H vs Q E hr h=>?_)
 · obtain ⟨_,_,_,_,rfl,_⟩:=h
   rfl
 · obtain ⟨a,b,ls,rs,rfl,⟨as,hA,hP⟩,ok,⟨rsa,hRa,hPr⟩,hR16,q0,q1⟩:=h
   have lenA:as.length=ls.length:=Paired.length hP
   have hu:=hu_of hr
   refine ⟨_,pss_cons (ps_if (pt_cmpR op_gt (pe_callB call_len_seq (by rfl) G.len PySem.boot_len (pa_cons (pv 0) pa_nil)) (pe_gv GC.pools) (nomark _)) (pss_one (ps_ret pe_non)) pss_nil)
    (pss_cons (ps_set (i:=2) sc_pools.nd rfl (Or.inl rfl) (pe_lst pa_nil))
    (pss_cons (ps_set (i:=3) sc_pools.nd rfl (Or.inl rfl) pe_dnewK)
    (pss_cons (ps_for PassesOwn.never rfl (pi_list (pv 0)) (pg_name (i:=4) sc_pools.nd rfl (Or.inl rfl))
     (pss_cons (ps_set (i:=5) sc_pools.nd rfl (Or.inl rfl) (pe_fn FP hr pass0 (pa_cons (pv 4) (pa_cons (pv 1) pa_nil))))
     (pss_cons (ps_if (PW.pt (pw_or (pt_cmpR op_isN (pv 5) pe_non (nomark _)) (pw_or1 (pt_cmp (pc_din hu (pe_fld (pv 5) rfl) (pv 3)))))) (pss_one (ps_ret pe_non)) pss_nil)
     (pss_cons (ps_dput hu (pv 3) (pe_fld (pv 5) rfl) pe_bl rfl)
     (pss_one (ps_expr (pe_bm PySem.F.plainAttrs_list PySem.F.slot_list_append PySem.F.type_list_append mt_append (pv 2) (pa_cons (pv 5) pa_nil))))))))
    (pss_one (ps_ret (pv 2)))))),?_⟩
   refine rd_if (tv_i (ev_lenQ (ev_var rfl) (.inl hA)) ev_c) (fun h=>?_) (fun h=>?_)
   · refine rd_ret ev_c (q0 ?_ H (Same.refl H))
     rw [List.length_map,lenA] at h
     unfold poolsM
     rw [if_pos (by have:=of_decide_eq_true h;omega)]
   rw [List.length_map,lenA] at h
   have hl:¬ 64 < ls.length:=by have:=of_decide_eq_false h;omega
   have eP:poolsM ls rs=poolRec rs [] ls:=by unfold poolsM;rw [if_neg hl]
   rw [eP] at q0 q1
   refine ⟨Nat.zero_le _,fun pl hpl=>?_⟩
   intro dn hdn
   have ndp:dn≠pl:=by
    rintro rfl
    rw [upd_same] at hdn
    cases hdn
   have hdn0:H dn=none:=by rwa [upd_ne ndp] at hdn
   have S0:Same H (upd (upd H pl (.lst [])) dn (.dK [])):=((Same.refl H).laid hpl).laid hdn0
   refine ⟨_,rfl,a,rfl,⟨_,S0.seq hA⟩,for_list (K:=K) (a:=a) (xs:=as.map V.ref) (fun i σ H'=>∃ (v4 v5:Option V) (acc:List PoolM) (pas:List Addr) (kvs:List (Key×V)),σ=[some (.ref a),some (.ref b),some (.ref pl),some (.ref dn),v4,v5]/\Same H H' /\
     H' pl=some (.lst (pas.map V.ref))/\H' dn=some (.dK kvs)/\DNam kvs (acc.map (·.name))/\Paired (PoolI K C H H' pl) pas acc/\acc.length<=i/\poolRec rs acc (ls.drop i)=poolRec rs [] ls)
    ⟨none,none,[],[],[],rfl,S0,by rw [upd_ne ndp.symm];exact upd_same,upd_same,⟨Nat.le_refl _,fun _=>rfl⟩,.nil,Nat.le_refl _,rfl⟩ (fun i σ H' _ ⟨_,_,_,_,_,_,S1,_⟩=>S1.seq hA) ?_ ?_⟩
   · rintro i x σ H' hi ⟨v4,v5,acc,pas,kvs,rfl,S1,e1,e2,dnm,hI,hlen,hc⟩
     rw [List.getElem?_map] at hi
     obtain ⟨ai,hai,rfl⟩:=Option.map_eq_some_iff.mp hi
     obtain ⟨ws,hws,hsq⟩:=Paired.at1 hP hai
     have hil:i < ls.length:=(List.getElem?_eq_some_iff.mp hws).1
     have hd:ls.drop i=ws::ls.drop (i+1):=by
      rw [List.drop_eq_getElem_cons hil]
      congr 1
      exact Option.some.inj ((List.getElem?_eq_getElem hil).symm.trans hws)
     rw [hd] at hc
     have hc:(match poolM ws rs with
      | none=>none
      | some p=>if (acc.map (·.name)).contains p.name=true then none else poolRec rs (acc++[p]) (ls.drop (i+1)))=poolRec rs [] ls:=hc
     refine ⟨_,rfl,_,rfl,ai,b,ws,rsa,rs,rfl,S1.seq hsq,ok ws (List.mem_of_getElem? hws),S1.seq hRa,lists_same hPr S1,hR16,fun hn H2 e=>?_,fun p hp H2 x dx fa fas e nx nfa hx hfa hfp=>?_⟩
     · refine ⟨_,rfl,rfl,_,rfl,?_⟩
       rw [hn] at hc
       exact q0 hc.symm H2 (S1.trans e)
     · refine ⟨_,rfl,rfl,_,rfl,?_⟩
       rw [hp] at hc
       have hc:(if (acc.map (·.name)).contains p.name=true then none else poolRec rs (acc++[p]) (ls.drop (i+1)))=poolRec rs [] ls:=hc
       have e2':=e _ _ e2
       have e1':=e _ _ e1
       have S2:=S1.trans e
       have gt:DGet H2 dn (.str (st p.name)) (valV kvs (Sum.inr (st p.name))):=DGet.k (k:=Sum.inr (st p.name)) e2'
       refine (tv_din (ev_fld (ev_var rfl) hx T.cl (T.no _ (by simp)) fPool_name) (ev_var rfl) gt) _ ?_
       rw [dnm.2]
       refine ite2 (fun h=>?_) (fun h=>?_)
       · rw [if_pos h] at hc
         exact q0 hc.symm H2 S2
       · rw [if_neg h] at hc
         have nxp:x≠pl:=(ne_of_none e1 nx).symm
         have nxd:x≠dn:=(ne_of_none e2 nx).symm
         have nfp:fa≠pl:=(ne_of_none e1 nfa).symm
         have nfd:fa≠dn:=(ne_of_none e2 nfa).symm
         have lenP:pas.length=acc.length:=Paired.length hI
         refine ⟨_,rfl,?_⟩
         refine (ev_fld (ev_var rfl) hx T.cl (T.no _ (by simp)) fPool_name) _ ⟨dn,_,rfl,.inl ⟨kvs,Sum.inr (st p.name),e2',rfl,?_,rfl⟩,?_⟩
         · have:=dnm.1
           rw [List.length_map] at this
           rw [sizeLine_eq]
           omega
         refine ⟨_,rfl,.inl ⟨rfl,_,SqL.of (by rw [upd_ne ndp.symm];exact e1')⟩,_,rfl,pl,_,_,rfl,rfl,by rw [upd_ne ndp.symm];exact e1',?_,?_⟩
         · rw [List.length_map,sizeLine_eq]
           omega
         refine ⟨_,_,acc++[p],pas++[x],_,rfl,fun c u z=>?_,?_,by rw [upd_ne ndp];exact upd_same,?_,?_,by rw [List.length_append];simp;omega,hc⟩
         · rw [upd_ne (ne_of_none z hpl),upd_ne (ne_of_none z hdn0)]
           exact S2 c u z
         · rw [upd_same,List.map_append]
           rfl
         · rw [List.map_append]
           exact dnm.put
         · have keep:∀ c u,H2 c=some u->c≠pl->c≠dn->(upd (upd H2 dn (.dK (putK kvs (Sum.inr (st p.name)) (V.bl true)))) pl (.lst (pas.map V.ref++[V.ref x]))) c=some u:=fun c u z n1 n2=>by
            rw [upd_ne n1,upd_ne n2]
            exact z
           refine Paired.snoc (Paired.mapP hI fun c q z=>?_) ⟨dx,fa,fas,keep _ _ hx nxp nxd,nfp,keep _ _ hfa nfp nfd,?_⟩
           · obtain ⟨dx',fa',fas',z1,z2,z3,z4⟩:=z
             have n1:c≠pl:=ne_of z1 e1 (by intro q;cases q)
             have n2:c≠dn:=ne_of z1 e2 (by intro q;cases q)
             have n3:fa'≠dn:=ne_of z3 e2 (by intro q;cases q)
             exact ⟨dx',fa',fas',keep _ _ (e _ _ z1) n1 n2,z2,keep _ _ (e _ _ z3) z2 n3,z4⟩
           · exact hfp _ hPr
   · rintro σ H' ⟨v4,v5,acc,pas,kvs,rfl,S1,e1,e2,dnm,hI,hlen,hc⟩
     rw [List.length_map,lenA,List.drop_eq_nil_of_le (Nat.le_refl _)] at hc
     have hc:some acc=poolRec rs [] ls:=hc
     refine ⟨_,rfl,q1 acc hc.symm H' pl S1 ⟨pas,SqL.of e1,Paired.mapP hI fun c q z=>?_⟩⟩
     obtain ⟨dx',fa',fas',z1,z2,z3,z4⟩:=z
     exact ⟨dx',fa',z1,fas',SqL.of z3,lists_same z4 S1⟩
end
theorem spl_one (c:Nat):∀ (l acc:W),TL.spl [c] 0 acc l=splitC c acc l
 | [],acc=>by rw [TL.spl_nil];rfl
 | x::r,acc=>by
  by_cases h:x=c
  · subst h
    rw [TL.spl_hit (by unfold TL.pre;simp)]
    show acc::TL.spl [x] 0 [] r=(if x=x then acc::splitC x [] r else _)
    rw [if_pos rfl,spl_one x r []]
  · rw [TL.spl_miss (TL.pre_of_head [] r h)]
    show TL.spl [c] 0 (acc++[x]) r=(if x=c then _ else splitC c (acc++[x]) r)
    rw [if_neg h,spl_one c r (acc++[x])]
theorem split_st {c:Nat}(hc:c < 256)(l:W):Txt.split (st l) (st [c])=(splitC c [] l).map st:=by
 refine TL.map_tl_inj ?_
 rw [TL.split_spl (st l) (st [c]) (by rw [tl_st];simp) (TL.kind_ok (by show [c].toArray.all (· < 256)=true;simp [hc])),tl_st,tl_st,spl_one,List.map_map]
 symm
 exact (List.map_congr_left fun w _=>tl_st w).trans (List.map_id _)
theorem splitC_ne (c:Nat):∀ (l w:W),splitC c w l≠[]
 | [],_=>by simp [splitC]
 | x::l,w=>by
  unfold splitC
  split
  · simp
  · exact splitC_ne c l _
theorem splitC_sub (c:Nat):∀ (l acc:W),∀ w∈splitC c acc l,w.length<=acc.length+l.length/\∀ x∈w,x∈acc∨x∈l
 | [],acc,w,hw=>by
  have:w=acc:=by simpa [splitC] using hw
  subst this
  exact ⟨by simp,fun x hx=>.inl hx⟩
 | y::l,acc,w,hw=>by
  unfold splitC at hw
  split at hw
  · rcases List.mem_cons.mp hw with rfl|hw
    · exact ⟨by simp,fun x hx=>.inl hx⟩
    · obtain ⟨h1,h2⟩:=splitC_sub c l [] w hw
      refine ⟨by simp at h1 ⊢;omega,fun x hx=>?_⟩
      rcases h2 x hx with h|h
      · simp at h
      · exact .inr (List.mem_cons_of_mem _ h)
  · obtain ⟨h1,h2⟩:=splitC_sub c l (acc++[y]) w hw
    refine ⟨by simp at h1 ⊢;omega,fun x hx=>?_⟩
    rcases h2 x hx with h|h
    · rcases List.mem_append.mp h with h|h
      · exact .inl h
      · have:x=y:=by simpa using h
        exact .inr (by simp [this])
    · exact .inr (List.mem_cons_of_mem _ h)
theorem splitC_len (c:Nat):∀ (l acc:W),(splitC c acc l).length<=l.length+1
 | [],_=>by simp [splitC]
 | y::l,acc=>by
  unfold splitC
  split
  · have:=splitC_len c l []
    simp
    omega
  · have:=splitC_len c l (acc++[y])
    simp
    omega
theorem lit_nl:Str.ofString "\n"=st [10]:=by rw [of_st];rfl
theorem lit_sp:Str.ofString " "=st [32]:=by rw [of_st];rfl
theorem ends_eq (l:W):Txt.endswith (st l) (st [10])=decide (l.getLast?=some 10):=by
 unfold Txt.endswith
 rw [PySem.StrLaws.subAt_eq,st_len,st_len]
 show (decide (0+1<=l.length)&&((l.drop (l.length - 1)).take 1==[10]))=_
 rcases List.eq_nil_or_concat l with rfl|⟨r,x,rfl⟩
 · rfl
 · rw [List.concat_eq_append,List.getLast?_concat]
   simp
   rw [Bool.eq_iff_iff,beq_iff_eq,decide_eq_true_eq]
theorem cut_last (l:W):cutS (st l) none (some (-1))=st l.dropLast:=by
 unfold cutS
 rw [HT.sIx_none]
 refine congrArg (fun z:List Nat=>(⟨z.toArray⟩:Str)) ?_
 show (l.drop 0).take (HT.sIx (st l).length (st l).length (some (-1)) - 0)=l.dropLast
 rw [st_len,List.drop_zero,Nat.sub_zero,List.dropLast_eq_take]
 congr 1
 unfold HT.sIx
 simp
 omega
theorem takeWhile_at {α:Type}(p:α->Bool):∀ (l:List α) (n:Nat),n<=l.length->(∀ j x,j < n->l[j]?=some x->p x=true)->(∀ x,l[n]?=some x->p x=false)->(l.takeWhile p).length=n/\l.takeWhile p=l.take n/\l.dropWhile p=l.drop n
 | [],n,h,_,_=>by
  have:n=0:=by simpa using h
  subst this
  exact ⟨rfl,rfl,rfl⟩
 | x::l,0,_,_,h2=>by
  have:=h2 x rfl
  simp [List.takeWhile_cons,List.dropWhile_cons,this]
 | x::l,n+1,h,h1,h2=>by
  have hx:=h1 0 x (by omega) rfl
  obtain ⟨a,b,c⟩:=takeWhile_at p l n (by simpa using h) (fun j y hj hy=>h1 (j+1) y (by omega) hy) (fun y hy=>h2 y hy)
  refine ⟨?_,?_,?_⟩
  · rw [List.takeWhile_cons,if_pos hx,List.length_cons,a]
  · rw [List.takeWhile_cons,if_pos hx,b]
    rfl
  · rw [List.dropWhile_cons,if_pos hx,c]
    rfl
def RaceV (H:Hp)(D:Addr)(v:V)(ws:List W):Prop:=match raceM ws with
 | none=>v=.non
 | some hs=>∃ x,v=.ref x/\x≠D/\H x=some (.lst (nV hs))
theorem races_all {H:Hp}{D:Addr}:∀ {vs:List V} {ls:List (List W)},Paired (RaceV H D) vs ls->¬ none∈ls.map raceM->∃ as:List Addr,vs=as.map V.ref/\Paired (fun a hs=>H a=some (.lst (nV hs))) as ((ls.map raceM).filterMap id)
 | _,_,.nil,_=>⟨[],rfl,.nil⟩
 | v::vs,ws::ls,.cons r t,h=>by
  obtain ⟨as,e,p⟩:=races_all t fun z=>h (by simp at z ⊢;exact .inr z)
  unfold RaceV at r
  cases hr:raceM ws with
  | none=>exact absurd (by simp [hr]) h
  | some hs =>
   rw [hr] at r
   obtain ⟨x,rfl,_,hx⟩:=r
   refine ⟨x::as,by rw [e];rfl,?_⟩
   rw [List.map_cons,hr]
   exact .cons hx p
theorem races_any {H:Hp}{D:Addr}:∀ {vs:List V} {ls:List (List W)},Paired (RaceV H D) vs ls->(vs.any fun v=>decide (v=.non))=decide (none∈ls.map raceM)
 | _,_,.nil=>rfl
 | v::vs,ws::ls,.cons r t=>by
  rw [List.any_cons,races_any t]
  unfold RaceV at r
  cases hr:raceM ws with
  | none =>
   rw [hr] at r
   simp [hr,show v=.non from r]
  | some hs =>
   rw [hr] at r
   obtain ⟨x,rfl,_⟩:=r
   simp [hr]
theorem races_items {K:PySem.W.Frag}{H:Hp}{D:Addr}:∀ {vs:List V} {ls:List (List W)},Paired (RaceV H D) vs ls->∀ v∈vs,v=.non∨∃ a ys,v=.ref a/\SqL K H a ys
 | _,_,.nil,v,hv=>by simp at hv
 | v::vs,ws::ls,.cons r t,u,hu=>by
  rcases List.mem_cons.mp hu with rfl|hu
  · unfold RaceV at r
    cases hr:raceM ws with
    | none=>rw [hr] at r;exact .inl r
    | some hs =>
     rw [hr] at r
     obtain ⟨x,rfl,_,hx⟩:=r
     exact .inr ⟨x,_,rfl,SqL.of hx⟩
  · exact races_items t u hu
end Bw
namespace L2
open PySem PySem.Spec PyProof.Rows
theorem rd_while {c:TT}{tb:TS}{D:Ends}{σ:St}{H:Hp}(Pv En:St->Hp->Prop)(μ:St->Hp->Nat)(h0:Pv σ H)(hb:∀ σ H,Pv σ H->∃ b,Tv c σ H b/\(b=true->tb { D with nx:=fun σ' H'=>Pv σ' H'/\μ σ' H' < μ σ H,ct:=fun σ' H'=>Pv σ' H'/\μ σ' H' < μ σ H,bk:=D.nx } σ H)/\(b=false->En σ H))
  (mono:∀ σ H Q Q',(∀ b H1,Q b H1->Q' b H1)->c σ H Q->c σ H Q')(aft:∀ σ H,En σ H->D.nx σ H):tWhile c tb D σ H:=by
 refine while_by Pv μ h0 (fun σ H hp=>?_) mono
 obtain ⟨b,hv,q1,q2⟩:=hb σ H hp
 refine hv _ ?_
 cases b with
 | false=>exact iteF (aft _ _ (q2 rfl))
 | true=>exact iteT (q1 rfl)
end L2
namespace Bw
open PySem PySem.Spec PyProof.Rows L2 Tote
section
variable {P:Program}{w:World}{K:PySem.W.Frag}{mg:Str->Option Value}{base:Heap}
def spCard (K:PySem.W.Frag) (C:Addr):Sp:=fun vs H Q _=>∃ (a:Addr) (cs:List Nat),vs=[.ref a]/\SqL K H a (nV cs)/\cs.length<=65536 /\
 (cardM (cs.map sg)=none->∀ H',Same H H'->Q .non H')/\(∀ ps,cardM (cs.map sg)=some ps->∀ H' x,Same H H'->PoolsAt K C H' x ps->Q (.ref x) H')
theorem sg_lt (c:Nat):sg c < 128:=by
 unfold sg
 split
 · rename_i h
   unfold okS isLet isDig at h
   simp at h
   omega
 · omega
theorem line_ok {t:W}(h:∀ c∈t,c < 128)(hl:t.length<=65536):∀ ws∈(splitC 10 [] t).map (splitC 32 []),WsOk ws/\ws≠[]:=by
 intro ws hws
 obtain ⟨l,hl1,rfl⟩:=List.mem_map.mp hws
 obtain ⟨h1,h2⟩:=splitC_sub 10 t [] l hl1
 have h3:=splitC_len 32 l []
 refine ⟨⟨by simp at h1;omega,fun w hw=>?_⟩,splitC_ne 32 l []⟩
 obtain ⟨h4,h5⟩:=splitC_sub 32 l [] w hw
 refine ⟨by simp at h1 h4;omega,fun c hc=>?_⟩
 rcases h5 c hc with z|z
 · simp at z
 · rcases h2 c z with z|z
   · simp at z
   · exact h c z
theorem sc_card:FnScope ["codes","text","lines","behind_races","races","line","words"] ["codes"] (defScope f_read_card):=⟨rfl,rfl,rfl,by decide +kernel,rfl,by decide +kernel,by decide +kernel⟩
theorem ok_card {dS aF C:Addr}(G:GW mg)(GC:GC P w K mg dS aF){k:Nat}(FX:Fn P w K mg base CX0 k "text_of" ["codes"] (spText K))(FD:Fn P w K mg base CX0 k "is_day" ["words"] (spDay K))(FR:Fn P w K mg base CX0 k "read_race" ["words"] (spRace K))
  (FP:Fn P w K mg base CX0 k "read_pools" ["lines","races"] (spPools K C)){f:Addr}{fd:FuncData}(F:Fun K "read_card" "read_card" f_read_card f fd):FnOk P w K mg base CX0 (k+1) f fd ["codes"] (spCard K C):=by
 refine F.ok sc_card (fun vs H Q E h=>?_) (fun cdv A outer s H vs Q E hr h=>?_)
 · obtain ⟨_,_,rfl,_⟩:=h
   rfl
 · obtain ⟨a,cs,rfl,hS,hcs,q0,q1⟩:=h
   have hu:=hu_of hr
   refine ⟨_,pss_cons (ps_set (i:=1) sc_card.nd rfl (Or.inl rfl) (pe_fn FX hr pass0 (pa_cons (pv 0) pa_nil)))
    (pss_cons (ps_if (pt_not (pt_val (pe_m1 PySem.F.slot_str_endswith PySem.F.type_str_endswith mt_endswith (pv 1) pe_str))) (pss_one (ps_ret pe_non)) pss_nil)
    (pss_cons (ps_setLc (i:=2) rfl sc_card.nd rfl rfl (sw_true rfl rfl rfl rfl) (pi_list (pe_split (pe_slice sl_str (pv 1) po_none (po_some (pe_un un_neg pe_int))) pe_str)) (blkOk_by (own:=[("line",5)]) rfl) (fun _ _ _ _ _=>pg_name (i:=5) sc_card.nd rfl (Or.inl rfl)) (fun _ _ _ _ _=>pts_nil) (fun _ _ _ _ _=>pe_split (pv 5) pe_str))
    (pss_cons (ps_if (pt_not (pt_val (pe_fn FD hr pass0 (pa_cons (pe_ix ix_list (pv 2) pe_int (fun _ _=>rfl)) pa_nil)))) (pss_one (ps_ret pe_non)) pss_nil)
    (pss_cons (ps_set (i:=3) sc_card.nd rfl (Or.inl rfl) pe_int)
    (pss_cons (ps_while PassesOwn.never (PW.pt (pw_and (pt_cmpR op_lt (pv 3) (pe_callB call_len_seq (by rfl) G.len PySem.boot_len (pa_cons (pv 2) pa_nil)) (nomark _)) (pw_and1 (pt_cmpR op_eq (pe_ix ix_list (pe_ix ix_list (pv 2) (pv 3) (fun _ _=>rfl)) pe_int (fun _ _=>rfl)) pe_str (nomark _))))) (pss_one (ps_aug (i:=3) sc_card.nd rfl (Or.inl rfl) pe_int ip_add)))
    (pss_cons (ps_setLc (i:=4) rfl sc_card.nd rfl rfl (sw_true rfl rfl rfl rfl) (pi_list (pe_slice sl_list (pv 2) (po_some pe_int) (po_some (pv 3)))) (blkOk_by (own:=[("words",6)]) rfl) (fun _ _ _ _ _=>pg_name (i:=6) sc_card.nd rfl (Or.inl rfl)) (fun _ _ _ _ _=>pts_nil) (fun _ _ _ _ _=>pe_fn FR hr pass0 (pa_cons (pv 6) pa_nil)))
    (pss_cons (ps_if (PW.pt (pw_or (pt_not (pt_chain op_le op_le pe_int (pe_callB call_len_seq (by rfl) G.len PySem.boot_len (pa_cons (pv 4) pa_nil)) (pe_gv GC.races))) (pw_or1 (pt_cmpR (op_noneIn hu) pe_non (pv 4) (by with_unfolding_all rfl))))) (pss_one (ps_ret pe_non)) pss_nil)
    (pss_one (ps_ret (pe_fn FP hr pass0 (pa_cons (pe_slice sl_list (pv 2) (po_some (pv 3)) po_none) (pa_cons (pv 4) pa_nil)))))))))))),?_⟩
   refine ⟨_,rfl,a,cs,rfl,hS,by omega,fun H1 S1=>?_⟩
   generalize hT:cs.map sg=T at q0 q1
   have lenT:T.length=cs.length:=by rw [← hT,List.length_map]
   have ascT:∀ c∈T,c < 128:=fun c hc=>by
    rw [← hT] at hc
    obtain ⟨x,_,rfl⟩:=List.mem_map.mp hc
    exact sg_lt x
   have hz:(st T).length<=sizeLine:=by rw [st_len,sizeLine_eq];omega
   refine ⟨_,rfl,⟨_,rfl⟩,_,_,rfl,rfl,_,rfl,?_⟩
   have eE:Txt.endswith (st T) (Str.ofString "\n")=decide (T.getLast?=some 10):=by rw [lit_nl];exact ends_eq T
   rw [eE]
   refine ite2 (fun h=>?_) (fun h=>?_)
   · refine q0 ?_ H1 S1
     unfold cardM
     rw [if_neg (by simpa using h)]
   have hE:T.getLast?=some 10:=by simpa using h
   generalize hLL:splitC 10 [] T.dropLast=LL
   have eS:Txt.split (cutS (st T) none (some (-1))) (Str.ofString "\n")=LL.map st:=by rw [cut_last,lit_nl,split_st (by decide),hLL]
   have lenD:T.dropLast.length<=65536:=by rw [List.length_dropLast];omega
   have lenLL:LL.length<=65537:=by rw [← hLL];have:=splitC_len 10 T.dropLast [];omega
   have okL:∀ l∈LL,l.length<=65536:=fun l hl=>by
    rw [← hLL] at hl
    have:=(splitC_sub 10 T.dropLast [] l hl).1
    simp at this
    omega
   have okLS:∀ ws∈LL.map (splitC 32 []),WsOk ws/\ws≠[]:=by
    rw [← hLL]
    exact line_ok (fun c hc=>ascT c ((List.dropLast_sublist T).subset hc)) lenD
   generalize hLS:LL.map (splitC 32 [])=LS at okLS
   have eLS:linesM T=LS:=by unfold linesM;rw [hLL,hLS]
   have lenLS:LS.length=LL.length:=by rw [← hLS,List.length_map]
   refine ⟨_,rfl,_,rfl,_,rfl,_,rfl,hz,⟨_,rfl⟩,_,_,rfl,rfl,by decide +kernel,?_,fun p1 hp1=>?_⟩
   · have:=cutS_length (st T) none (some (-1))
     rw [st_len] at this
     rw [sizeLine_eq]
     omega
   rw [eS]
   refine ⟨p1,rfl,⟨_,SqL.of upd_same⟩,fun D hD=>?_⟩
   have eM:(LL.map st).map V.str=sV LL:=by unfold sV;rw [List.map_map];rfl
   have S2:Same H1 (upd H1 p1 (.lst ((LL.map st).map V.str))):=(Same.refl H1).laid hp1
   generalize hH2:upd H1 p1 (.lst ((LL.map st).map V.str))=H2 at hD S2
   have hp2:SqL K H2 p1 (sV LL):=SqL.of (by rw [← hH2,upd_same,eM])
   refine lc_list (K:=K) (a:=p1) (xs:=sV LL) (fun i H'=>∃ as:List Addr,Same H2 H'/\H' D=some (.lst (as.map V.ref))/\Paired (fun b ws=>b≠D/\H' b=some (.lst (sV ws))) as (LS.take i)) ⟨[],(Same.refl H2).laid hD,upd_same,.nil⟩ (fun i H' _ ⟨_,S,_⟩=>S.seq hp2) ?_ ?_
   · rintro i x H' hi ⟨as,S3,e1,hP⟩
     unfold sV at hi
     rw [List.getElem?_map] at hi
     obtain ⟨l,hl,rfl⟩:=Option.map_eq_some_iff.mp hi
     have hil:i < LL.length:=(List.getElem?_eq_some_iff.mp hl).1
     have lenA:as.length=i:=by rw [Paired.length hP,List.length_take];omega
     have hws:LS[i]?=some (splitC 32 [] l):=by rw [← hLS,List.getElem?_map,hl];rfl
     refine ⟨rfl,_,rfl,⟨_,rfl⟩,_,_,rfl,rfl,by decide +kernel,?_,fun p hp=>?_⟩
     · have:=okL l (List.mem_of_getElem? hl)
       rw [st_len,sizeLine_eq]
       omega
     have nD:p≠D:=(ne_of_none e1 hp).symm
     refine ⟨_,by rw [upd_ne nD.symm];exact e1,?_,as++[p],?_,?_,?_⟩
     · rw [List.length_map,lenA,sizeLine_eq]
       omega
     · intro c u z
       rw [upd_ne (ne_of_none z hD),upd_ne (ne_of_none (S3 c u z) hp)]
       exact S3 c u z
     · rw [upd_same,List.map_append]
       rfl
     · rw [take_snoc hws]
       refine Paired.snoc (Paired.mapP hP fun b ws z=>?_) ⟨nD,?_⟩
       · refine ⟨z.1,?_⟩
         rw [upd_ne z.1,upd_ne (ne_of_none z.2 hp)]
         exact z.2
       · rw [upd_ne nD,upd_same,lit_sp,split_st (by decide)]
         unfold sV
         rw [List.map_map]
         rfl
   rintro H3 ⟨as,S3,e1,hP0⟩
   rw [sV_len,← lenLS,List.take_length] at hP0
   have hP:Paired (fun b ws=>SqL K H3 b (sV ws)) as LS:=Paired.mapP hP0 fun b ws z=>SqL.of z.2
   have hA:SqL K H3 D (as.map V.ref):=SqL.of e1
   have S13:Same H H3:=S1.trans (S2.trans S3)
   have lenA:as.length=LS.length:=Paired.length hP
   obtain ⟨d,ls,hdl⟩:∃ d ls,LS=d::ls:=by
    cases hq:LS with
    | nil =>
     rw [← hLS,List.map_eq_nil_iff,← hLL] at hq
     exact absurd hq (splitC_ne 10 _ _)
    | cons d ls=>exact ⟨d,ls,rfl⟩
   have at_:∀ (j:Nat) ws,LS[j]?=some ws->∃ b,atI (as.map V.ref) (j:Int)=some (.ref b)/\SqL K H3 b (sV ws):=fun j ws hj=>by
    obtain ⟨b,hb,hs⟩:=Paired.at2 hP hj
    exact ⟨b,atI_nat (by rw [List.getElem?_map,hb];rfl),hs⟩
   have eC:cardM T=if dayM d=true then raceRec [] ls else none:=by
    unfold cardM
    rw [if_pos hE,eLS,hdl]
   obtain ⟨b0,hb0,hs0⟩:=at_ 0 d (by rw [hdl];rfl)
   refine (ev_ixL (ev_var rfl) ev_c hA hb0) _ ⟨b0,d,rfl,hs0,(okLS d (by rw [hdl];simp)).1,fun H4 S4=>⟨_,rfl,?_⟩⟩
   have S14:=S13.trans S4
   refine ite2 (fun h=>?_) (fun h=>?_)
   · refine q0 ?_ H4 S14
     rw [eC,if_neg (by simpa using h)]
   rw [if_pos (by simpa using h)] at eC
   refine rd_set ev_c ?_
   have hA4:=S4.seq hA
   refine rd_while (fun σ H'=>∃ b:Nat,σ=[some (.ref a),some (.str (st T)),some (.ref D),some (.int (b:Nat)),none,none,none]/\H'=H4/\1<=b/\b<=LS.length/\∀ j ws,1<=j->j < b->LS[j]?=some ws->isRaceL ws=true)
    (fun σ H'=>∃ b:Nat,σ=[some (.ref a),some (.str (st T)),some (.ref D),some (.int (b:Nat)),none,none,none]/\H'=H4/\1<=b/\b<=LS.length/\(∀ j ws,1<=j->j < b->LS[j]?=some ws->isRaceL ws=true)/\∀ ws,LS[b]?=some ws->isRaceL ws=false)
    (fun (σ:L2.St) (_:Hp)=>match σ[3]? with|some (some (V.int z))=>LS.length - z.toNat|_=>0) ⟨1,rfl,rfl,Nat.le_refl _,by rw [hdl];simp,fun j ws h1 h2=>by omega⟩ ?_ ?_ ?_
   · rintro σ H' ⟨b,rfl,rfl,hb1,hb2,hb3⟩
     have race0:∀ ws,LS[b]?=some ws->∀ ba,SqL K H' ba (sV ws)->atI (as.map V.ref) (b:Int)=some (.ref ba)->Ev (tOp rEq (tOp (rIxL K) (tOp (rIxL K) (tVar 2) (tVar 3)) (tC (.int 0))) (tC (.str (Str.ofString "race")))) [some (.ref a),some (.str (st T)),some (.ref D),some (.int (b:Nat)),none,none,none] H' (.bl (isRaceL ws)):=fun ws hws ba hsb hba=>by
      have hne:=(okLS ws (List.mem_of_getElem? hws)).2
      have:=ev_eq (ev_ixL (ev_ixL (ev_var (n:=2) (σ:=[some (.ref a),some (.str (st T)),some (.ref D),some (.int (b:Nat)),none,none,none]) rfl) (ev_var (n:=3) rfl) hA4 hba) (ev_c (v:=.int ((0:Nat):Int))) hsb (at_sV (i:=0) (List.length_pos_iff.mpr hne))) (ev_c (v:=.str (Str.ofString "race")))
      rw [lit_eq] at this
      have e:decide (ws.getD 0 []=cd "race")=isRaceL ws:=by
       unfold isRaceL
       cases ws with
       | nil=>exact absurd rfl hne
       | cons x r =>
        show decide (x=cd "race")=(x==cd "race")
        rw [Bool.eq_iff_iff,decide_eq_true_eq,beq_iff_eq]
      rw [e] at this
      exact this
     by_cases hlt:b < LS.length
     · obtain ⟨ws,hws⟩:∃ ws,LS[b]?=some ws:=⟨_,List.getElem?_eq_getElem hlt⟩
       obtain ⟨ba,hba,hsb⟩:=at_ b ws hws
       refine ⟨_,tv_and (tv_i (ev_var rfl) (ev_lenQ (ev_var rfl) (.inl hA4))) fun _=>tv_test (race0 ws hws ba (S4.seq hsb) hba),fun h=>?_,fun h=>?_⟩
       · rw [Bool.and_eq_true] at h
         refine ⟨_,rfl,_,_,rfl,rfl,⟨⟨b+1,rfl,rfl,by omega,by omega,fun j ws' h1 h2 h3=>?_⟩,?_⟩⟩
         · by_cases e:j=b
           · subst e
             rw [hws] at h3
             cases h3
             exact h.2
           · exact hb3 j ws' h1 (by omega) h3
         · show LS.length - ((b:Int)+1).toNat < LS.length - ((b:Nat):Int).toNat
           omega
       · have hf:isRaceL ws=false:=by
          rw [Bool.and_eq_false_iff] at h
          rcases h with h|h
          · rw [List.length_map,lenA] at h
            have:=of_decide_eq_false h
            omega
          · exact h
         exact ⟨b,rfl,rfl,hb1,hb2,hb3,fun ws' z=>by rw [hws] at z;cases z;exact hf⟩
     · refine ⟨_,tv_and (c:=false) (tv_i (ev_var rfl) (ev_lenQ (ev_var rfl) (.inl hA4))) fun h=>?_,fun h=>?_,fun _=>?_⟩
       · rw [List.length_map,lenA] at h
         have:=of_decide_eq_true h
         omega
       · rw [Bool.and_false] at h
         cases h
       · exact ⟨b,rfl,rfl,hb1,hb2,hb3,fun ws' z=>by rw [List.getElem?_eq_none (by omega)] at z;cases z⟩
   · rintro σ H' Q1 Q2 hm ⟨v,e,v2,e2,p,ys,e3,s,i,j,e4,e5,k,e6,hk⟩
     refine ⟨v,e,v2,e2,p,ys,e3,s,i,j,e4,e5,k,e6,?_⟩
     cases k with
     | false =>
      rw [if_neg Bool.false_ne_true] at hk
      exact iteF (hm _ _ hk)
     | true =>
      rw [if_pos rfl] at hk
      obtain ⟨x1,f1,x2,f2,p',xs',i',v',g1,g2,g3,g4,p2,xs2,i2,v3,g5,g6,g7,g8,g9,k2,g10,hq⟩:=hk
      exact iteT ⟨x1,f1,x2,f2,p',xs',i',v',g1,g2,g3,g4,p2,xs2,i2,v3,g5,g6,g7,g8,g9,k2,g10,hm _ _ hq⟩
   rintro σ H' ⟨b,rfl,e4,hb1,hb2,hb3,hb4⟩
   subst e4
   obtain ⟨tw1,tw2,tw3⟩:=takeWhile_at isRaceL ls (b - 1) (by rw [hdl] at hb2;simp at hb2;omega) (fun j x hj hx=>hb3 (j+1) x (by omega) (by omega) (by rw [hdl];exact hx)) (fun x hx=>hb4 x (by rw [hdl,show b=b - 1+1 by omega];exact hx))
   have eR:=raceRec_py ls [] (by simp)
   rw [tw1,tw2,tw3] at eR
   refine ⟨_,rfl,_,rfl,_,rfl,_,rfl,D,as.map V.ref,rfl,hA4,fun p2 hp2=>⟨p2,rfl,⟨_,SqL.of upd_same⟩,fun R hR=>?_⟩⟩
   have eCut:cutV (as.map V.ref) (some 1) (some (b:Int))=((as.drop 1).take (b - 1)).map V.ref:=by
    have:=cut_nat (xs:=as.map V.ref) (i:=1) (j:=b) (by rw [List.length_map,lenA];exact hb2)
    rw [List.map_take,List.map_drop]
    exact this
   have S5:Same H' (upd H' p2 (.lst (cutV (as.map V.ref) (some 1) (some (b:Int))))):=(Same.refl H').laid hp2
   have hp5:SqL K (upd H' p2 (.lst (cutV (as.map V.ref) (some 1) (some (b:Int))))) p2 (((as.drop 1).take (b - 1)).map V.ref):=SqL.of (by rw [upd_same,eCut])
   generalize upd H' p2 (.lst (cutV (as.map V.ref) (some 1) (some (b:Int))))=H5 at hR S5 hp5
   have hPr:Paired (fun b ws=>SqL K H3 b (sV ws)) ((as.drop 1).take (b - 1)) (ls.take (b - 1)):=by
    have:=Paired.tk (b - 1) (Paired.dp 1 hP)
    rw [hdl] at this
    exact this
   have okls:∀ ws∈ls.take (b - 1),WsOk ws/\ws≠[]:=fun ws z=>okLS ws (by rw [hdl];exact List.mem_cons_of_mem _ (List.mem_of_mem_take z))
   have lenR:((as.drop 1).take (b - 1)).length=(ls.take (b - 1)).length:=Paired.length hPr
   refine lc_list (K:=K) (a:=p2) (xs:=((as.drop 1).take (b - 1)).map V.ref) (fun i H6=>∃ vs:List V,Same H5 H6/\H6 R=some (.lst vs)/\Paired (RaceV H6 R) vs ((ls.take (b - 1)).take i)) ⟨[],(Same.refl H5).laid hR,upd_same,.nil⟩ (fun i H6 _ ⟨_,S,_⟩=>S.seq hp5) ?_ ?_
   · rintro i x H6 hi ⟨vs,S6,e1,hV⟩
     rw [List.getElem?_map] at hi
     obtain ⟨ba,hba,rfl⟩:=Option.map_eq_some_iff.mp hi
     obtain ⟨ws,hws,hsb⟩:=Paired.at1 hPr hba
     have hil:i < (ls.take (b - 1)).length:=(List.getElem?_eq_some_iff.mp hws).1
     have lenV:vs.length=i:=by rw [Paired.length hV,List.length_take];omega
     have okw:=okls ws (List.mem_of_getElem? hws)
     have lenls:ls.length<=65537:=by have:=lenLS;rw [hdl] at this;simp at this;omega
     have small:vs.length < sizeLine:=by
      rw [lenV,sizeLine_eq]
      have:=List.length_take_le (b - 1) ls
      have:=List.length_take (i:=b - 1) (l:=ls)
      omega
     have keepV:∀ H7,Same H6 H7->∀ (y:V),Paired (RaceV (upd H7 R (.lst (vs++[y]))) R) vs ((ls.take (b - 1)).take i):=fun H7 e y=>Paired.mapP hV fun v ws' z=>by
      unfold RaceV at z ⊢
      cases hr:raceM ws' with
      | none=>rw [hr] at z;exact z
      | some hs =>
       rw [hr] at z
       obtain ⟨x,ex,nx,hx⟩:=z
       exact ⟨x,ex,nx,by rw [upd_ne nx];exact e _ _ hx⟩
     refine ⟨rfl,_,rfl,ba,ws,rfl,S6.seq (S5.seq (S4.seq hsb)),okw.1,okw.2,fun hn H7 e=>?_,fun hs hn H7 x e nx hx=>?_⟩
     · refine ⟨vs,e _ _ e1,small,vs++[.non],fun c u z=>?_,upd_same,?_⟩
       · rw [upd_ne (ne_of_none z hR)]
         exact e _ _ (S6 c u z)
       · rw [take_snoc hws]
         refine Paired.snoc (keepV H7 e _) ?_
         unfold RaceV
         rw [hn]
     · have nR:x≠R:=(ne_of_none e1 nx).symm
       refine ⟨vs,e _ _ e1,small,vs++[.ref x],fun c u z=>?_,upd_same,?_⟩
       · rw [upd_ne (ne_of_none z hR)]
         exact e _ _ (S6 c u z)
       · rw [take_snoc hws]
         refine Paired.snoc (keepV H7 e _) ?_
         unfold RaceV
         rw [hn]
         exact ⟨x,rfl,nR,by rw [upd_ne nR];exact hx⟩
   rintro H6 ⟨vs,S6,e1,hV⟩
   rw [List.length_map,lenR,List.take_length] at hV
   have lenV:vs.length=b - 1:=by
    rw [Paired.length hV,List.length_take]
    rw [hdl] at hb2
    simp at hb2
    omega
   have S46:Same H' H6:=S5.trans S6
   have S16:Same H H6:=S14.trans S46
   refine rd_if (tv_or (tv_not (tv_chain ev_c (ev_lenQ (ev_var rfl) (.inl (SqL.of e1))) ev_c)) fun _=>tv_test (fun R' r'=>⟨_,rfl,R,vs,rfl,rfl,SqL.of e1,races_items hV,r'⟩)) (fun h=>?_) (fun h=>?_)
   · refine rd_ret ev_c (q0 ?_ H6 S16)
     rw [eC,eR,if_neg]
     rintro ⟨z1,z2,z3⟩
     rw [lenV,races_any hV,decide_eq_false z3] at h
     simp only [Bool.or_false,Bool.not_eq_true',Bool.and_eq_false_iff,decide_eq_false_iff_not] at h
     simp only [List.length_nil] at z1 z2
     omega
   · rw [lenV,races_any hV] at h
     simp only [Bool.or_eq_false_iff,Bool.not_eq_false',Bool.and_eq_true,decide_eq_true_eq,decide_eq_false_iff_not] at h
     obtain ⟨⟨z1,z2⟩,z3⟩:=h
     rw [if_pos ⟨by simp only [List.length_nil];omega,by simp only [List.length_nil];omega,z3⟩,List.nil_append] at eR
     obtain ⟨ras,ev,hPa⟩:=races_all hV z3
     subst ev
     have hA6:=S46.seq hA4
     refine ⟨_,rfl,_,rfl,_,rfl,D,as.map V.ref,rfl,hA6,fun p3 hp3=>?_⟩
     have S7:Same H6 (upd H6 p3 (.lst (cutV (as.map V.ref) (some (b:Int)) none))):=(Same.refl H6).laid hp3
     have eCut2:cutV (as.map V.ref) (some (b:Int)) none=(as.drop b).map V.ref:=by
      unfold cutV
      rw [HT.sIx_nat,HT.sIx_none,List.length_map,lenA,Nat.min_eq_left hb2,List.map_drop]
      refine List.take_of_length_le ?_
      rw [List.length_drop,List.length_map,lenA]
      exact Nat.le_refl _
     refine ⟨_,rfl,p3,R,ls.drop (b - 1),((ls.take (b - 1)).map raceM).filterMap id,rfl,⟨as.drop b,SqL.of (by rw [upd_same,eCut2]),?_⟩,?_,⟨ras,S7.seq (SqL.of e1),Paired.mapP hPa fun c hs z=>S7.seq (SqL.of z)⟩,?_,?_,?_⟩
     · have:=Paired.dp b hP
       rw [show LS.drop b=ls.drop (b - 1) by rw [hdl,show b=b - 1+1 by omega];rfl] at this
       exact Paired.mapP this fun c ws z=>S7.seq (S46.seq (S4.seq z))
     · intro ws z
       exact (okLS ws (by rw [hdl];exact List.mem_cons_of_mem _ (List.mem_of_mem_drop z))).1
     · have:=List.length_filterMap_le id ((ls.take (b - 1)).map raceM)
       rw [List.length_map,List.length_take] at this
       omega
     · intro hn H8 S8
       exact q0 (by rw [eC,eR];exact hn) H8 (S16.trans (S7.trans S8))
     · intro ps hs H8 x S8 hx
       exact q1 ps (by rw [eC,eR];exact hs) H8 x (S16.trans (S7.trans S8)) hx
end
end Bw
namespace L2
open PySem PySem.Spec PyProof.Rows
def SameX (a:Addr)(H H':Hp):Prop:=∀ b o,H b=some o->b≠a->H' b=some o
section
variable {a:Addr}{H H1 H2:Hp}
theorem SameX.refl (a:Addr) (H:Hp):SameX a H H:=fun _ _ h _=>h
theorem SameX.trans (x:SameX a H H1)(y:SameX a H1 H2):SameX a H H2:=fun b o h n=>y b o (x b o h n) n
theorem Same.x (e:Same H H1):SameX a H H1:=fun b o h _=>e b o h
theorem SameX.upd {o:HO}(x:SameX a H H1):SameX a H (upd H1 a o):=fun b u h n=>by rw [upd_ne n];exact x b u h n
theorem SameX.laid {p:Addr}{o:HO}(x:SameX a H H1)(h:H p=none):SameX a H (L2.upd H1 p o):=fun b u q n=>by
 rw [upd_ne (ne_of_none q h)]
 exact x b u q n
theorem SameX.seq {K:PySem.W.Frag}{C dx b:Addr}{fs:List (Str×V)}{xs:List V}(e:SameX a H H1)(ha:H a=some (.ins C dx fs))(h:SqL K H b xs):SqL K H1 b xs:=by
 rcases h with (h|⟨o,h⟩)|h
 · exact .inl (.inl (e _ _ h (ne_of h ha (by intro z;cases z))))
 · exact .inl (.inr ⟨o,e _ _ h (ne_of h ha (by intro z;cases z))⟩)
 · exact .inr h
theorem SameX.tup {K:PySem.W.Frag}{C dx b:Addr}{fs:List (Str×V)}{xs:List V}(e:SameX a H H1)(ha:H a=some (.ins C dx fs))(h:SqT K H b xs):SqT K H1 b xs:=by
 rcases h with (h|⟨o,h⟩)|h
 · exact .inl (.inl (e _ _ h (ne_of h ha (by intro z;cases z))))
 · exact .inl (.inr ⟨o,e _ _ h (ne_of h ha (by intro z;cases z))⟩)
 · exact .inr h
theorem SameX.free (e:SameX a H H1){l:Addr}(h:H1 l=none)(hl:l≠a):H l=none:=by
 cases q:H l with
 | none=>rfl
 | some o =>
  rw [e l o q hl] at h
  cases h
end
end L2
namespace Bw
open PySem PySem.Spec PyProof.Rows L2 Tote
theorem putF_hit {f:Str}{v x:V}{r:List (Str×V)}:putF f v ((f,x)::r)=(f,v)::r:=by
 show (if f=f then (f,v)::r else _)=_
 rw [if_pos rfl]
def Flt (P:Program)(w:World)(K:PySem.W.Frag)(mg:Str->Option Value)(base:Heap)(C:Addr):Prop :=
 ∃ (N fI:Addr) (fd:FuncData),ExcK K C N fI/\Binds K fd ["self","kind","place"] []/\FnOk P w K mg base CX0 1 fI fd ["self","kind","place"] (spXI C)/\mg "Fault"=some (.ref C)
theorem ps_rz {X:Cx}{C:Addr}{E:XK}{np cpos pos:Pos}{e:Expr}{es:List Expr}{t:TA}(FL:Flt X.prog X.w X.K X.mg X.base C)(O:OwnB X)(hr:Room 2 X.A)(ha:PA (X.wish (XF X C E)) (e::es) t)(hg:Gl X "Fault":=by rfl)
  (he:starEach (e::es) X.env=(false,eval e X.env)::starEach es X.env:=by rfl)(hpl:(backTo cpos (starEach es X.env)).any (·.1)=false:=by rfl):PS (X.wish (XF X C E)) (.Raise (some (.Call (.Name "Fault" np) (e::es) [] cpos)) none pos) (tRz C E t):=by
 obtain ⟨N,fI,fd,Z,hb,F,hm⟩:=FL
 exact ps_raise O Z F hr hb hg hm ha (by decide) he hpl
section
variable {P:Program}{w:World}{K:PySem.W.Frag}{mg:Str->Option Value}{base:Heap}
theorem sc_faultI:FnScope ["self","kind","place"] ["self","kind","place"] (defScope m_Fault_init):=⟨rfl,rfl,rfl,by decide +kernel,rfl,by decide +kernel,by decide +kernel⟩
theorem ok_faultI {C N fI:Addr}(Z:ExcK K C N fI){f:Addr}{fd:FuncData}(F:Fun K "__init__" "Fault.__init__" m_Fault_init f fd):FnOk P w K mg base CX0 1 f fd ["self","kind","place"] (spXI C):=by
 refine F.ok sc_faultI (fun vs H Q E h=>?_) (fun cdv A outer s H vs Q E hr h=>?_)
 · obtain ⟨_,_,_,_,rfl,_⟩:=h
   rfl
 · obtain ⟨a,t,k,p,rfl,ha,q⟩:=h
   refine ⟨_,pss_cons (ps_xfld Z Z.fK Z.noK lkK (pv 0) (pv 1) rfl) (pss_one (ps_xfld Z Z.fP Z.noP lkP (pv 0) (pv 2) rfl)),?_⟩
   refine ⟨_,rfl,_,rfl,a,t,rfl,.inl ⟨ha,fun dx hdx ne=>?_⟩⟩
   refine ⟨_,rfl,_,rfl,a,t,rfl,.inr ⟨dx,_,upd_same,by rw [upd_ne ne];exact upd_same,ne,by show 1 < 1000;decide,?_⟩⟩
   have e:putF "place" (V.int p) [(("kind":Str),V.int k)]=ff k p:=by
    rw [putF_ne (by decide +kernel),putF_nil]
    rfl
   rw [e]
   have e2:upd (upd (upd H dx (xdA dx [(("kind":Str),V.int k)])) a (xoA a C t (some dx))) dx (xdA dx (ff k p))=upd (upd H dx (xdA dx (ff k p))) a (xoA a C t (some dx)):=by
    funext b
    by_cases h1:b=dx
    · subst h1
      rw [upd_same,upd_ne ne,upd_same]
    · rw [upd_ne h1]
      by_cases h2:b=a
      · subst h2
        rw [upd_same,upd_same]
      · rw [upd_ne h2,upd_ne h2,upd_ne h1,upd_ne h1]
   rw [e2]
   exact q dx hdx ne
end
def fBet (pl n h s t m:V):List (Str×V):=[("pool",pl),("pool_number",n),("how",h),("stake",s),("sets",t),("many",m)]
abbrev betFs:List Str:=["pool","pool_number","how","stake","sets","many"]
def spBetI (C:Addr):Sp:=fun vs H Q _=>∃ (x dx:Addr) (a b c d e m:V),vs=[.ref x,a,b,c,d,e,m]/\H x=some (.ins C dx [])/\Q .non (upd H x (.ins C dx (fBet a b c d e m)))
def fWords (wl m p np e:V):List (Str×V):=[("words",wl),("met",m),("place",p),("next_place",np),("line_end",e)]
abbrev wordsFs:List Str:=["words","met","place","next_place","line_end"]
section
variable {a b c d e v:V}
theorem fWords_words:(fWords a b c d e).lookup ("words":Str)=some a:=look_hit
theorem fWords_met:(fWords a b c d e).lookup ("met":Str)=some b:=by unfold fWords;rw [look_ne (by decide +kernel)];exact look_hit
theorem fWords_place:(fWords a b c d e).lookup ("place":Str)=some c:=by unfold fWords;rw [look_ne (by decide +kernel),look_ne (by decide +kernel)];exact look_hit
theorem fWords_next:(fWords a b c d e).lookup ("next_place":Str)=some d:=by unfold fWords;rw [look_ne (by decide +kernel),look_ne (by decide +kernel),look_ne (by decide +kernel)];exact look_hit
theorem fWords_end:(fWords a b c d e).lookup ("line_end":Str)=some e:=by unfold fWords;rw [look_ne (by decide +kernel),look_ne (by decide +kernel),look_ne (by decide +kernel),look_ne (by decide +kernel)];exact look_hit
theorem put_met:putF "met" v (fWords a b c d e)=fWords a v c d e:=by unfold fWords;rw [putF_ne (by decide +kernel),putF_hit]
theorem put_place:putF "place" v (fWords a b c d e)=fWords a b v d e:=by unfold fWords;rw [putF_ne (by decide +kernel),putF_ne (by decide +kernel),putF_hit]
theorem put_next:putF "next_place" v (fWords a b c d e)=fWords a b c v e:=by unfold fWords;rw [putF_ne (by decide +kernel),putF_ne (by decide +kernel),putF_ne (by decide +kernel),putF_hit]
end
def WordsAt (K:PySem.W.Frag)(C:Addr)(H:Hp)(a:Addr)(e:Nat)(l:List Word)(pl:Nat):Prop :=
 ∃ (dx wl:Addr) (all:List W) (m np:Nat),H a=some (.ins C dx (fWords (.ref wl) (.int (m:Nat)) (.int (pl:Nat)) (.int (np:Nat)) (.int (e:Nat))))/\SqL K H wl (sV all)/\(WsOk all/\all≠[])/\m<=all.length/\all.drop m=txs l/\Placed np l
theorem WordsAt.same {K:PySem.W.Frag}{C:Addr}{H H':Hp}{a:Addr}{e:Nat}{l:List Word}{pl:Nat}(h:WordsAt K C H a e l pl)(s:Same H H'):WordsAt K C H' a e l pl:=by
 obtain ⟨dx,wl,all,m,np,h1,h2,r⟩:=h
 exact ⟨dx,wl,all,m,np,s _ _ h1,s.seq h2,r⟩
structure GB (K:PySem.W.Frag)(mg:Str->Option Value)(aW:Addr):Prop where
 ended:Gv mg "NOT_ENDED" (.int 1)
 byte:Gv mg "BAD_BYTE" (.int 2)
 word:Gv mg "BAD_WORD" (.int 3)
 num:Gv mg "BAD_NUMBER" (.int 4)
 pool:Gv mg "NO_POOL" (.int 5)
 comb:Gv mg "NO_COMBINATION" (.int 6)
 dear:Gv mg "TOO_DEAR" (.int 7)
 more:Gv mg "MORE_BYTES" (.int 8)
 nl:Gv mg "LINE_END" (.int 10)
 blank:Gv mg "BLANK" (.int 32)
 stake:Gv mg "MOST_STAKE" (.int 1000000)
 cost:Gv mg "MOST_COST" (.int 2147483647)
 on:Gv mg "ON" (.int 0)
 box:Gv mg "BOX" (.int 1)
 ways:Gv mg "WAYS" (.ref aW)
 waysT:∀ H,SqT K H aW [.str (Str.ofString "on"),.str (Str.ofString "box"),.str (Str.ofString "key")]
 waysK:∃ o,K.lookup aW=some o/\o.cls=.type "tuple"/\o.dict=none
 enum:mg "enumerate"=none
 any:mg "any"=none
section
variable {X:Cx}{CX:CXT}{k:Nat}{m:Str}{ps:List Str}{sp:Sp}{E:XK}{pos apos:Pos}{o e:Expr}{es:List Expr}{ta:TE}{t:TA}{C:Addr}
theorem pe_mth0 {pl:Sem Bool} (F:FnM X.prog X.w X.K X.mg X.base CX k C m ps sp) (c:Cls X.K C) (he:PE X o ta) (hr:Room k X.A) (hx:Passes CX X E)
  (ht:eval (.Call (.Attribute o m apos) [] [] pos) X.env=(do
   let ov ← eval o X.env
   standAt apos.atName
   let (f,first) ← holding [ov] (getMethod ov m pl)
   callWith pos f first (backTo pos (starEach [] X.env)) (backToKw pos (keywordEach [] X.env))):=by rfl):PE X (.Call (.Attribute o m apos) [] [] pos) (tMeth C m sp [] E ta tNil):=by
 obtain ⟨f,fd,hm,hb,F⟩:=F
 exact pe_meth0 he c hm F hr hb .nil hx ht
theorem pe_mth {pl:Sem Bool}(F:FnM X.prog X.w X.K X.mg X.base CX k C m ps sp)(c:Cls X.K C)(he:PE X o ta)(hr:Room k X.A)(hx:Passes CX X E)(ha:PA X (e::es) t)
  (hst:starEach (e::es) X.env=(false,eval e X.env)::starEach es X.env:=by rfl)(hpl:(backTo pos (starEach es X.env)).any (·.1)=false:=by rfl)
  (ht:eval (.Call (.Attribute o m apos) (e::es) [] pos) X.env=(do
   let ov ← eval o X.env
   standAt apos.atName
   let (f,first) ← holding [ov] (getMethod ov m pl)
   callWith pos f first (backTo pos (starEach (e::es) X.env)) (backToKw pos (keywordEach [] X.env))):=by rfl):PE X (.Call (.Attribute o m apos) (e::es) [] pos) (tMeth C m sp [] E ta t):=by
 obtain ⟨f,fd,hm,hb,F⟩:=F
 exact pe_meth he c hm F hr hb .nil hx ha hst hpl ht
end
section
variable {P:Program}{w:World}{K:PySem.W.Frag}{mg:Str->Option Value}{base:Heap}
theorem sc_betI:FnScope ["self","pool","pool_number","how","stake","sets","many"] ["self","pool","pool_number","how","stake","sets","many"] (defScope m_Bet_init):=⟨rfl,rfl,rfl,by decide +kernel,rfl,by decide +kernel,by decide +kernel⟩
theorem ok_betI {C:Addr}(T:CK K mg "Bet" betFs C){f:Addr}{fd:FuncData}(F:Fun K "__init__" "Bet.__init__" m_Bet_init f fd):FnOk P w K mg base CX0 1 f fd ["self","pool","pool_number","how","stake","sets","many"] (spBetI C):=by
 refine F.ok sc_betI (fun vs H Q E h=>?_) (fun cdv A outer s H vs Q E hr h=>?_)
 · obtain ⟨_,_,_,_,_,_,_,_,rfl,_⟩:=h
   rfl
 · obtain ⟨x,dx,a,b,c,d,e,m,rfl,hx,q⟩:=h
   refine ⟨_,pss_cons (ps_fld (pv 0) (pv 1) rfl) (pss_cons (ps_fld (pv 0) (pv 2) rfl) (pss_cons (ps_fld (pv 0) (pv 3) rfl) (pss_cons (ps_fld (pv 0) (pv 4) rfl) (pss_cons (ps_fld (pv 0) (pv 5) rfl) (pss_one (ps_fld (pv 0) (pv 6) rfl)))))),?_⟩
   refine ⟨_,rfl,_,rfl,x,C,dx,[],rfl,hx,T.cl,T.no _ (by simp),(by show 0 < 1000;decide),?_⟩
   refine ⟨_,rfl,_,rfl,x,C,dx,_,rfl,upd_same,T.cl,T.no _ (by simp),(by show 1 < 1000;decide),?_⟩
   refine ⟨_,rfl,_,rfl,x,C,dx,_,rfl,upd_same,T.cl,T.no _ (by simp),(by repeat (first|rw [putF_nil]|rw [putF_ne (by decide +kernel)]);show 2 < 1000;decide),?_⟩
   refine ⟨_,rfl,_,rfl,x,C,dx,_,rfl,upd_same,T.cl,T.no _ (by simp),(by repeat (first|rw [putF_nil]|rw [putF_ne (by decide +kernel)]);show 3 < 1000;decide),?_⟩
   refine ⟨_,rfl,_,rfl,x,C,dx,_,rfl,upd_same,T.cl,T.no _ (by simp),(by repeat (first|rw [putF_nil]|rw [putF_ne (by decide +kernel)]);show 4 < 1000;decide),?_⟩
   refine ⟨_,rfl,_,rfl,x,C,dx,_,rfl,upd_same,T.cl,T.no _ (by simp),(by repeat (first|rw [putF_nil]|rw [putF_ne (by decide +kernel)]);show 5 < 1000;decide),?_⟩
   rw [upd_upd,upd_upd,upd_upd,upd_upd,upd_upd]
   repeat (first|rw [putF_nil]|rw [putF_ne (by decide +kernel)])
   exact q
def spWordsI (K:PySem.W.Frag)(C:Addr):Sp:=fun vs H Q _=>∃ (x dx:Addr) (l:W),vs=[.ref x,.str (st l)]/\H x=some (.ins C dx [])/\l.length<=70000 /\
 ∀ H' wl,SameX x H H'->H wl=none->H' wl=some (.lst (sV (splitC 32 [] l)))->H' x=some (.ins C dx (fWords (.ref wl) (.int ((0:Nat):Int)) (.int ((0:Nat):Int)) (.int ((0:Nat):Int)) (.int (l.length:Nat))))->Q .non H'
theorem sc_wordsI:FnScope ["self","line"] ["self","line"] (defScope m_Words_init):=⟨rfl,rfl,rfl,by decide +kernel,rfl,by decide +kernel,by decide +kernel⟩
theorem ok_wordsI {C:Addr}(G:GW mg)(T:CK K mg "Words" wordsFs C){f:Addr}{fd:FuncData}(F:Fun K "__init__" "Words.__init__" m_Words_init f fd):FnOk P w K mg base CX0 1 f fd ["self","line"] (spWordsI K C):=by
 refine F.ok sc_wordsI (fun vs H Q E h=>?_) (fun cdv A outer s H vs Q E hr h=>?_)
 · obtain ⟨_,_,_,rfl,_⟩:=h
   rfl
 · obtain ⟨x,dx,l,rfl,hx,hl,q⟩:=h
   refine ⟨_,pss_cons (ps_fld (pv 0) (pe_split (pv 1) pe_str) rfl) (pss_cons (ps_fld (pv 0) pe_int rfl) (pss_cons (ps_fld (pv 0) pe_int rfl) (pss_cons (ps_fld (pv 0) pe_int rfl) (pss_one (ps_fld (pv 0) (pe_callB call_len_str (by rfl) G.len PySem.boot_len (pa_cons (pv 1) pa_nil)) rfl))))),?_⟩
   refine ⟨_,rfl,⟨_,rfl⟩,_,_,rfl,rfl,by decide +kernel,by rw [st_len,sizeLine_eq];omega,fun wl hwl=>?_⟩
   have nx:wl≠x:=(ne_of_none hx hwl).symm
   rw [lit_sp,split_st (by decide)]
   refine ⟨_,rfl,x,C,dx,[],rfl,by rw [upd_ne nx.symm];exact hx,T.cl,T.no _ (by simp),(by show 0 < 1000;decide),?_⟩
   refine ⟨_,rfl,x,C,dx,_,rfl,upd_same,T.cl,T.no _ (by simp),(by show 1 < 1000;decide),?_⟩
   refine ⟨_,rfl,x,C,dx,_,rfl,upd_same,T.cl,T.no _ (by simp),(by repeat (first|rw [putF_nil]|rw [putF_ne (by decide +kernel)]);show 2 < 1000;decide),?_⟩
   refine ⟨_,rfl,x,C,dx,_,rfl,upd_same,T.cl,T.no _ (by simp),(by repeat (first|rw [putF_nil]|rw [putF_ne (by decide +kernel)]);show 3 < 1000;decide),?_⟩
   refine ⟨_,rfl,_,rfl,by rw [st_len,sizeLine_eq];omega,_,rfl,x,C,dx,_,rfl,upd_same,T.cl,T.no _ (by simp),(by repeat (first|rw [putF_nil]|rw [putF_ne (by decide +kernel)]);show 4 < 1000;decide),?_⟩
   rw [upd_upd,upd_upd,upd_upd,upd_upd]
   repeat (first|rw [putF_nil]|rw [putF_ne (by decide +kernel)])
   refine q _ wl (fun b u z n=>?_) hwl ?_ ?_
   · rw [upd_ne n,upd_ne (ne_of_none z hwl)]
     exact z
   · rw [upd_ne nx,upd_same]
     unfold sV
     rw [List.map_map]
     rfl
   · rw [upd_same,st_len]
     rfl
def spTake (K:PySem.W.Frag)(CW CF:Addr):Sp:=fun vs H Q E=>∃ (a:Addr) (e:Nat) (l:List Word) (pl:Nat),vs=[.ref a]/\WordsAt K CW H a e l pl/\(l=[]->Rz CF E 3 (e:Nat))/\(∀ w r,l=w::r->∀ H',SameX a H H'->WordsAt K CW H' a e r w.at_->((tx w.w).length<=70000/\∀ c∈tx w.w,c < 128)->Q (.str (st (tx w.w))) H')
theorem sc_take:FnScope ["self","word"] ["self"] (defScope m_Words_take):=⟨rfl,rfl,rfl,by decide +kernel,rfl,by decide +kernel,by decide +kernel⟩
theorem ok_take {CW CF aW:Addr}(G:GW mg)(B:GB K mg aW)(T:CK K mg "Words" wordsFs CW)(FL:Flt P w K mg base CF){f:Addr}{fd:FuncData}(F:Fun K "take" "Words.take" m_Words_take f fd):FnOk P w K mg base (CXF P w CF) 3 f fd ["self"] (spTake K CW CF):=by
 refine F.okX sc_take (fun vs H Q E h=>?_) (fun cdv A outer s H vs Q E hr h=>?_)
 · obtain ⟨_,_,_,_,rfl,_⟩:=h
   rfl
 · obtain ⟨a,e,l,pl,rfl,⟨dx,wl,all,m,np,ha,hw,ok,hm,hd,hp⟩,q0,q1⟩:=h
   refine ⟨_,pss_cons (ps_if (pt_cmpR op_eq (pe_fld (pv 0) rfl) (pe_callB call_len_seq (by rfl) G.len PySem.boot_len (pa_cons (pe_fld (pv 0) rfl) pa_nil)) (nomark _)) (pss_one (ps_rz FL own_cxOf hr (pa_cons (pe_gv B.word) (pa_cons (pe_fld (pv 0) rfl) pa_nil)))) pss_nil)
    (pss_cons (ps_set (i:=1) sc_take.nd rfl (Or.inl rfl) (pe_ix ix_list (pe_fld (pv 0) rfl) (pe_fld (pv 0) rfl) (fun _ _=>rfl)))
    (pss_cons (ps_fldaug (pv 0) pe_int in_add)
    (pss_cons (ps_fld (pv 0) (pe_fld (pv 0) rfl) rfl)
    (pss_cons (ps_fldaug (pv 0) (pe_op op_add (pe_callB call_len_str (by rfl) G.len PySem.boot_len (pa_cons (pv 1) pa_nil)) pe_int) in_add)
    (pss_one (ps_ret (pv 1))))))),?_⟩
   have no:=fun f (h:f∈wordsFs)=>T.no f h
   refine rd_if (tv_test (ev_eq (ev_fld (ev_var rfl) ha T.cl (no _ (by simp)) fWords_met) (ev_lenQ (ev_fld (ev_var rfl) ha T.cl (no _ (by simp)) fWords_words) (.inl hw)))) (fun h=>?_) (fun h=>?_)
   · rw [dec_int,sV_len] at h
     have hml:m=all.length:=by have:=eq_of_beq h;omega
     refine (ev_fld (ev_var rfl) ha T.cl (no _ (by simp)) fWords_end) _ ⟨3,_,rfl,q0 ?_⟩
     rw [hml,List.drop_length] at hd
     cases l with
     | nil=>rfl
     | cons w r=>cases hd
   · rw [dec_int,sV_len] at h
     have hml:m < all.length:=by
      have:m≠all.length:=fun z=>by rw [z] at h;simp at h
      omega
     cases l with
     | nil =>
      have:=congrArg List.length hd
      rw [List.length_drop] at this
      simp [txs] at this
      omega
     | cons wd r =>
      have hd':all[m]?=some (tx wd.w)/\all.drop (m+1)=txs r:=by
       rw [List.drop_eq_getElem_cons hml] at hd
       have hd:all[m]::all.drop (m+1)=tx wd.w::txs r:=hd
       injection hd with h1 h2
       exact ⟨by rw [List.getElem?_eq_getElem hml,h1],h2⟩
      obtain ⟨hp1,hp2⟩:=hp
      have okw:=ok.1.2 _ (List.mem_of_getElem? hd'.1)
      refine rd_set (ev_ixL (ev_fld (ev_var rfl) ha T.cl (no _ (by simp)) fWords_words) (ev_fld (ev_var rfl) ha T.cl (no _ (by simp)) fWords_met) hw (atI_nat (sV_at hd'.1))) ?_
      refine ⟨_,rfl,a,CW,dx,_,_,rfl,ha,T.cl,no _ (by simp),fWords_met,_,_,rfl,rfl,dx,_,ha,(by show 5 < 1000;decide),?_⟩
      rw [put_met]
      refine ⟨_,rfl,a,CW,dx,_,_,rfl,upd_same,T.cl,no _ (by simp),fWords_next,_,rfl,a,CW,dx,_,rfl,upd_same,T.cl,no _ (by simp),(by show 5 < 1000;decide),?_⟩
      rw [put_place,upd_upd]
      refine ⟨_,rfl,a,CW,dx,_,_,rfl,upd_same,T.cl,no _ (by simp),fWords_next,?_⟩
      refine (ev_add (ev_lenS (ev_var rfl) (by rw [st_len,sizeLine_eq];omega)) ev_c) _ ⟨_,_,rfl,rfl,dx,_,upd_same,(by show 5 < 1000;decide),?_⟩
      rw [put_next,upd_upd]
      refine ⟨_,rfl,?_⟩
      refine q1 wd r rfl _ (SameX.refl a H).upd ⟨dx,wl,all,m+1,np+(tx wd.w).length+1,?_,(SameX.refl a H).upd.seq ha hw,ok,by omega,hd'.2,by rw [tx_length];exact hp2⟩ okw
      rw [upd_same,hp1,st_len]
      have e1:((m:Nat):Int)+1=((m+1:Nat):Int):=by omega
      have e2:((np:Nat):Int)+(((tx wd.w).length:Nat)+1)=((np+(tx wd.w).length+1:Nat):Int):=by omega
      rw [e1,e2]
end
theorem look_no {f:Str}:∀ {fs:List (Str×V)},¬ f∈fs.map (·.1)->fs.lookup f=none
 | [],_=>rfl
 | (g,v)::r,h=>by
  rw [look_ne (fun e=>h (by simp [e]))]
  exact look_no fun z=>h (by simp at z ⊢;exact .inr z)
theorem fWords_no {a b c d e:V}{f:Str}(h:¬ f∈wordsFs):(fWords a b c d e).lookup f=none:=look_no h
theorem WordsAt.obj {K:PySem.W.Frag}{C:Addr}{H:Hp}{a:Addr}{e:Nat}{l:List Word}{pl:Nat}(h:WordsAt K C H a e l pl):∃ dx wl m np,H a=some (.ins C dx (fWords wl m (.int (pl:Nat)) np (.int (e:Nat)))):=by
 obtain ⟨dx,wl,all,m,np,h1,_⟩:=h
 exact ⟨dx,_,_,_,h1⟩
section
variable {P:Program}{w:World}{K:PySem.W.Frag}{mg:Str->Option Value}{base:Heap}
def oneOfW (kn:List String) (w:Word):Prop:=∃ s∈kn,tx w.w=cd s
def spOne (K:PySem.W.Frag)(CW CF:Addr):Sp:=fun vs H Q E=>∃ (a t:Addr) (kn:List String) (e:Nat) (l:List Word) (pl:Nat),vs=[.ref a,.ref t]/\WordsAt K CW H a e l pl/\SqT K H t (kn.map fun s=>V.str (Str.ofString s))/\(l=[]->Rz CF E 3 (e:Nat)) /\
 (∀ w r,l=w::r->¬ oneOfW kn w->Rz CF E 3 (w.at_:Nat))/\(∀ w r,l=w::r->oneOfW kn w->∀ H',SameX a H H'->WordsAt K CW H' a e r w.at_->Q (.str (st (tx w.w))) H')
theorem in_kn {kn:List String}{w:W}:inV (.str (st w)) (kn.map fun s=>V.str (Str.ofString s))=decide (∃ s∈kn,w=cd s):=by
 rw [Bool.eq_iff_iff,decide_eq_true_eq]
 unfold inV
 rw [List.any_map,List.any_eq_true]
 have key:∀ s:String,eqV (V.str (Str.ofString s)) (V.str (st w))=true↔w=cd s:=fun s=>by
  show (Str.ofString s==st w)=true↔_
  rw [beq_iff_eq,of_st,st_inj]
  exact ⟨fun z=>z.symm,fun z=>z.symm⟩
 exact ⟨fun ⟨s,h1,h2⟩=>⟨s,h1,(key s).mp h2⟩,fun ⟨s,h1,h2⟩=>⟨s,h1,(key s).mpr h2⟩⟩
theorem flat_kn (kn:List String):(kn.map fun s=>V.str (Str.ofString s)).all flatV=true:=by
 rw [List.all_map,List.all_eq_true]
 intro _ _
 rfl
theorem sc_one:FnScope ["self","known","word"] ["self","known"] (defScope m_Words_take_one_of):=⟨rfl,rfl,rfl,by decide +kernel,rfl,by decide +kernel,by decide +kernel⟩
theorem ok_one {CW CF aW:Addr}(B:GB K mg aW)(T:CK K mg "Words" wordsFs CW)(FL:Flt P w K mg base CF){k:Nat}(hk:2<=k)(FT:FnM P w K mg base (CXF P w CF) k CW "take" ["self"] (spTake K CW CF)){f:Addr}{fd:FuncData}(F:Fun K "take_one_of" "Words.take_one_of" m_Words_take_one_of f fd) :
  FnOk P w K mg base (CXF P w CF) (k+1) f fd ["self","known"] (spOne K CW CF):=by
 refine F.okX sc_one (fun vs H Q E h=>?_) (fun cdv A outer s H vs Q E hr h=>?_)
 · obtain ⟨_,_,_,_,_,_,rfl,_⟩:=h
   rfl
 · obtain ⟨a,t,kn,e,l,pl,rfl,hW,hT,q0,q1,q2⟩:=h
   refine ⟨_,pss_cons (ps_set (i:=2) sc_one.nd rfl (Or.inl rfl) (pe_mth0 FT T.cl (pv 0) hr (pass_x own_cxOf rfl rfl)))
    (pss_cons (ps_if (pt_cmpR op_notIn_seq (pv 2) (pv 1) (by with_unfolding_all rfl)) (pss_one (ps_rz FL own_cxOf (hr.mono hk) (pa_cons (pe_gv B.word) (pa_cons (pe_fld (pv 0) rfl) pa_nil)))) pss_nil)
    (pss_one (ps_ret (pv 2)))),?_⟩
   obtain ⟨dx,wl,m,np,ha⟩:=hW.obj
   refine ⟨_,rfl,a,dx,_,rfl,ha,fWords_no (by decide +kernel),a,e,l,pl,rfl,hW,q0,fun wd r hl H1 S1 hW1 okw=>?_⟩
   obtain ⟨dx1,wl1,m1,np1,ha1⟩:=hW1.obj
   refine rd_if (tv_test (ev_in (ev_var rfl) (ev_var rfl) (.inr (S1.tup ha hT)) rfl (flat_kn kn))) (fun h=>?_) (fun h=>?_)
   · have h:(!inV (.str (st (tx wd.w))) (kn.map fun s=>V.str (Str.ofString s)))=true:=h
     rw [in_kn,Bool.not_eq_true',decide_eq_false_iff_not] at h
     exact (ev_fld (ev_var rfl) ha1 T.cl (T.no _ (by simp)) fWords_place) _ ⟨3,_,rfl,q1 wd r hl h⟩
   · have h:(!inV (.str (st (tx wd.w))) (kn.map fun s=>V.str (Str.ofString s)))=false:=h
     rw [in_kn,Bool.not_eq_false',decide_eq_true_eq] at h
     exact ⟨_,rfl,q2 wd r hl h H1 S1 hW1⟩
def spFin (K:PySem.W.Frag)(CW CF:Addr):Sp:=fun vs H Q E=>∃ (a:Addr) (e:Nat) (l:List Word) (pl:Nat),vs=[.ref a]/\WordsAt K CW H a e l pl/\(∀ w r,l=w::r->Rz CF E 3 (w.at_:Nat))/\(l=[]->Q .non H)
theorem sc_fin:FnScope ["self"] ["self"] (defScope m_Words_finish):=⟨rfl,rfl,rfl,by decide +kernel,rfl,by decide +kernel,by decide +kernel⟩
theorem ok_fin {CW CF aW:Addr}(G:GW mg)(B:GB K mg aW)(T:CK K mg "Words" wordsFs CW)(FL:Flt P w K mg base CF){f:Addr}{fd:FuncData}(F:Fun K "finish" "Words.finish" m_Words_finish f fd):FnOk P w K mg base (CXF P w CF) 3 f fd ["self"] (spFin K CW CF):=by
 refine F.okX sc_fin (fun vs H Q E h=>?_) (fun cdv A outer s H vs Q E hr h=>?_)
 · obtain ⟨_,_,_,_,rfl,_⟩:=h
   rfl
 · obtain ⟨a,e,l,pl,rfl,⟨dx,wl,all,m,np,ha,hw,ok,hm,hd,hp⟩,q1,q0⟩:=h
   refine ⟨_,pss_one (ps_if (pt_cmpR op_lt (pe_fld (pv 0) rfl) (pe_callB call_len_seq (by rfl) G.len PySem.boot_len (pa_cons (pe_fld (pv 0) rfl) pa_nil)) (nomark _)) (pss_one (ps_rz FL own_cxOf hr (pa_cons (pe_gv B.word) (pa_cons (pe_fld (pv 0) rfl) pa_nil)))) pss_nil),?_⟩
   refine rd_if (tv_i (ev_fld (ev_var rfl) ha T.cl (T.no _ (by simp)) fWords_met) (ev_lenQ (ev_fld (ev_var rfl) ha T.cl (T.no _ (by simp)) fWords_words) (.inl hw))) (fun h=>?_) (fun h=>?_)
   · rw [sV_len] at h
     have hml:m < all.length:=by have:=of_decide_eq_true h;omega
     cases l with
     | nil =>
      have:=congrArg List.length hd
      rw [List.length_drop] at this
      simp [txs] at this
      omega
     | cons wd r =>
      refine (ev_fld (ev_var rfl) ha T.cl (T.no _ (by simp)) fWords_next) _ ⟨3,_,rfl,?_⟩
      rw [← hp.1]
      exact q1 wd r rfl
   · rw [sV_len] at h
     have hml:m=all.length:=by have:=of_decide_eq_false h;omega
     refine q0 ?_
     rw [hml,List.drop_length] at hd
     cases l with
     | nil=>rfl
     | cons w r=>cases hd
def spStake (K:PySem.W.Frag)(CW CF:Addr):Sp:=fun vs H Q E=>∃ (a:Addr) (u:Nat) (e:Nat) (l:List Word) (pl:Nat),vs=[.ref a,.int (u:Nat)]/\1<=u/\WordsAt K CW H a e l pl/\(l=[]->Rz CF E 3 (e:Nat)) /\
 (∀ w r,l=w::r->¬ (1<=numM (tx w.w)/\numM (tx w.w)<=1000000/\numM (tx w.w) % (u:Int)=0)->Rz CF E 4 (w.at_:Nat)) /\
 (∀ w r,l=w::r->(1<=numM (tx w.w)/\numM (tx w.w)<=1000000/\numM (tx w.w) % (u:Int)=0)->∀ H',SameX a H H'->WordsAt K CW H' a e r w.at_->Q (.int (numM (tx w.w))) H')
theorem sc_stake:FnScope ["words","unit","stake"] ["words","unit"] (defScope f_take_stake):=⟨rfl,rfl,rfl,by decide +kernel,rfl,by decide +kernel,by decide +kernel⟩
theorem ok_stake {CW CF aW:Addr}(B:GB K mg aW)(T:CK K mg "Words" wordsFs CW)(FL:Flt P w K mg base CF){k:Nat}(hk:2<=k)(FT:FnM P w K mg base (CXF P w CF) k CW "take" ["self"] (spTake K CW CF))(FN:Fn P w K mg base CX0 k "number_of" ["word"] spNum)
  {f:Addr}{fd:FuncData}(F:Fun K "take_stake" "take_stake" f_take_stake f fd):FnOk P w K mg base (CXF P w CF) (k+1) f fd ["words","unit"] (spStake K CW CF):=by
 refine F.okX sc_stake (fun vs H Q E h=>?_) (fun cdv A outer s H vs Q E hr h=>?_)
 · obtain ⟨_,_,_,_,_,rfl,_⟩:=h
   rfl
 · obtain ⟨a,u,e,l,pl,rfl,hu1,hW,q0,q1,q2⟩:=h
   refine ⟨_,pss_cons (ps_set (i:=2) sc_stake.nd rfl (Or.inl rfl) (pe_fn FN hr pass0 (pa_cons (pe_mth0 FT T.cl (pv 0) hr (pass_x own_cxOf rfl rfl)) pa_nil)))
    (pss_cons (ps_if (PW.pt (pw_or (pt_not (pt_chain op_le op_le pe_int (pv 2) (pe_gv B.stake))) (pw_or1 (pt_cmpR op_ne (pe_op op_mod (pv 2) (pv 1)) pe_int (nomark _))))) (pss_one (ps_rz FL own_cxOf (hr.mono hk) (pa_cons (pe_gv B.num) (pa_cons (pe_fld (pv 0) rfl) pa_nil)))) pss_nil)
    (pss_one (ps_ret (pv 2)))),?_⟩
   obtain ⟨dx,wl,m,np,ha⟩:=hW.obj
   refine ⟨_,rfl,a,dx,_,rfl,ha,fWords_no (by decide +kernel),a,e,l,pl,rfl,hW,q0,fun wd r hl H1 S1 hW1 okw=>?_⟩
   obtain ⟨dx1,wl1,m1,np1,ha1⟩:=hW1.obj
   refine ⟨tx wd.w,rfl,okw.1,okw.2,?_⟩
   refine rd_if (tv_or (tv_not (tv_chain ev_c (ev_var rfl) ev_c)) fun _=>tv_test (ev_ne (ev_ic (ev_var rfl) (ev_var rfl) (by show (0:Int) < (u:Int);omega)) ev_c)) (fun h=>?_) (fun h=>?_)
   · refine (ev_fld (ev_var rfl) ha1 T.cl (T.no _ (by simp)) fWords_place) _ ⟨4,_,rfl,q1 wd r hl fun z=>?_⟩
     rw [dec_int] at h
     simp [z.1,z.2.1,z.2.2] at h
   · rw [dec_int] at h
     simp only [Bool.or_eq_false_iff,Bool.not_eq_false',Bool.and_eq_true,decide_eq_true_eq,beq_iff_eq] at h
     exact ⟨_,rfl,q2 wd r hl ⟨h.1.1,h.1.2,h.2⟩ H1 S1 hW1⟩
end
theorem WordsAt.put {K:PySem.W.Frag}{C:Addr}{H:Hp}{a p:Addr}{e:Nat}{l:List Word}{pl:Nat}{xs ys:List V}(h:WordsAt K C H a e l pl)(hp:H p=some (.lst xs))(hn:∀ v∈xs,∀ s,v≠.str s):WordsAt K C (upd H p (.lst ys)) a e l pl:=by
 obtain ⟨dx,wl,all,m,np,h1,h2,⟨ok,ne⟩,r⟩:=h
 have nap:a≠p:=ne_of h1 hp (by intro z;cases z)
 refine ⟨dx,wl,all,m,np,by rw [upd_ne nap];exact h1,?_,⟨ok,ne⟩,r⟩
 rcases h2 with (h2|⟨o,h2⟩)|h2
 · refine .inl (.inl ?_)
   rw [upd_ne]
   · exact h2
   · rintro rfl
     rw [hp] at h2
     injection h2 with h2
     injection h2 with h2
     subst h2
     cases all with
     | nil=>exact ne rfl
     | cons w r=>exact hn _ (List.mem_cons_self ..) _ rfl
 · refine .inl (.inr ⟨o,?_⟩)
   rw [upd_ne (ne_of h2 hp (by intro z;cases z))]
   exact h2
 · exact .inr h2
theorem nV_int {ns:List Nat}:∀ v∈nV ns,∀ s,v≠V.str s:=fun v hv s=>by
 obtain ⟨n,_,rfl⟩:=List.mem_map.mp hv
 intro z
 cases z
theorem ref_int {as:List Addr}:∀ v∈as.map V.ref,∀ s,v≠V.str s:=fun v hv s=>by
 obtain ⟨n,_,rfl⟩:=List.mem_map.mp hv
 intro z
 cases z
theorem flat_nV (ns:List Nat):(nV ns).all flatV=true:=by
 unfold nV
 rw [List.all_map,List.all_eq_true]
 intro _ _
 rfl
theorem in_nV {ns:List Nat}{i:Int}:inV (.int i) (nV ns)=decide (∃ n∈ns,i=(n:Int)):=by
 rw [Bool.eq_iff_iff,decide_eq_true_eq]
 unfold inV nV
 rw [List.any_map,List.any_eq_true]
 have key:∀ n:Nat,eqV (V.int (n:Nat)) (V.int i)=true↔i=(n:Int):=fun n=>by
  show (((n:Nat):Int)==i)=true↔_
  rw [beq_iff_eq]
  exact ⟨fun z=>z.symm,fun z=>z.symm⟩
 exact ⟨fun ⟨s,h1,h2⟩=>⟨s,h1,(key s).mp h2⟩,fun ⟨s,h1,h2⟩=>⟨s,h1,(key s).mpr h2⟩⟩
theorem at_last {ns:List Nat}{x:Nat}(h:ns.getLast?=some x):atI (nV ns) (-1)=some (.int (x:Nat)):=by
 have hne:ns≠[]:=by rintro rfl;cases h
 have hl:0 < ns.length:=List.length_pos_iff.mpr hne
 have hx:(nV ns)[ns.length - 1]?=some (.int (x:Nat)):=by
  unfold nV
  rw [List.getElem?_map,← List.getLast?_eq_getElem?,h]
  rfl
 unfold atI ixN
 rw [if_neg (by decide),nV_len,if_pos (by omega)]
 show (nV ns)[_]?=_
 rw [← hx]
 congr 1
 omega
theorem tv_of {t:TT}{σ:L2.St}{H:Hp}{b c:Bool}(h:Tv t σ H b)(e:b=c):Tv t σ H c:=e ▸ h
theorem fits_none {fld:List Nat}{pt:W}:(!decide (∃ n∈fld,numM pt=(n:Int)))=!decide (Fits fld [] pt):=by
 congr 1
 rw [decide_eq_decide]
 exact ⟨fun ⟨n,h1,h2⟩=>⟨n,h2,h1,fun _ z=>by cases z⟩,fun ⟨n,h1,h2,_⟩=>⟨n,h2,h1⟩⟩
theorem fits_some {fld acc:List Nat}{pt:W}{x:Nat}(h:acc.getLast?=some x):(!decide (∃ n∈fld,numM pt=(n:Int))||(true&&decide (numM pt<=((x:Nat):Int))))=!decide (Fits fld acc pt):=by
 rw [Bool.true_and,Bool.eq_iff_iff]
 simp only [Bool.or_eq_true,Bool.not_eq_true',decide_eq_true_eq,decide_eq_false_iff_not]
 constructor
 · rintro (z|z) ⟨n,h1,h2,h3⟩
   · exact z ⟨n,h2,h1⟩
   · have:=h3 x h
     omega
 · intro z
   by_cases q:∃ n∈fld,numM pt=(n:Int)
   · obtain ⟨n,h1,h2⟩:=q
     refine .inr ?_
     by_cases q2:numM pt<=((x:Nat):Int)
     · exact q2
     · exact absurd ⟨n,h2,h1,fun y hy=>by rw [h] at hy;injection hy with hy;omega⟩ z
   · exact .inl q
theorem lit_cm:Str.ofString ","=st [44]:=by rw [of_st];rfl
section
variable {P:Program}{w:World}{K:PySem.W.Frag}{mg:Str->Option Value}{base:Heap}
def spSet (K:PySem.W.Frag) (CW CF:Addr):Sp:=fun vs H Q E=>∃ (a f:Addr) (fd:List Nat) (e:Nat) (l:List Word) (pl:Nat),vs=[.ref a,.ref f]/\WordsAt K CW H a e l pl/\SqL K H f (nV fd)/\(∀ x∈fd,x<=24) /\
 (∀ t,setIn e fd l=.error t->Rz CF E (t.kind:Nat) (t.place:Nat)) /\
 (∀ s p r,setIn e fd l=.ok ((s,p),r)->∀ H' x,SameX a H H'->H x=none->H' x=some (.lst (nV s))->WordsAt K CW H' a e r p->Q (.ref x) H')
theorem sc_set:FnScope ["words","field","numbers","part","number"] ["words","field"] (defScope f_take_set):=⟨rfl,rfl,rfl,by decide +kernel,rfl,by decide +kernel,by decide +kernel⟩
theorem ok_set {CW CF aW:Addr}(G:GW mg)(B:GB K mg aW)(T:CK K mg "Words" wordsFs CW)(FL:Flt P w K mg base CF){k:Nat}(hk:2<=k)(FT:FnM P w K mg base (CXF P w CF) k CW "take" ["self"] (spTake K CW CF))(FN:Fn P w K mg base CX0 k "number_of" ["word"] spNum)
  {f:Addr}{fd:FuncData}(F:Fun K "take_set" "take_set" f_take_set f fd):FnOk P w K mg base (CXF P w CF) (k+1) f fd ["words","field"] (spSet K CW CF):=by
 refine F.okX sc_set (fun vs H Q E h=>?_) (fun cdv A outer s H vs Q E hr h=>?_)
 · obtain ⟨_,_,_,_,_,_,rfl,_⟩:=h
   rfl
 · obtain ⟨a,fa,fld,e,l,pl,rfl,hW,hF,hf24,q0,q1⟩:=h
   refine ⟨_,pss_cons (ps_set (i:=2) sc_set.nd rfl (Or.inl rfl) (pe_lst pa_nil))
    (pss_cons (ps_for (own_x own_cxOf) rfl (pi_list (pe_split (pe_mth0 FT T.cl (pv 0) hr (pass_x own_cxOf rfl rfl)) pe_str)) (pg_name (i:=3) sc_set.nd rfl (Or.inl rfl))
     (pss_cons (ps_set (i:=4) sc_set.nd rfl (Or.inl rfl) (pe_fn FN hr pass0 (pa_cons (pv 3) pa_nil)))
     (pss_cons (ps_if (PW.pt (pw_or (pt_cmpR op_notIn_seq (pv 4) (pv 1) (by with_unfolding_all rfl)) (pw_or1 (PW.pt (pw_and (pt_cmpR op_gt (pe_callB call_len_seq (by rfl) G.len PySem.boot_len (pa_cons (pv 2) pa_nil)) pe_int (nomark _)) (pw_and1 (pt_cmpR op_le (pv 4) (pe_ix ix_list (pv 2) (pe_un un_neg pe_int) (fun _ _=>rfl)) (nomark _)))))))) (pss_one (ps_rz FL own_cxOf (hr.mono hk) (pa_cons (pe_gv B.num) (pa_cons (pe_fld (pv 0) rfl) pa_nil)))) pss_nil)
     (pss_one (ps_expr (pe_bm PySem.F.plainAttrs_list PySem.F.slot_list_append PySem.F.type_list_append mt_append (pv 2) (pa_cons (pv 4) pa_nil)))))))
    (pss_one (ps_ret (pv 2)))),?_⟩
   refine ⟨Nat.zero_le _,fun p hp=>?_⟩
   have S0:Same H (upd H p (.lst [])):=(Same.refl H).laid hp
   have hW0:=hW.same S0
   obtain ⟨dx,wl,m,np,ha⟩:=hW0.obj
   refine ⟨_,rfl,a,dx,_,rfl,ha,fWords_no (by decide +kernel),a,e,l,pl,rfl,hW0,fun z=>?_,fun wd r hl H1 S1 hW1 okw=>?_⟩
   · subst z
     exact q0 _ setIn_nil
   subst hl
   rw [setIn_cons hf24] at q0 q1
   refine ⟨⟨_,rfl⟩,_,_,rfl,rfl,by decide +kernel,by rw [st_len,sizeLine_eq];have:=okw.1;omega,fun sl hsl=>?_⟩
   rw [lit_cm,split_st (by decide)]
   have nap:a≠p:=ne_of_none (hW.obj.choose_spec.choose_spec.choose_spec.choose_spec) hp
   have e1:H1 p=some (.lst []):=S1 p _ upd_same nap.symm
   have nsp:sl≠p:=by
    rintro rfl
    rw [e1] at hsl
    cases hsl
   have SX1:SameX a H H1:=S0.x.trans S1
   have hslH:H sl=none:=SX1.free hsl (by
    rintro rfl
    rw [hW1.obj.choose_spec.choose_spec.choose_spec.choose_spec] at hsl
    cases hsl)
   have eP:List.map (fun x=>V.str x) (List.map st (splitC 44 [] (tx wd.w)))=sV (splitC 44 [] (tx wd.w)):=by
    unfold sV
    rw [List.map_map]
    rfl
   rw [eP]
   unfold setM at q0 q1
   have hpl:(splitC 44 [] (tx wd.w)).length<=70001:=by
    have:=splitC_len 44 (tx wd.w) []
    have:=okw.1
    omega
   have hpo:∀ v∈splitC 44 [] (tx wd.w),v.length<=70000/\∀ c∈v,c < 128:=fun v hv=>by
    obtain ⟨z1,z2⟩:=splitC_sub 44 (tx wd.w) [] v hv
    refine ⟨by simp at z1;have:=okw.1;omega,fun c hc=>?_⟩
    rcases z2 c hc with z|z
    · cases z
    · exact okw.2 c z
   generalize splitC 44 [] (tx wd.w)=ps at q0 q1 hpl hpo
   obtain ⟨dh,wh,mh,nh,hah⟩:=hW.obj
   refine ⟨sl,rfl,⟨_,SqL.of upd_same⟩,for_list (K:=K) (a:=sl) (xs:=sV ps) (fun i σ H'=>∃ (v3 v4:Option V) (acc:List Nat),σ=[some (.ref a),some (.ref fa),some (.ref p),v3,v4]/\SameX a H H'/\WordsAt K CW H' a e r wd.at_ /\
     H' p=some (.lst (nV acc))/\H' sl=some (.lst (sV ps))/\acc.length<=i/\i<=ps.length/\setGo fld (ps.drop i) acc=setGo fld ps [])
    ⟨none,none,[],rfl,SX1.laid hslH,hW1.same ((Same.refl H1).laid hsl),by rw [upd_ne nsp.symm];exact e1,upd_same,Nat.le_refl _,Nat.zero_le _,rfl⟩ (fun i σ H' _ ⟨_,_,_,_,_,_,_,z,_⟩=>SqL.of z) ?_ ?_⟩
   · rintro i x σ H' hi ⟨v3,v4,acc,rfl,SX,hW',e2,e3,hal,hil,hc⟩
     have hil:i < ps.length:=by
      have:=(List.getElem?_eq_some_iff.mp hi).1
      rwa [sV_len] at this
     have hx:x=.str (st ps[i]):=by
      rw [sV_at (List.getElem?_eq_getElem hil)] at hi
      exact (Option.some.inj hi).symm
     subst hx
     have okp:=hpo ps[i] (List.getElem_mem hil)
     rw [List.drop_eq_getElem_cons hil] at hc
     generalize ps[i]=pt at hc okp
     have hc:(if Fits fld acc pt then setGo fld (ps.drop (i+1)) (acc++[(numM pt).toNat]) else none)=setGo fld ps []:=hc
     obtain ⟨dx',wl',m',np',ha'⟩:=hW'.obj
     refine rd_set (ev_num (wd:=pt) (ev_var rfl) okp) ?_
     have hF':=SX.seq hah hF
     have fail:¬ Fits fld acc pt->Rz CF E 4 (wd.at_:Nat):=fun z=>by
      rw [if_neg z] at hc
      rw [← hc] at q0
      exact q0 _ rfl
     dsimp only
     refine rd_if (b:=!decide (Fits fld acc pt)) ?_ (fun h=>?_) (fun h=>?_)
     · cases hl:acc.getLast? with
       | none =>
        have:acc=[]:=by simpa using hl
        subst this
        refine tv_of (tv_or (tv_test (ev_in (ev_var rfl) (ev_var rfl) (.inl hF') rfl (flat_nV fld))) fun _=>tv_and (c:=false) (tv_i (ev_lenQ (ev_var rfl) (.inl (SqL.of e2))) ev_c) fun z=>absurd z (by decide)) ?_
        rw [Bool.and_false,Bool.or_false,← fits_none,← in_nV]
        rfl
       | some y =>
        have hne:0 < acc.length:=by
         cases acc with
         | nil=>cases hl
         | cons _ _=>exact Nat.succ_pos _
        refine tv_of (tv_or (tv_test (ev_in (ev_var rfl) (ev_var rfl) (.inl hF') rfl (flat_nV fld))) fun _=>tv_and (tv_i (ev_lenQ (ev_var rfl) (.inl (SqL.of e2))) ev_c) fun z=>tv_i (ev_var rfl) (ev_ixL (ev_var rfl) (ev_neg ev_c) (SqL.of e2) (at_last hl))) ?_
        rw [← fits_some hl,← in_nV,nV_len]
        rw [show decide ((acc.length:Int) > 0)=true from decide_eq_true (by omega)]
        rfl
     · exact (ev_fld (ev_var rfl) ha' T.cl (T.no _ (by simp)) fWords_place) _ ⟨4,_,rfl,fail (by simpa using h)⟩
     · have hfit:Fits fld acc pt:=by simpa using h
       rw [if_pos hfit] at hc
       obtain ⟨n,hn,_⟩:=hfit
       have en:(numM pt).toNat=n:=by omega
       rw [en] at hc
       have eA:nV acc++[V.int (n:Nat)]=nV (acc++[n]):=by
        unfold nV
        rw [List.map_append]
        rfl
       rw [hn]
       refine ⟨_,rfl,.inl ⟨rfl,_,SqL.of e2⟩,_,rfl,p,_,_,rfl,rfl,e2,by rw [nV_len,sizeLine_eq];omega,?_⟩
       rw [eA]
       exact ⟨_,_,acc++[n],rfl,SX.laid hp,hW'.put e2 nV_int,upd_same,by rw [upd_ne nsp];exact e3,by rw [List.length_append];simp;omega,hil,hc⟩
   · rintro σ H' ⟨v3,v4,acc,rfl,SX,hW',e2,e3,hal,hil,hc⟩
     rw [sV_len,List.drop_length] at hc
     have hc:some acc=setGo fld ps []:=hc
     rw [← hc] at q1
     exact ⟨_,rfl,q1 _ _ _ rfl _ _ SX hp e2 hW'⟩
end
theorem rd_rz {C:Addr}{E:XK}{tp:TE}{D:Ends}{σ:L2.St}{H:Hp}{k p:Int}(h:Ev tp σ H (.int p))(q:Rz C E k p):tRz C E (tCons (tC (.int k)) (tCons tp tNil)) D σ H:=h _ ⟨k,p,rfl,q⟩
section
variable {P:Program}{w:World}{K:PySem.W.Frag}{mg:Str->Option Value}{base:Heap}
theorem one_must {CW CF:Addr} {H:Hp} {Q:VK} {E:XK} {a t:Addr} {e:Nat} {l:List Word} {pl:Nat} {s:String} (hp:plainT s=true) (hW:WordsAt K CW H a e l pl) (hT:SqT K H t [V.str (Str.ofString s)]) (q0:∀ x,must e s l=.error x->Rz CF E (x.kind:Nat) (x.place:Nat))
  (q1:∀ r,must e s l=.ok r->∀ H' v pl',SameX a H H'->WordsAt K CW H' a e r pl'->Q v H'):spOne K CW CF [.ref a,.ref t] H Q E:=by
 have one:∀ wd:Word,oneOfW [s] wd↔wd.w=ascii s:=fun wd=>by
  rw [← tx_lit _ hp]
  unfold oneOfW
  exact ⟨fun ⟨x,h1,h2⟩=>by rw [List.mem_singleton] at h1;subst h1;exact h2,fun h=>⟨s,List.mem_singleton_self s,h⟩⟩
 refine ⟨a,t,[s],e,l,pl,rfl,hW,hT,fun z=>?_,fun wd r hl hn=>?_,fun wd r hl ho H' S h'=>?_⟩
 · subst z
   exact q0 _ must_nil
 · subst hl
   refine q0 ⟨3,wd.at_⟩ ?_
   rw [must_cons,if_neg (fun z=>hn ((one wd).mpr z))]
 · subst hl
   refine q1 r ?_ H' _ _ S h'
   rw [must_cons,if_pos ((one wd).mp ho)]
def Gets (K:PySem.W.Frag)(CW CF:Addr)(a:Addr)(e:Nat)(H:Hp)(Q:VK)(E:XK)(x:Got):Prop:=(∀ t,x=.error t->Rz CF E (t.kind:Nat) (t.place:Nat)) /\
 ∀ s r,x=.ok (s,r)->∀ H' y pl,SameX a H H'->SetsAt H' y s->WordsAt K CW H' a e r pl->Q (.ref y) H'
def spBox (K:PySem.W.Frag)(CW CF:Addr):Sp:=fun vs H Q E=>∃ (a f:Addr) (fd:List Nat) (k e:Nat) (l:List Word) (pl:Nat),vs=[.ref a,.ref f,.int (k:Nat)]/\WordsAt K CW H a e l pl/\SqL K H f (nV fd)/\(∀ x∈fd,x<=24)/\Gets K CW CF a e H Q E (boxW e k fd l)
theorem sc_box:FnScope ["words","field","size","numbers"] ["words","field","size"] (defScope f_take_box):=⟨rfl,rfl,rfl,by decide +kernel,rfl,by decide +kernel,by decide +kernel⟩
theorem ok_box {CW CF aW:Addr}(G:GW mg)(B:GB K mg aW)(T:CK K mg "Words" wordsFs CW)(FL:Flt P w K mg base CF){k:Nat}(hk:2<=k)(FS:Fn P w K mg base (CXF P w CF) k "take_set" ["words","field"] (spSet K CW CF))
  {f:Addr}{fd:FuncData}(F:Fun K "take_box" "take_box" f_take_box f fd):FnOk P w K mg base (CXF P w CF) (k+1) f fd ["words","field","size"] (spBox K CW CF):=by
 refine F.okX sc_box (fun vs H Q E h=>?_) (fun cdv A outer s H vs Q E hr h=>?_)
 · obtain ⟨_,_,_,_,_,_,_,rfl,_⟩:=h
   rfl
 · obtain ⟨a,fa,fld,sz,e,l,pl,rfl,hW,hF,hf24,q0,q1⟩:=h
   refine ⟨_,pss_cons (ps_set (i:=3) sc_box.nd rfl (Or.inl rfl) (pe_fn FS hr (pass_x own_cxOf rfl rfl) (pa_cons (pv 0) (pa_cons (pv 1) pa_nil))))
    (pss_cons (ps_if (pt_cmpR op_lt (pe_callB call_len_seq (by rfl) G.len PySem.boot_len (pa_cons (pv 3) pa_nil)) (pv 2) (nomark _)) (pss_one (ps_rz FL own_cxOf (hr.mono hk) (pa_cons (pe_gv B.num) (pa_cons (pe_fld (pv 0) rfl) pa_nil)))) pss_nil)
    (pss_one (ps_ret (pe_lst (pa_cons (pv 3) pa_nil))))),?_⟩
   unfold boxW at q0 q1
   refine ⟨_,rfl,_,rfl,a,fa,fld,e,l,pl,rfl,hW,hF,hf24,fun t ht=>?_,fun st p r hst H1 x S1 hx hx1 hW1=>?_⟩
   · rw [ht] at q0
     exact q0 _ rfl
   rw [hst] at q0 q1
   obtain ⟨dx1,wl1,m1,np1,ha1⟩:=hW1.obj
   obtain ⟨_,_,wd,_,hpl,_⟩:=setIn_good hf24 hst
   refine rd_if (tv_i (ev_lenQ (ev_var rfl) (.inl (SqL.of hx1))) (ev_var rfl)) (fun h=>?_) (fun h=>?_)
   · rw [nV_len] at h
     have h:=of_decide_eq_true h
     have q0:=q0 ⟨4,p⟩ (by show (if sz<=st.length then _ else _)=_;rw [if_neg (by omega)])
     exact (ev_fld (ev_var rfl) ha1 T.cl (T.no _ (by simp)) fWords_place) _ ⟨4,_,rfl,q0⟩
   · rw [nV_len] at h
     have h:=of_decide_eq_false h
     have q1:=q1 [st] r (by show (if sz<=st.length then _ else _)=_;rw [if_pos (by omega)])
     refine ⟨_,rfl,(by show 1<=sizeLine;decide),fun y hy=>q1 _ y p (fun b u z n=>?_) ⟨[x],upd_same,.cons ?_ .nil⟩ (hW1.same ((Same.refl H1).laid hy))⟩
     · have:=S1 b u z n
       rw [upd_ne (ne_of_none this hy)]
       exact this
     · rw [upd_ne (ne_of_none hx1 hy)];exact hx1
theorem GoodSet.len25 {fd s:List Nat}(g:GoodSet fd s)(h:∀ x∈fd,x<=24):s.length<=25:=by
 have:=len_le_of_sub (m:=List.range 25) g.rise.nodup fun x hx=>List.mem_range.mpr (by have:=h x (g.sub x hx);omega)
 simpa using this
def spKey (K:PySem.W.Frag)(CW CF:Addr):Sp:=fun vs H Q E=>∃ (a f:Addr) (fd:List Nat) (k e:Nat) (l:List Word) (pl:Nat),vs=[.ref a,.ref f,.int (k:Nat)]/\WordsAt K CW H a e l pl/\SqL K H f (nV fd)/\(∀ x∈fd,x<=24)/\Gets K CW CF a e H Q E (keyW e k fd l)
theorem sc_key:FnScope ["words","field","size","bankers","others","number"] ["words","field","size"] (defScope f_take_key):=⟨rfl,rfl,rfl,by decide +kernel,rfl,by decide +kernel,by decide +kernel⟩
theorem ok_key {CW CF aW:Addr}(G:GW mg)(B:GB K mg aW)(T:CK K mg "Words" wordsFs CW)(FL:Flt P w K mg base CF){k:Nat}(hk:2<=k)(FS:Fn P w K mg base (CXF P w CF) k "take_set" ["words","field"] (spSet K CW CF))(FO:FnM P w K mg base (CXF P w CF) k CW "take_one_of" ["self","known"] (spOne K CW CF))
  {f:Addr}{fd:FuncData}(F:Fun K "take_key" "take_key" f_take_key f fd):FnOk P w K mg base (CXF P w CF) (k+1) f fd ["words","field","size"] (spKey K CW CF):=by
 refine F.okX sc_key (fun vs H Q E h=>?_) (fun cdv A outer s H vs Q E hr h=>?_)
 · obtain ⟨_,_,_,_,_,_,_,rfl,_⟩:=h
   rfl
 · obtain ⟨a,fa,fld,sz,e,l,pl,rfl,hW,hF,hf24,q0,q1⟩:=h
   refine ⟨_,pss_cons (ps_set (i:=3) sc_key.nd rfl (Or.inr rfl) (pe_fn FS hr (pass_x own_cxOf rfl rfl) (pa_cons (pv 0) (pa_cons (pv 1) pa_nil))))
    (pss_cons (ps_if (pt_cmpR op_gt (pe_callB call_len_seq (by rfl) G.len PySem.boot_len (pa_cons (pv 3) pa_nil)) (pe_op op_sub (pv 2) pe_int) (nomark _)) (pss_one (ps_rz FL own_cxOf (hr.mono hk) (pa_cons (pe_gv B.num) (pa_cons (pe_fld (pv 0) rfl) pa_nil)))) pss_nil)
    (pss_cons (ps_expr (pe_mth FO T.cl (pv 0) hr (pass_x own_cxOf rfl rfl) (pa_cons (pe_tup (pa_cons pe_str pa_nil)) pa_nil)))
    (pss_cons (ps_set (i:=4) sc_key.nd rfl (Or.inl rfl) (pe_fn FS hr (pass_x own_cxOf rfl rfl) (pa_cons (pv 0) (pa_cons (pv 1) pa_nil))))
    (pss_cons (ps_if (PW.pt (pw_or (pt_val (pe_callB (cr_any rfl) (by rfl) B.any (by decide +kernel) (pa_cons (pe_lc (te:=tOp (rIn K false) (tVar 5) (tVar 3)) rfl sc_key.nd (pi_list (pv 4)) (blkOk_by (own:=[("number",5)]) rfl) (fun _ _ _ _ _=>pg_name (i:=5) sc_key.nd rfl (Or.inl rfl)) (fun _ _ _ _ _=>pts_nil)
      (fun _ _ _ _ _=>pe_cmpR op_in_seq (pv 5) (pv 3) (by with_unfolding_all rfl))) pa_nil)))
      (pw_or1 (pt_cmpR op_lt (pe_op op_add (pe_callB call_len_seq (by rfl) G.len PySem.boot_len (pa_cons (pv 3) pa_nil)) (pe_callB call_len_seq (by rfl) G.len PySem.boot_len (pa_cons (pv 4) pa_nil))) (pv 2) (nomark _))))) (pss_one (ps_rz FL own_cxOf (hr.mono hk) (pa_cons (pe_gv B.num) (pa_cons (pe_fld (pv 0) rfl) pa_nil)))) pss_nil)
    (pss_one (ps_ret (pe_lst (pa_cons (pv 3) (pa_cons (pv 4) pa_nil))))))))),?_⟩
   unfold keyW at q0 q1
   obtain ⟨d0,w0,m0,n0,ha0⟩:=hW.obj
   refine ⟨_,rfl,_,rfl,a,fa,fld,e,l,pl,rfl,hW,hF,hf24,fun t ht=>?_,fun sa p r hsa H1 x S1 hx hx1 hW1=>?_⟩
   · rw [ht] at q0
     exact q0 _ rfl
   rw [hsa] at q0 q1
   obtain ⟨dx1,wl1,m1,np1,ha1⟩:=hW1.obj
   obtain ⟨ga,_⟩:=setIn_good hf24 hsa
   have q0:∀ t,keyW2 e sz fld sa p r=.error t->Rz CF E (t.kind:Nat) (t.place:Nat):=q0
   have q1:∀ s u,keyW2 e sz fld sa p r=.ok (s,u)->_:=q1
   unfold keyW2 at q0 q1
   have nxa:x≠a:=(ne_of_none ha0 hx).symm
   refine rd_if (tv_i (ev_lenQ (ev_var rfl) (.inl (SqL.of hx1))) (ev_sub (ev_var rfl) ev_c)) (fun h=>?_) (fun h=>?_)
   · rw [nV_len] at h
     have h:=of_decide_eq_true h
     rw [if_neg (by omega)] at q0
     exact (ev_fld (ev_var rfl) ha1 T.cl (T.no _ (by simp)) fWords_place) _ ⟨4,_,rfl,q0 _ rfl⟩
   rw [nV_len] at h
   have h:=of_decide_eq_false h
   rw [if_pos (by omega)] at q0 q1
   refine ⟨_,rfl,a,dx1,_,rfl,ha1,fWords_no (by decide +kernel),(by show 1<=sizeLine;decide),fun t ht=>?_⟩
   have St:Same H1 (upd H1 t (.tup [V.str (Str.ofString "with")])):=(Same.refl H1).laid ht
   show tNil _ _ _
   unfold tNil
   dsimp only [List.append_nil]
   refine one_must (s:="with") (by decide +kernel) (hW1.same St) (SqT.of upd_same) (fun y hy=>?_) (fun m hm H2 v pl2 S2 hW2=>?_)
   · rw [hy] at q0
     exact q0 _ rfl
   rw [hm] at q0 q1
   have q0:∀ t,keyW3 e sz fld sa m=.error t->Rz CF E (t.kind:Nat) (t.place:Nat):=q0
   have q1:∀ s u,keyW3 e sz fld sa m=.ok (s,u)->_:=q1
   unfold keyW3 at q0 q1
   have S02:SameX a H H2:=(S1.trans St.x).trans S2
   have hx2:H2 x=some (.lst (nV sa)):=S2 _ _ (St _ _ hx1) nxa
   refine ⟨_,rfl,_,rfl,a,fa,fld,e,m,pl2,rfl,hW2,S02.seq ha0 hF,hf24,fun t ht=>?_,fun sb p2 r2 hsb H3 y S3 hy hy3 hW3=>?_⟩
   · rw [ht] at q0
     exact q0 _ rfl
   rw [hsb] at q0 q1
   have q0:∀ t,(if (∀ x∈sb,¬ x∈sa)/\sz<=sa.length+sb.length then (Except.ok ([sa,sb],r2):Got) else .error ⟨4,p2⟩)=.error t->Rz CF E (t.kind:Nat) (t.place:Nat):=q0
   have q1:∀ s u,(if (∀ x∈sb,¬ x∈sa)/\sz<=sa.length+sb.length then (Except.ok ([sa,sb],r2):Got) else .error ⟨4,p2⟩)=.ok (s,u)->_:=q1
   obtain ⟨gb,_⟩:=setIn_good hf24 hsb
   have hx3:H3 x=some (.lst (nV sa)):=S3 _ _ hx2 nxa
   have S03:SameX a H H3:=S02.trans S3
   obtain ⟨dx3,wl3,m3,np3,ha3⟩:=hW3.obj
   have lb:sb.length<=25:=gb.len25 hf24
   refine ⟨_,rfl,y,rfl,⟨_,SqL.of hy3⟩,fun D hD=>lc_list (K:=K) (a:=y) (xs:=nV sb) (fun i H'=>Same H3 H'/\H' D=some (.lst ((sb.take i).map fun n=>V.bl (decide (n∈sa))))) ⟨(Same.refl H3).laid hD,upd_same⟩ (fun i H' _ h=>SqL.of (h.1 _ _ hy3)) ?_ ?_⟩
   · rintro i v H' hi ⟨k1,k2⟩
     obtain ⟨n,hn,rfl⟩:∃ n,sb[i]?=some n/\V.int (n:Nat)=v:=by
      unfold nV at hi
      rw [List.getElem?_map] at hi
      exact Option.map_eq_some_iff.mp hi
     refine ⟨rfl,?_⟩
     refine (ev_in (neg:=false) (ev_var rfl) (ev_var rfl) (.inl (SqL.of (k1 _ _ hx3))) rfl (flat_nV sa)) _ ⟨_,k2,?_,?_⟩
     · rw [List.length_map,List.length_take,sizeLine_eq]
       omega
     · refine ⟨fun b u z=>?_,?_⟩
       · rw [upd_ne (ne_of_none z hD)]
         exact k1 b u z
       · have e1:inV (V.int (n:Nat)) (nV sa)=decide (n∈sa):=by
          rw [in_nV,decide_eq_decide]
          exact ⟨fun ⟨m,h1,h2⟩=>by have:n=m:=by omega
                                   subst this;exact h1,fun h=>⟨n,h,rfl⟩⟩
         rw [upd_same,take_snoc hn,List.map_append]
         show some (HO.lst (_++[V.bl (inV (V.int (n:Nat)) (nV sa))]))=_
         rw [e1]
         rfl
   · rintro H' ⟨k1,k2⟩
     have k2:H' D=some (.lst ((sb.take (nV sb).length).map fun n=>V.bl (decide (n∈sa)))):=k2
     rw [nV_len,List.take_length] at k2
     refine ⟨D,sb.map fun n=>decide (n∈sa),rfl,SqL.of (by rw [k2,List.map_map];rfl),_,rfl,?_⟩
     have eA:((sb.map fun n=>decide (n∈sa)).any id)=!decide (∀ x∈sb,¬ x∈sa):=by
      rw [Bool.eq_iff_iff,List.any_map]
      simp
     rw [eA]
     have hx4:=k1 _ _ hx3
     have hy4:=k1 _ _ hy3
     have ha4:=k1 _ _ ha3
     have hW4:=hW3.same k1
     refine ite2 (fun h=>?_) (fun h=>?_)
     · have h:¬ ∀ x∈sb,¬ x∈sa:=by simpa using h
       rw [if_neg (fun z=>h z.1)] at q0
       refine iteT ?_
       exact rd_rz (ev_fld (ev_var rfl) ha4 T.cl (T.no _ (by simp)) fWords_place) (q0 _ rfl)
     · have hall:∀ x∈sb,¬ x∈sa:=by simpa using h
       refine rd_if (tv_i (ev_add (ev_lenQ (ev_var rfl) (.inl (SqL.of hx4))) (ev_lenQ (ev_var rfl) (.inl (SqL.of hy4)))) (ev_var rfl)) (fun h=>?_) (fun h=>?_)
       · rw [nV_len,nV_len] at h
         have h:=of_decide_eq_true h
         rw [if_neg (fun z=>by have:=z.2;omega)] at q0
         exact rd_rz (ev_fld (ev_var rfl) ha4 T.cl (T.no _ (by simp)) fWords_place) (q0 _ rfl)
       · rw [nV_len,nV_len] at h
         have h:=of_decide_eq_false h
         rw [if_pos ⟨hall,by omega⟩] at q1
         refine ⟨_,rfl,_,rfl,(by show 2<=sizeLine;decide),fun u hu=>q1 _ _ rfl _ u p2 (fun b o z n=>?_) ⟨[x,y],upd_same,.cons ?_ (.cons ?_ .nil)⟩ (hW4.same ((Same.refl H').laid hu))⟩
         · have:=k1 b o (S03 b o z n)
           rw [upd_ne (ne_of_none this hu)]
           exact this
         · rw [upd_ne (ne_of_none hx4 hu)];exact hx4
         · rw [upd_ne (ne_of_none hy4 hu)];exact hy4
end
theorem onGo_cons {e:Nat}{h:List Nat}{t acc:List (List Nat)}{l:List Word}:onGo e (h::t) acc l=match (if 0 < acc.length then must e "/" l else .ok l) with
  | .error x=>.error x
  | .ok m=>match setIn e h m with
   | .error x=>.error x
   | .ok s=>onGo e t (acc++[s.1.1]) s.2:=rfl
section
variable {P:Program}{w:World}{K:PySem.W.Frag}{mg:Str->Option Value}{base:Heap}
def spOn (K:PySem.W.Frag) (CW CF:Addr):Sp:=fun vs H Q E=>∃ (a f:Addr) (fs:List (List Nat)) (e:Nat) (l:List Word) (pl:Nat),vs=[.ref a,.ref f]/\WordsAt K CW H a e l pl/\ListsAt K H f fs/\fs.length<=24/\(∀ fd∈fs,∀ x∈fd,x<=24)/\Gets K CW CF a e H Q E (onGo e fs [] l)
theorem sc_on:FnScope ["words","fields","sets","field"] ["words","fields"] (defScope f_take_on):=⟨rfl,rfl,rfl,by decide +kernel,rfl,by decide +kernel,by decide +kernel⟩
theorem ok_on {CW CF aW:Addr}(G:GW mg)(B:GB K mg aW)(T:CK K mg "Words" wordsFs CW)(FL:Flt P w K mg base CF){k:Nat}(hk:2<=k)(FS:Fn P w K mg base (CXF P w CF) k "take_set" ["words","field"] (spSet K CW CF))(FO:FnM P w K mg base (CXF P w CF) k CW "take_one_of" ["self","known"] (spOne K CW CF))
  {f:Addr}{fd:FuncData}(F:Fun K "take_on" "take_on" f_take_on f fd):FnOk P w K mg base (CXF P w CF) (k+1) f fd ["words","fields"] (spOn K CW CF):=by
 refine F.okX sc_on (fun vs H Q E h=>?_) (fun cdv A outer s H vs Q E hr h=>?_)
 · obtain ⟨_,_,_,_,_,_,rfl,_⟩:=h
   rfl
 · obtain ⟨a,fa,fs,e,l,pl,rfl,hW,⟨fas,hFa,hFp⟩,hfl,hf24,q0,q1⟩:=h
   refine ⟨_,pss_cons (ps_set (i:=2) sc_on.nd rfl (Or.inl rfl) (pe_lst pa_nil))
    (pss_cons (ps_for (own_x own_cxOf) rfl (pi_list (pv 1)) (pg_name (i:=3) sc_on.nd rfl (Or.inl rfl))
     (pss_cons (ps_if (pt_cmpR op_gt (pe_callB call_len_seq (by rfl) G.len PySem.boot_len (pa_cons (pv 2) pa_nil)) pe_int (nomark _)) (pss_one (ps_expr (pe_mth FO T.cl (pv 0) hr (pass_x own_cxOf rfl rfl) (pa_cons (pe_tup (pa_cons pe_str pa_nil)) pa_nil)))) pss_nil)
     (pss_one (ps_expr (pe_bm PySem.F.plainAttrs_list PySem.F.slot_list_append PySem.F.type_list_append mt_append (pv 2) (pa_cons (pe_fn FS hr (pass_x own_cxOf rfl rfl) (pa_cons (pv 0) (pa_cons (pv 3) pa_nil))) pa_nil))))))
    (pss_one (ps_ret (pv 2)))),?_⟩
   obtain ⟨d0,w0,m0,n0,ha0⟩:=hW.obj
   have lenF:fas.length=fs.length:=Paired.length hFp
   refine ⟨Nat.zero_le _,fun p hp=>?_⟩
   have S0:Same H (upd H p (.lst [])):=(Same.refl H).laid hp
   have npa:a≠p:=ne_of_none ha0 hp
   refine ⟨_,rfl,fa,rfl,⟨_,S0.seq hFa⟩,for_list (K:=K) (a:=fa) (xs:=fas.map V.ref) (fun i σ H'=>∃ (v3:Option V) (acc:List (List Nat)) (sas:List Addr) (l':List Word) (pl':Nat),σ=[some (.ref a),some (.ref fa),some (.ref p),v3]/\SameX a H H'/\WordsAt K CW H' a e l' pl' /\
     H' p=some (.lst (sas.map V.ref))/\Paired (fun b ns=>b≠p/\H' b=some (.lst (nV ns))) sas acc/\acc.length=i/\i<=fs.length/\onGo e (fs.drop i) acc l'=onGo e fs [] l)
    ⟨none,[],[],l,pl,rfl,S0.x,hW.same S0,upd_same,.nil,rfl,Nat.zero_le _,rfl⟩ (fun i σ H' _ ⟨_,_,_,_,_,_,SX,_⟩=>SX.seq ha0 hFa) ?_ ?_⟩
   · rintro i x σ H' hi ⟨v3,acc,sas,l',pl',rfl,SX,hW',e2,hP,hal,hil,hc⟩
     rw [List.getElem?_map] at hi
     obtain ⟨fi,hfi,rfl⟩:=Option.map_eq_some_iff.mp hi
     obtain ⟨fl,hfl2,hFi⟩:=Paired.at1 hFp hfi
     have hil:i < fs.length:=(List.getElem?_eq_some_iff.mp hfl2).1
     have hd:fs.drop i=fl::fs.drop (i+1):=by
      rw [List.drop_eq_getElem_cons hil]
      congr 1
      exact Option.some.inj ((List.getElem?_eq_getElem hil).symm.trans hfl2)
     rw [hd,onGo_cons] at hc
     have f24:=hf24 fl (List.mem_of_getElem? hfl2)
     obtain ⟨d1,w1,m1,n1,ha1⟩:=hW'.obj
     have lenP:sas.length=acc.length:=Paired.length hP
     dsimp only
     refine rd_if (b:=decide (0 < acc.length)) (tv_of (tv_i (ev_lenQ (ev_var rfl) (.inl (SqL.of e2))) ev_c) ?_) (fun h=>?goA) (fun h=>?goB)
     · rw [List.length_map,lenP,decide_eq_decide]
       omega
     case' goA =>
      have h:=of_decide_eq_true h
      rw [if_pos h] at hc
      refine ⟨_,rfl,a,d1,_,rfl,ha1,fWords_no (by decide +kernel),(by show 1<=sizeLine;decide),fun t ht=>?_⟩
      have St:Same H' (upd H' t (.tup [V.str (Str.ofString "/")])):=(Same.refl H').laid ht
      show tNil _ _ _
      unfold tNil
      dsimp only [List.append_nil]
      refine one_must (s:="/") (by decide +kernel) (hW'.same St) (SqT.of upd_same) (fun y hy=>?_) (fun m hm H2 v pl2 S2 hW2=>?_)
      · rw [hy] at hc
        exact q0 _ hc.symm
      rw [hm] at hc
      have SX2:SameX a H H2:=(SX.trans St.x).trans S2
      have e22:H2 p=some (.lst (sas.map V.ref)):=S2 _ _ (St _ _ e2) npa.symm
      have hP2:Paired (fun b ns=>b≠p/\H2 b=some (.lst (nV ns))) sas acc:=Paired.mapP hP fun b ns z=>⟨z.1,S2 _ _ (St _ _ z.2) (ne_of z.2 ha1 (by intro q;cases q))⟩
      clear e2 hP hW' ha1 St S2 SX
     case' goB =>
      have h:=of_decide_eq_false h
      rw [if_neg h] at hc
      obtain ⟨H2,hH2⟩:∃ H2,H2=H':=⟨_,rfl⟩
      obtain ⟨m,hm⟩:∃ m,m=l':=⟨_,rfl⟩
      obtain ⟨pl2,hpl2⟩:∃ m,m=pl':=⟨_,rfl⟩
      rw [← hm] at hc hW'
      rw [← hpl2] at hW'
      rw [← hH2] at hW' e2 hP SX
      rw [← hH2]
      have hW2:=hW'
      have SX2:=SX
      have e22:=e2
      have hP2:=hP
     all_goals
      dsimp only at hc
      obtain ⟨d2,w2,m2,n2,ha2⟩:=hW2.obj
      refine ⟨_,rfl,.inl ⟨rfl,_,SqL.of e22⟩,?_⟩
      refine ⟨_,rfl,_,rfl,a,fi,fl,e,m,pl2,rfl,hW2,SX2.seq ha0 hFi,f24,fun t ht=>?_,fun st q r hst H3 x S3 hx hx3 hW3=>?_⟩
      · rw [ht] at hc
        exact q0 _ hc.symm
      rw [hst] at hc
      dsimp only at hc
      have nxp:x≠p:=(ne_of_none e22 hx).symm
      have e3:H3 p=some (.lst (sas.map V.ref)):=S3 _ _ e22 npa.symm
      refine ⟨p,_,_,rfl,rfl,e3,by rw [List.length_map,sizeLine_eq];omega,?_⟩
      refine ⟨_,acc++[st],sas++[x],r,q,rfl,(SX2.trans S3).laid hp,hW3.put e3 ref_int,?_,?_,by simp [hal],hil,hc⟩
      · rw [upd_same,List.map_append]
        rfl
      · refine Paired.snoc (Paired.mapP hP2 fun b ns z=>⟨z.1,?_⟩) ⟨nxp,by rw [upd_ne nxp];exact hx3⟩
        rw [upd_ne z.1]
        exact S3 _ _ z.2 (ne_of z.2 ha2 (by intro q;cases q))
   · rintro σ H' ⟨v3,acc,sas,l',pl',rfl,SX,hW',e2,hP,hal,hil,hc⟩
     rw [List.length_map,lenF,List.drop_length] at hc
     exact ⟨_,rfl,q1 _ _ hc.symm _ _ pl' SX ⟨sas,e2,Paired.mapP hP fun b ns z=>z.2⟩ hW'⟩
end
section
variable {P:Program}{w:World}{K:PySem.W.Frag}{mg:Str->Option Value}{base:Heap}
theorem fields0 {H:Hp} {fa:Addr} {p:PoolM} (o:FOk p) (h:ListsAt K H fa p.fields):∃ (as:List Addr) (b:Addr),SqL K H fa (as.map V.ref)/\as.length=p.fields.length/\atI (as.map V.ref) 0=some (V.ref b)/\SqL K H b (nV (p.fields.getD 0 []))/\∀ x∈p.fields.getD 0 [],x<=24:=by
 obtain ⟨as,h1,h2⟩:=h
 have hl:0 < p.fields.length:=List.length_pos_iff.mpr o.ne
 obtain ⟨b,hb,hI⟩:=Paired.at2 h2 (List.getElem?_eq_getElem hl)
 have eg:p.fields.getD 0 []=p.fields[0]:=by rw [List.getD_eq_getElem?_getD,List.getElem?_eq_getElem hl];rfl
 refine ⟨as,b,h1,Paired.length h2,?_,by rw [eg];exact hI,by rw [eg];exact o.hi _ (List.getElem_mem hl)⟩
 exact atI_nat (j:=0) (by rw [List.getElem?_map,hb];rfl)
def spSets (K:PySem.W.Frag)(CW CF CP:Addr):Sp:=fun vs H Q E=>∃ (a b:Addr) (p:PoolM) (how e:Nat) (l:List Word) (pl:Nat),vs=[.ref a,.ref b,.int (how:Nat)]/\WordsAt K CW H a e l pl/\PoolAt K CP H b p/\FOk p/\Gets K CW CF a e H Q E (setsW e p how l)
theorem sc_sets:FnScope ["words","pool","how","size"] ["words","pool","how"] (defScope f_take_sets):=⟨rfl,rfl,rfl,by decide +kernel,rfl,by decide +kernel,by decide +kernel⟩
theorem ok_sets {CW CF CP aW:Addr}(G:GW mg)(B:GB K mg aW)(TP:CK K mg "Pool" poolFs CP){k:Nat}(FO:Fn P w K mg base (CXF P w CF) k "take_on" ["words","fields"] (spOn K CW CF))(FB:Fn P w K mg base (CXF P w CF) k "take_box" ["words","field","size"] (spBox K CW CF))(FK:Fn P w K mg base (CXF P w CF) k "take_key" ["words","field","size"] (spKey K CW CF))
  {f:Addr}{fd:FuncData}(F:Fun K "take_sets" "take_sets" f_take_sets f fd):FnOk P w K mg base (CXF P w CF) (k+1) f fd ["words","pool","how"] (spSets K CW CF CP):=by
 refine F.okX sc_sets (fun vs H Q E h=>?_) (fun cdv A outer s H vs Q E hr h=>?_)
 · obtain ⟨_,_,_,_,_,_,_,rfl,_⟩:=h
   rfl
 · obtain ⟨a,b,p,how,e,l,pl,rfl,hW,⟨dx,fa,hb,hF⟩,o,g⟩:=h
   refine ⟨_,pss_cons (ps_if (pt_cmpR op_eq (pv 2) (pe_gv B.on) (nomark _)) (pss_one (ps_ret (pe_fn FO hr (pass_x own_cxOf rfl rfl) (pa_cons (pv 0) (pa_cons (pe_fld (pv 1) rfl) pa_nil))))) pss_nil)
    (pss_cons (ps_set (i:=3) sc_sets.nd rfl (Or.inl rfl) (pe_callB call_len_seq (by rfl) G.len PySem.boot_len (pa_cons (pe_fld (pv 1) rfl) pa_nil)))
    (pss_cons (ps_if (pt_cmpR op_eq (pv 2) (pe_gv B.box) (nomark _)) (pss_one (ps_ret (pe_fn FB hr (pass_x own_cxOf rfl rfl) (pa_cons (pv 0) (pa_cons (pe_ix ix_list (pe_fld (pv 1) rfl) pe_int (fun _ _=>rfl)) (pa_cons (pv 3) pa_nil)))))) pss_nil)
    (pss_one (ps_ret (pe_fn FK hr (pass_x own_cxOf rfl rfl) (pa_cons (pv 0) (pa_cons (pe_ix ix_list (pe_fld (pv 1) rfl) pe_int (fun _ _=>rfl)) (pa_cons (pv 3) pa_nil)))))))),?_⟩
   unfold setsW at g
   obtain ⟨as,b0,h1,h2,h3,h4,h5⟩:=fields0 o hF
   have evF:∀ {σ:L2.St},σ[1]?=some (some (V.ref b))->Ev (tFld K (tVar 1) "fields") σ H (.ref fa):=fun z=>ev_fld (ev_var z) hb TP.cl (TP.no _ (by simp)) fPool_fields
   refine rd_if (tv_test (ev_eq (ev_var rfl) ev_c)) (fun h=>?_) (fun h=>?_)
   · rw [dec_int] at h
     have h:how=0:=by have:=eq_of_beq h;omega
     rw [if_pos h] at g
     refine ⟨_,rfl,evF rfl _ ⟨a,fa,p.fields,e,l,pl,rfl,hW,hF,o.len,o.hi,g⟩⟩
   · rw [dec_int] at h
     have h:¬ how=0:=fun z=>by rw [z] at h;cases h
     rw [if_neg h] at g
     refine rd_set (ev_lenQ (evF rfl) (.inl h1)) ?_
     rw [List.length_map,h2]
     refine rd_if (tv_test (ev_eq (ev_var rfl) ev_c)) (fun h=>?_) (fun h=>?_)
     · rw [dec_int] at h
       have h:how=1:=by have:=eq_of_beq h;omega
       rw [if_pos h] at g
       refine ⟨_,rfl,(ev_ixL (evF rfl) ev_c h1 h3) _ ⟨_,rfl,⟨a,b0,_,_,e,l,pl,rfl,hW,h4,h5,g⟩⟩⟩
     · rw [dec_int] at h
       have h:¬ how=1:=fun z=>by rw [z] at h;cases h
       rw [if_neg h] at g
       refine ⟨_,rfl,(ev_ixL (evF rfl) ev_c h1 h3) _ ⟨_,rfl,⟨a,b0,_,_,e,l,pl,rfl,hW,h4,h5,g⟩⟩⟩
end
end Bw
namespace L2
open PySem PySem.Spec PyProof.Rows
theorem tuple_index3 {prog:Program}{w:World}{A:Around}{a:Addr}{u0 u1 u2 uy:Value}{n:Nat}{E:Value->Shared->Prop}{Q:Value->Shared->Prop}{s:Shared}{o:Obj}(ho:s.heap.get? a=some o)(hc:o.cls=.type "tuple")(hd:o.data=.seq #[u0,u1,u2] n)
  {b0 b1 b2:Bool}(e0:SeqAt.EqAt A s u0 uy b0)(e1:SeqAt.EqAt A s u1 uy b1)(e2:SeqAt.EqAt A s u2 uy b2){j:Nat}(hj:(b0=true/\j=0)∨(b0=false/\((b1=true/\j=1)∨(b1=false/\b2=true/\j=2))))
  (q:Q (.int (j:Nat) s.toks) { s with toks:=s.toks+1 }):wpAny (model prog w) A (Builtin.«tuple.index» {pos:=[.ref a,uy]}) (fun fin s'=>∃ v,fin=Fin.done (Flow.ret v)/\Q v s') E s:=by
 show wpAny _ _ (selfAndSome "tuple.index" "index" 1 3 {pos:=[.ref a,uy]} >>= _) _ E s
 refine wpAny_bind (m:=selfAndSome "tuple.index" "index" 1 3 {pos:=[.ref a,uy]}) ?_
 have h1:selfAndSome "tuple.index" "index" 1 3 {pos:=[.ref a,uy]}=pure (.ref a,[uy]):=by rfl
 rw [h1]
 refine wpAny_pure ?_
 refine wpAny_bind (m:=Builtin.Tuple.tupleItemsOf (.ref a)) (tupleItemsOf_ (items:=#[u0,u1,u2]) ⟨_,ho,hc,n,hd⟩ ?_)
 refine wpAny_bind (m:=pure 0) (wpAny_pure ?_)
 refine wpAny_bind (m:=pure 3) (wpAny_pure ?_)
 refine wpAny_bind ?_
 rw [Std.Legacy.Range.forIn_eq_forIn_range']
 have hr:List.range' [:min 3 #[u0,u1,u2].size].start [:min 3 #[u0,u1,u2].size].size [:min 3 #[u0,u1,u2].size].step=[0,1,2]:=by
  show List.range' 0 ((min 3 3 - 0+1 - 1) / 1) 1=[0,1,2]
  decide
 rw [hr]
 have fin:∀ (i:Nat),i=j->∀ {R:ForInStep (Option PySem.Fin×Unit)->Shared->Prop},(∀ v s',v=Value.int (j:Nat) s.toks->s'={ s with toks:=s.toks+1 }->R (.done (some (.done (.ret v)),())) s')->wpAny (model prog w) A (do let x ← retInt (i:Nat);pure (ForInStep.done (some x,()))) R E s:=fun i hi R hR=>by
  subst hi
  exact wpAny_bind (wpAny_bind (wpAny_mkInt (wpAny_pure (wpAny_pure (hR _ _ rfl rfl)))))
 rw [List.forIn_cons]
 refine wpAny_bind (wpAny_bind (e0 _ _ _ _ ?_))
 rcases hj with ⟨rfl,rfl⟩|⟨rfl,hj⟩
 · exact fin 0 rfl fun v s' hv hs=>wpAny_pure (wpAny_pure ⟨v,rfl,by rw [hv,hs];exact q⟩)
 refine wpAny_pure ?_
 show wpAny _ _ (forIn [1,2] _ _) _ _ _
 rw [List.forIn_cons]
 refine wpAny_bind (wpAny_bind (e1 _ _ _ _ ?_))
 rcases hj with ⟨rfl,rfl⟩|⟨rfl,rfl,rfl⟩
 · exact fin 1 rfl fun v s' hv hs=>wpAny_pure (wpAny_pure ⟨v,rfl,by rw [hv,hs];exact q⟩)
 refine wpAny_pure ?_
 show wpAny _ _ (forIn [2] _ _) _ _ _
 rw [List.forIn_cons]
 refine wpAny_bind (wpAny_bind (e2 _ _ _ _ ?_))
 exact fin 2 rfl fun v s' hv hs=>wpAny_pure (wpAny_pure ⟨v,rfl,by rw [hv,hs];exact q⟩)
section
variable {X:Cx}
def rIdx3 (K:PySem.W.Frag):V->List V->Hp->VK->Prop:=fun x xs H Q=>∃ (a:Addr) (y0 y1 y2 y:V) (j:Nat),x=V.ref a/\xs=[y]/\SqT K H a [y0,y1,y2]/\flatV y=true/\[y0,y1,y2].all flatV=true /\
 ((eqV y0 y=true/\j=0)∨(eqV y0 y=false/\((eqV y1 y=true/\j=1)∨(eqV y1 y=false/\eqV y2 y=true/\j=2))))/\Q (.int (j:Nat)) H
theorem mt_idx3:MtR X "tuple.index" (rIdx3 X.K):=by
 intro pins s σ H x xs v us Q I rx rxs h
 obtain ⟨a,y0,y1,y2,y,j,rfl,rfl,hs,fy,fys,hj,q⟩:=h
 cases rx
 obtain ⟨uy,rfl,ry⟩:=rxs.one
 obtain ⟨its,rv,⟨o,ho,hc,n,hd⟩,hz⟩:=I.tuple hs
 have rv0:=rv
 cases rv with
 | cons r0 rv=>cases rv with
  | cons r1 rv=>cases rv with
   | cons r2 rv =>
    cases rv
    have key:=fun (A:Around) (u:Value) (hu:u∈_)=>mem_eqAt (A:=A) (s:=s) ry fy rv0 fys u hu
    have f0:flatV y0=true:=List.all_eq_true.mp fys _ (by simp)
    have f1:flatV y1=true:=List.all_eq_true.mp fys _ (by simp)
    have f2:flatV y2=true:=List.all_eq_true.mp fys _ (by simp)
    rw [← eqU_of r0 f0,← eqU_of r1 f1,← eqU_of r2 f2] at hj
    exact wpAny_call_entry PySem.F.slot_tuple_index ⟨_,ho,hc⟩ PySem.F.entry_tuple_index
     (tuple_index3 ho hc hd (key _ _ (by simp)) (key _ _ (by simp)) (key _ _ (by simp)) hj ⟨.int (j:Nat),H,I.tok _,⟨_,rfl⟩,q⟩) (PySem.F.args_tuple_index_2 _ _)
end
end L2
namespace Bw
open PySem PySem.Spec PyProof.Rows L2 Tote
section
variable {P:Program}{w:World}{K:PySem.W.Frag}{mg:Str->Option Value}{base:Heap}
def spHow (K:PySem.W.Frag) (CW CF CP:Addr):Sp:=fun vs H Q E=>∃ (a b:Addr) (p:PoolM) (e:Nat) (l:List Word) (pl:Nat),vs=[.ref a,.ref b]/\WordsAt K CW H a e l pl/\PoolAt K CP H b p/\(l=[]->Rz CF E 3 (e:Nat)) /\
 (∀ w r,l=w::r->wayOf p w.w=none->Rz CF E 3 (w.at_:Nat))/\(∀ w r how,l=w::r->wayOf p w.w=some how->∀ H',SameX a H H'->WordsAt K CW H' a e r w.at_->Q (.int (how:Nat)) H')
theorem sc_how:FnScope ["words","pool"] ["words","pool"] (defScope f_take_how):=⟨rfl,rfl,rfl,by decide +kernel,rfl,by decide +kernel,by decide +kernel⟩
theorem in_mixed {k:Tote.Kind}:inV (.str (st (cd (kindS k)))) [V.str (Str.ofString "order"),V.str (Str.ofString "any")]=(k==.order||k==.any):=by
 have:=in_kn (kn:=["order","any"]) (w:=cd (kindS k))
 rw [show [V.str (Str.ofString "order"),V.str (Str.ofString "any")]=(["order","any"].map fun s=>V.str (Str.ofString s)) from rfl,this]
 cases k <;> decide
theorem ok_how {CW CF CP aW:Addr}(B:GB K mg aW)(T:CK K mg "Words" wordsFs CW)(TP:CK K mg "Pool" poolFs CP){k:Nat}(FO:FnM P w K mg base (CXF P w CF) k CW "take_one_of" ["self","known"] (spOne K CW CF))
  {f:Addr}{fd:FuncData}(F:Fun K "take_how" "take_how" f_take_how f fd):FnOk P w K mg base (CXF P w CF) (k+1) f fd ["words","pool"] (spHow K CW CF CP):=by
 refine F.okX sc_how (fun vs H Q E h=>?_) (fun cdv A outer s H vs Q E hr h=>?_)
 · obtain ⟨_,_,_,_,_,_,rfl,_⟩:=h
   rfl
 · obtain ⟨a,b,p,e,l,pl,rfl,hW,⟨dx,fa,hb,hF⟩,q0,q1,q2⟩:=h
   refine ⟨_,pss_cons (ps_if (pt_cmpR op_in_seq (pe_fld (pv 1) rfl) (pe_tup (pa_cons pe_str (pa_cons pe_str pa_nil))) (by with_unfolding_all rfl))
     (pss_one (ps_ret (pe_bm PySem.F.plainAttrs_tuple PySem.F.slot_tuple_index PySem.F.type_tuple_index mt_idx3 (pe_gv B.ways) (pa_cons (pe_mth FO T.cl (pv 0) hr (pass_x own_cxOf rfl rfl) (pa_cons (pe_gv B.ways) pa_nil)) pa_nil)))) pss_nil)
    (pss_cons (ps_expr (pe_mth FO T.cl (pv 0) hr (pass_x own_cxOf rfl rfl) (pa_cons (pe_tup (pa_cons pe_str pa_nil)) pa_nil)))
    (pss_one (ps_ret (pe_gv B.on)))),?_⟩
   obtain ⟨d0,w0,m0,n0,ha0⟩:=hW.obj
   refine (ev_fld (ev_var rfl) hb TP.cl (TP.no _ (by simp)) fPool_kind) _ ⟨(by show 2<=sizeLine;decide),fun t ht=>⟨t,_,rfl,.inr (SqT.of upd_same),rfl,rfl,?_⟩⟩
   have S0:Same H (upd H t (.tup [V.str (Str.ofString "order"),V.str (Str.ofString "any")])):=(Same.refl H).laid ht
   have hW0:=hW.same S0
   have ha1:=S0 _ _ ha0
   refine ⟨_,rfl,?_⟩
   show if inV (.str (st (cd (kindS p.kind)))) [V.str (Str.ofString "order"),V.str (Str.ofString "any")]=true then _ else _
   rw [in_mixed]
   refine ite2 (fun h=>?_) (fun h=>?_)
   · have hmx:mixedM p=true:=h
     have eqW:∀ (x:String) (v:W),eqV (V.str (Str.ofString x)) (V.str (st v))=decide (v=cd x):=fun x v=>by
      show (Str.ofString x==st v)=_
      rw [Bool.eq_iff_iff,beq_iff_eq,decide_eq_true_eq,of_st,st_inj]
      exact ⟨fun z=>z.symm,fun z=>z.symm⟩
     refine ⟨.inr (.inl ⟨rfl,B.waysK⟩),_,rfl,a,d0,_,rfl,ha1,fWords_no (by decide +kernel),a,aW,["on","box","key"],e,l,pl,rfl,hW0,B.waysT _,q0,fun wd r hl hn=>?_,fun wd r hl ho H' S h'=>?_⟩
     · refine q1 wd r hl ?_
       unfold wayOf
       have no:∀ x∈["on","box","key"],plainT x=true->¬ wd.w=ascii x:=fun x hx hp z=>hn ⟨x,hx,(tx_lit _ hp).mpr z⟩
       rw [if_neg (no _ (by simp) (by decide +kernel)),if_neg (fun z=>no _ (by simp) (by decide +kernel) z.1),if_neg (fun z=>no _ (by simp) (by decide +kernel) z.1)]
     · have on_:=tx_lit (s:="on") wd.w (by decide +kernel)
       have box_:=tx_lit (s:="box") wd.w (by decide +kernel)
       have key_:=tx_lit (s:="key") wd.w (by decide +kernel)
       have S2:SameX a H H':=S0.x.trans S
       have q2:=fun how hh=>q2 wd r how hl hh H' S2 h'
       unfold wayOf at q2
       by_cases c0:wd.w=ascii "on"
       · rw [if_pos c0] at q2
         exact ⟨aW,_,_,_,_,0,rfl,rfl,B.waysT _,rfl,rfl,.inl ⟨by rw [eqW];exact decide_eq_true (on_.mpr c0),rfl⟩,q2 0 rfl⟩
       · rw [if_neg c0] at q2
         have c0':¬ tx wd.w=cd "on":=fun z=>c0 (on_.mp z)
         by_cases c1:wd.w=ascii "box"
         · rw [if_pos ⟨c1,hmx⟩] at q2
           exact ⟨aW,_,_,_,_,1,rfl,rfl,B.waysT _,rfl,rfl,.inr ⟨by rw [eqW];exact decide_eq_false c0',.inl ⟨by rw [eqW];exact decide_eq_true (box_.mpr c1),rfl⟩⟩,q2 1 rfl⟩
         · rw [if_neg (fun z=>c1 z.1)] at q2
           have c1':¬ tx wd.w=cd "box":=fun z=>c1 (box_.mp z)
           have c2':tx wd.w=cd "key":=by
            obtain ⟨x,hx,hw⟩:=ho
            simp only [List.mem_cons,List.not_mem_nil,or_false] at hx
            rcases hx with rfl|rfl|rfl
            · exact absurd hw c0'
            · exact absurd hw c1'
            · exact hw
           rw [if_pos ⟨key_.mp c2',hmx⟩] at q2
           exact ⟨aW,_,_,_,_,2,rfl,rfl,B.waysT _,rfl,rfl,.inr ⟨by rw [eqW];exact decide_eq_false c0',.inr ⟨by rw [eqW];exact decide_eq_false c1',by rw [eqW];exact decide_eq_true c2',rfl⟩⟩,q2 2 rfl⟩
   · have hmx:mixedM p=false:=by
      unfold mixedM
      simpa using h
     refine ⟨_,rfl,a,d0,_,rfl,ha1,fWords_no (by decide +kernel),(by show 1<=sizeLine;decide),fun t2 ht2=>?_⟩
     have St:Same H (upd (upd H t (.tup [V.str (Str.ofString "order"),V.str (Str.ofString "any")])) t2 (.tup [V.str (Str.ofString "on")])):=S0.trans ((Same.refl _).laid ht2)
     show tNil _ _ _
     unfold tNil
     dsimp only [List.append_nil]
     have one:∀ wd:Word,oneOfW ["on"] wd↔wd.w=ascii "on":=fun wd=>by
      rw [← tx_lit _ (by decide +kernel)]
      unfold oneOfW
      exact ⟨fun ⟨x,h1,h2⟩=>by rw [List.mem_singleton] at h1;subst h1;exact h2,fun h=>⟨_,List.mem_singleton_self _,h⟩⟩
     refine ⟨a,t2,["on"],e,l,pl,rfl,hW.same St,SqT.of upd_same,q0,fun wd r hl hn=>?_,fun wd r hl ho H' S h'=>?_⟩
     · refine q1 wd r hl ?_
       unfold wayOf
       rw [if_neg (fun z=>hn ((one wd).mpr z)),if_neg (fun z=>by rw [hmx] at z;cases z.2),if_neg (fun z=>by rw [hmx] at z;cases z.2)]
     · refine q2 wd r 0 hl ?_ H' (St.x.trans S) h'
       unfold wayOf
       rw [if_pos ((one wd).mp ho)]
end
end Bw
namespace L2
open PySem PySem.Spec PyProof.Rows
theorem for_enum {K:PySem.W.Frag}{a:Addr}{xs:List V}{g:TG}{tb:TS}{D:Ends}{σ:L2.St}{H:Hp}(Pv:Nat->L2.St->Hp->Prop)(h0:Pv 0 σ H)(hl:∀ i σ H,i<=xs.length->Pv i σ H->SqL K H a xs)
  (hs:∀ i x σ H T,xs[i]?=some x->Pv i σ H->H T=none->g (.ref T) σ (upd H T (.tup [.int (i:Nat),x])) fun σ2 H2=>tb { D with nx:=Pv (i+1),ct:=Pv (i+1),bk:=D.nx } σ2 H2)(hd:∀ σ H,Pv xs.length σ H->D.nx σ H) :
  ∃ W:Nat->Nat->L2.St->Hp->Prop,(∃ m,W 0 m σ H)/\∀ i m σ H,W i m σ H ->
   ((Ite K a).stop i H/\D.nx σ H)∨((Ite K a).go i H/\∃ N:L2.St->Hp->Prop,(∀ σ' H',N σ' H'->∃ m',m' < m/\W (i+1) m' σ' H')/\∀ x H',(Ite K a).yld i H x H'->g x σ H' fun σ2 H2=>tb { D with nx:=N,ct:=N,bk:=D.nx } σ2 H2):=by
 refine ⟨fun i m σ H=>m=xs.length - i/\i<=xs.length/\Pv i σ H,⟨xs.length,by simp,Nat.zero_le _,h0⟩,?_⟩
 rintro i m σ H ⟨rfl,hi,p⟩
 have q:=hl i σ H hi p
 by_cases hlt:i < xs.length
 · refine .inr ⟨⟨xs,xs[i],q,by simp [hlt]⟩,Pv (i+1),fun σ' H' p'=>⟨xs.length - (i+1),by omega,rfl,hlt,p'⟩,fun x H' y=>?_⟩
   obtain ⟨T,v,rfl,hT,rfl,hx⟩:=y
   exact hs i v σ _ T (hx xs q) p hT
 · have e:i=xs.length:=by omega
   subst e
   exact .inl ⟨⟨xs,q,Nat.le_refl _⟩,hd σ H p⟩
end L2
namespace Bw
open PySem PySem.Spec PyProof.Rows L2 Tote
section
variable {K:PySem.W.Frag}{CW CP:Addr}{H H':Hp}{a b:Addr}
theorem SameX.lists {dx:Addr} {fs:List (Str×V)} {rs:List (List Nat)} (S:SameX a H H') (ha:H a=some (.ins CW dx fs)) (h:ListsAt K H b rs):ListsAt K H' b rs:=by
 obtain ⟨as,h1,h2⟩:=h
 exact ⟨as,S.seq ha h1,Paired.mapP h2 fun _ _ z=>S.seq ha z⟩
theorem ins_ne {C dx C' dx':Addr}{fs fs':List (Str×V)}(h:fs.length≠fs'.length):HO.ins C dx fs≠HO.ins C' dx' fs':=by
 intro z
 injection z with _ _ z
 exact h (by rw [z])
theorem PoolAt.sameX {dx:Addr}{v0 v1 v2 v3 v4:V}{p:PoolM}(h:PoolAt K CP H b p)(S:SameX a H H')(ha:H a=some (.ins CW dx (fWords v0 v1 v2 v3 v4))):PoolAt K CP H' b p:=by
 obtain ⟨d,fa,h1,h2⟩:=h
 exact ⟨d,fa,S _ _ h1 (ne_of h1 ha (ins_ne (by show 4≠5;decide))),SameX.lists S ha h2⟩
theorem PoolsAt.sameX {dx:Addr}{v0 v1 v2 v3 v4:V}{ps:List PoolM}(h:PoolsAt K CP H b ps)(S:SameX a H H')(ha:H a=some (.ins CW dx (fWords v0 v1 v2 v3 v4))):PoolsAt K CP H' b ps:=by
 obtain ⟨as,h1,h2⟩:=h
 exact ⟨as,S.seq ha h1,Paired.mapP h2 fun _ _ z=>PoolAt.sameX z S ha⟩
end
section
variable {P:Program}{w:World}{K:PySem.W.Frag}{mg:Str->Option Value}{base:Heap}
def spTPool (K:PySem.W.Frag) (CW CF CP:Addr):Sp:=fun vs H Q E=>∃ (a b:Addr) (ps:List PoolM) (e:Nat) (l:List Word) (pl:Nat),vs=[.ref b,.ref a]/\WordsAt K CW H a e l pl/\PoolsAt K CP H b ps/\(l=[]->Rz CF E 3 (e:Nat)) /\
 (∀ w r,l=w::r->poolAtN ps (tx w.w)=none->Rz CF E 5 (w.at_:Nat))/\(∀ w r i,l=w::r->poolAtN ps (tx w.w)=some i->∀ H',SameX a H H'->WordsAt K CW H' a e r w.at_->Q (.int (i:Nat)) H')
theorem sc_tpool:FnScope ["pools","words","name","number","pool"] ["pools","words"] (defScope f_take_pool):=⟨rfl,rfl,rfl,by decide +kernel,rfl,by decide +kernel,by decide +kernel⟩
theorem ok_tpool {CW CF CP aW:Addr}(B:GB K mg aW)(T:CK K mg "Words" wordsFs CW)(TP:CK K mg "Pool" poolFs CP)(FL:Flt P w K mg base CF){k:Nat}(hk:2<=k)(FT:FnM P w K mg base (CXF P w CF) k CW "take" ["self"] (spTake K CW CF))
  {f:Addr}{fd:FuncData}(F:Fun K "take_pool" "take_pool" f_take_pool f fd):FnOk P w K mg base (CXF P w CF) (k+1) f fd ["pools","words"] (spTPool K CW CF CP):=by
 refine F.okX sc_tpool (fun vs H Q E h=>?_) (fun cdv A outer s H vs Q E hr h=>?_)
 · obtain ⟨_,_,_,_,_,_,rfl,_⟩:=h
   rfl
 · obtain ⟨a,b,ps,e,l,pl,rfl,hW,hPs,q0,q1,q2⟩:=h
   refine ⟨_,pss_cons (ps_set (i:=2) sc_tpool.nd rfl (Or.inl rfl) (pe_mth0 FT T.cl (pv 1) hr (pass_x own_cxOf rfl rfl)))
    (pss_cons (ps_for (own_x own_cxOf) rfl (pi_enum rfl B.enum (pa_cons (pv 0) pa_nil)) (pg_tup rfl (pgs_cons (pg_name (i:=3) sc_tpool.nd rfl (Or.inl rfl)) (pgs_cons (pg_name (i:=4) sc_tpool.nd rfl (Or.inl rfl)) pgs_nil)))
     (pss_one (ps_if (pt_cmpR op_eq (pe_fld (pv 4) rfl) (pv 2) (nomark _)) (pss_one (ps_ret (pv 3))) pss_nil)))
    (pss_one (ps_rz FL own_cxOf (hr.mono hk) (pa_cons (pe_gv B.pool) (pa_cons (pe_fld (pv 1) rfl) pa_nil))))),?_⟩
   obtain ⟨d0,w0,m0,n0,ha0⟩:=hW.obj
   refine ⟨_,rfl,a,d0,_,rfl,ha0,fWords_no (by decide +kernel),a,e,l,pl,rfl,hW,q0,fun wd r hl H1 S1 hW1 okw=>?_⟩
   have hPs1:=PoolsAt.sameX hPs S1 ha0
   obtain ⟨as,hA,hP⟩:=hPs1
   have q1:=q1 wd r hl
   have q2:=fun i=>q2 wd r i hl
   generalize tx wd.w=nm at q1 q2
   refine ⟨_,rfl,b,_,rfl,hA,for_enum (K:=K) (a:=b) (xs:=as.map V.ref) (fun i σ H'=>∃ (v3 v4:Option V),σ=[some (.ref b),some (.ref a),some (.str (st nm)),v3,v4]/\Same H1 H'/\∀ j p,j < i->ps[j]?=some p->¬ p.name=nm)
    ⟨none,none,rfl,Same.refl H1,fun j p hj=>absurd hj (Nat.not_lt_zero j)⟩ (fun i σ H' _ ⟨_,_,_,S,_⟩=>S.seq hA) ?_ ?_⟩
   · rintro i x σ H' tt hi ⟨v3,v4,rfl,S2,hno⟩ hT
     rw [List.getElem?_map] at hi
     obtain ⟨ai,hai,rfl⟩:=Option.map_eq_some_iff.mp hi
     obtain ⟨p,hp,d,fa,hpa,_⟩:=Paired.at1 hP hai
     have S3:Same H1 (upd H' tt (.tup [.int (i:Nat),.ref ai])):=S2.trans ((Same.refl H').laid hT)
     refine ⟨tt,_,rfl,SqT.of upd_same,rfl,_,_,rfl,_,_,rfl,rfl,?_⟩
     refine rd_if (tv_test (ev_eq (ev_fld (ev_var rfl) (S3 _ _ hpa) TP.cl (TP.no _ (by simp)) fPool_name) (ev_var rfl))) (fun h=>?_) (fun h=>?_)
     · have h:p.name=nm:=by
        have:=of_decide_eq_true h
        injection this with this
        exact st_inj.mp this
       refine ⟨_,rfl,q2 i ?_ _ (S1.trans S3.x) (hW1.same S3)⟩
       unfold poolAtN
       rw [List.findIdx?_eq_some_iff_getElem]
       obtain ⟨hil,hpe⟩:=List.getElem?_eq_some_iff.mp hp
       refine ⟨hil,by rw [hpe,h];exact beq_self_eq_true _,fun j hj=>?_⟩
       have:=hno j _ hj (List.getElem?_eq_getElem (by omega))
       simpa using this
     · have h:¬ p.name=nm:=fun z=>by
        have:=of_decide_eq_false h
        exact this (by rw [z])
       refine ⟨_,_,rfl,S3,fun j p' hj hp'=>?_⟩
       by_cases hji:j=i
       · subst hji
         rw [hp] at hp'
         injection hp' with hp'
         subst hp'
         exact h
       · exact hno j p' (by omega) hp'
   · rintro σ H' ⟨v3,v4,rfl,S2,hno⟩
     obtain ⟨d1,w1,m1,n1,ha1⟩:=hW1.obj
     dsimp only
     refine rd_rz (ev_fld (ev_var rfl) (S2 _ _ ha1) T.cl (T.no _ (by simp)) fWords_place) (q1 ?_)
     unfold poolAtN
     rw [List.findIdx?_eq_none_iff]
     intro p hp
     obtain ⟨j,hj⟩:=List.mem_iff_getElem?.mp hp
     have hjl:=(List.getElem?_eq_some_iff.mp hj).1
     have:=hno j p (by rw [List.length_map,Paired.length hP];exact hjl) hj
     simpa using this
end
def badN:Bool->Nat->List Nat->Option Nat
 | _,_,[]=>none
 | gap,p,c::r=>if ¬ (32<=c/\c<=126) then some p else if c=32/\(gap=true∨r=[]) then some p else badN (c==32) (p+1) r
def badL (cs:List Nat):Option Nat:=if cs=[] then some 0 else badN true 0 cs
theorem badN_eq:∀ (l:Bytes) (gap:Bool) (p:Nat),gap=false∨l≠[]->badByte gap p l=badN gap p (l.map UInt8.toNat)
 | [],gap,p,h=>by
  have:gap=false:=by simpa using h
  subst this
  rfl
 | c::r,gap,p,_=>by
  have e32:c=32↔c.toNat=32:=⟨fun z=>by rw [z];rfl,fun z=>u8_inj z⟩
  have elt:(c < 32∨126 < c)↔¬ (32<=c.toNat/\c.toNat<=126):=by
   rw [UInt8.lt_iff_toNat_lt,UInt8.lt_iff_toNat_lt]
   show c.toNat < 32∨126 < c.toNat↔_
   omega
  show (if c < 32∨126 < c then some p else if c=32 then (if gap=true then some p else if r.isEmpty=true then some p else badByte true (p+1) r) else badByte false (p+1) r) =
   if ¬ (32<=c.toNat/\c.toNat<=126) then some p else if c.toNat=32/\(gap=true∨r.map UInt8.toNat=[]) then some p else badN (c.toNat==32) (p+1) (r.map UInt8.toNat)
  by_cases h1:c < 32∨126 < c
  · rw [if_pos h1,if_pos (elt.mp h1)]
  · rw [if_neg h1,if_neg (fun z=>h1 (elt.mpr z))]
    by_cases h2:c=32
    · have h2':=e32.mp h2
      rw [if_pos h2,h2']
      by_cases h3:gap=true
      · rw [if_pos h3,if_pos ⟨rfl,.inl h3⟩]
      · rw [if_neg h3]
        cases r with
        | nil=>rw [if_pos (show ([]:Bytes).isEmpty=true from rfl),if_pos ⟨rfl,.inr rfl⟩]
        | cons d r =>
         rw [if_neg (by simp),if_neg (by rintro ⟨_,z|z⟩;exact h3 z;cases z)]
         exact badN_eq (d::r) true (p+1) (.inr (by simp))
    · have h2':¬ c.toNat=32:=fun z=>h2 (e32.mpr z)
      rw [if_neg h2,if_neg (fun z=>h2' z.1)]
      have:(c.toNat==32)=false:=by simpa using h2'
      rw [this]
      exact badN_eq r false (p+1) (.inl rfl)
theorem badL_eq (l:Bytes):badByte true 0 l=badL (l.map UInt8.toNat):=by
 unfold badL
 cases l with
 | nil=>rfl
 | cons c r =>
  rw [if_neg (by simp)]
  exact badN_eq (c::r) true 0 (.inr (by simp))
theorem at_nV {ns:List Nat}{i:Nat}(h:i < ns.length):atI (nV ns) ((i:Nat):Int)=some (.int (ns[i]:Nat)):=atI_nat (by unfold nV;rw [List.getElem?_map,List.getElem?_eq_getElem h];rfl)
section
variable {P:Program}{w:World}{K:PySem.W.Frag}{mg:Str->Option Value}{base:Heap}
def spLine (K:PySem.W.Frag) (CF:Addr):Sp:=fun vs H Q E=>∃ (a:Addr) (cs:List Nat),vs=[.ref a]/\SqL K H a (nV cs)/\(∀ i,badL cs=some i->Rz CF E 2 (i:Nat))/\(badL cs=none->∀ H',Same H H'->Q .non H')
theorem sc_line:FnScope ["line","place","code"] ["line"] (defScope f_check_line):=⟨rfl,rfl,rfl,by decide +kernel,rfl,by decide +kernel,by decide +kernel⟩
theorem ok_line {CF aW:Addr}(G:GW mg)(B:GB K mg aW)(FL:Flt P w K mg base CF)
  {f:Addr}{fd:FuncData}(F:Fun K "check_line" "check_line" f_check_line f fd):FnOk P w K mg base (CXF P w CF) 3 f fd ["line"] (spLine K CF):=by
 refine F.okX sc_line (fun vs H Q E h=>?_) (fun cdv A outer s H vs Q E hr h=>?_)
 · obtain ⟨_,_,rfl,_⟩:=h
   rfl
 · obtain ⟨a,cs,rfl,hS,q0,q1⟩:=h
   refine ⟨_,pss_cons (ps_if (pt_cmpR op_eq (pe_callB call_len_seq (by rfl) G.len PySem.boot_len (pa_cons (pv 0) pa_nil)) pe_int (nomark _)) (pss_one (ps_rz FL own_cxOf hr (pa_cons (pe_gv B.byte) (pa_cons pe_int pa_nil)))) pss_nil)
    (pss_one (ps_for (own_x own_cxOf) rfl (pi_enum rfl B.enum (pa_cons (pv 0) pa_nil)) (pg_tup rfl (pgs_cons (pg_name (i:=1) sc_line.nd rfl (Or.inl rfl)) (pgs_cons (pg_name (i:=2) sc_line.nd rfl (Or.inl rfl)) pgs_nil)))
     (pss_cons (ps_if (pt_not (pt_chain op_le op_le pe_int (pv 2) pe_int)) (pss_one (ps_rz FL own_cxOf hr (pa_cons (pe_gv B.byte) (pa_cons (pv 1) pa_nil)))) pss_nil)
     (pss_one (ps_if (PW.pt (pw_and (pt_cmpR op_eq (pv 2) (pe_gv B.blank) (nomark _)) (pw_and1 (PW.pt (pw_or (pt_cmpR op_in_seq (pv 1) (pe_tup (pa_cons pe_int (pa_cons (pe_op op_sub (pe_callB call_len_seq (by rfl) G.len PySem.boot_len (pa_cons (pv 0) pa_nil)) pe_int) pa_nil))) (by with_unfolding_all rfl))
      (pw_or1 (pt_cmpR op_eq (pe_ix ix_list (pv 0) (pe_op op_sub (pv 1) pe_int) (fun _ _=>rfl)) (pe_gv B.blank) (nomark _)))))))) (pss_one (ps_rz FL own_cxOf hr (pa_cons (pe_gv B.byte) (pa_cons (pv 1) pa_nil)))) pss_nil))))),?_⟩
   refine rd_if (tv_test (ev_eq (ev_lenQ (ev_var rfl) (.inl hS)) ev_c)) (fun h=>?_) (fun h=>?_)
   · rw [dec_int,nV_len] at h
     have h:cs=[]:=by
      have:=eq_of_beq h
      exact List.length_eq_zero_iff.mp (by omega)
     exact rd_rz ev_c (q0 0 (by unfold badL;rw [if_pos h]))
   rw [dec_int,nV_len] at h
   have hne:cs≠[]:=fun z=>by rw [z] at h;cases h
   have eL:badL cs=badN true 0 cs:=by unfold badL;rw [if_neg hne]
   rw [eL] at q0 q1
   refine ⟨_,rfl,a,_,rfl,hS,for_enum (K:=K) (a:=a) (xs:=nV cs) (fun i σ H'=>∃ (v1 v2:Option V) (gap:Bool),σ=[some (.ref a),v1,v2]/\Same H H'/\(gap=true↔i=0∨cs[i - 1]?=some 32)/\badN gap i (cs.drop i)=badN true 0 cs)
    ⟨none,none,true,rfl,Same.refl H,by simp,rfl⟩ (fun i σ H' _ ⟨_,_,_,_,S,_⟩=>S.seq hS) ?_ ?_⟩
   · rintro i x σ H' tt hi ⟨v1,v2,gap,rfl,S2,hg,hc⟩ hT
     have hil:i < cs.length:=by
      have:=(List.getElem?_eq_some_iff.mp hi).1
      rwa [nV_len] at this
     have hx:x=.int (cs[i]:Nat):=by
      unfold nV at hi
      rw [List.getElem?_map,List.getElem?_eq_getElem hil] at hi
      exact (Option.some.inj hi).symm
     subst hx
     have hci:cs[i]?=some cs[i]:=List.getElem?_eq_getElem hil
     rw [List.drop_eq_getElem_cons hil] at hc
     have hlast:cs.drop (i+1)=[]↔i=cs.length - 1:=by
      rw [List.drop_eq_nil_iff]
      omega
     generalize hcc:cs[i]=c at hc hci
     have hc:(if ¬ (32<=c/\c<=126) then some i else if c=32/\(gap=true∨cs.drop (i+1)=[]) then some i else badN (c==32) (i+1) (cs.drop (i+1)))=badN true 0 cs:=hc
     have S3:Same H (upd H' tt (.tup [.int (i:Nat),.int (c:Nat)])):=S2.trans ((Same.refl H').laid hT)
     refine ⟨tt,_,rfl,SqT.of upd_same,rfl,_,_,rfl,_,_,rfl,rfl,?_⟩
     refine rd_if (tv_not (tv_chain ev_c (ev_var rfl) ev_c)) (fun h=>?_) (fun h=>?_)
     · simp only [Bool.not_eq_true',Bool.and_eq_false_iff,decide_eq_false_iff_not] at h
       rw [if_pos (by omega)] at hc
       exact rd_rz (ev_var rfl) (q0 i hc.symm)
     simp only [Bool.not_eq_false',Bool.and_eq_true,decide_eq_true_eq] at h
     rw [if_neg (by omega)] at hc
     have go:c=32->(gap=true∨cs.drop (i+1)=[])->Rz CF E 2 (i:Nat):=fun z1 z2=>by
      rw [if_pos ⟨z1,z2⟩] at hc
      exact q0 i hc.symm
     have on:∀ H4,Same H H4->¬ (c=32/\(gap=true∨cs.drop (i+1)=[]))->∃ (v1 v2:Option V) (gap:Bool),[some (V.ref a),some (V.int (i:Nat)),some (V.int (c:Nat))]=[some (V.ref a),v1,v2]/\Same H H4/\(gap=true↔i+1=0∨cs[i+1 - 1]?=some 32)/\badN gap (i+1) (cs.drop (i+1))=badN true 0 cs:=fun H4 S4 hn=>by
      rw [if_neg hn] at hc
      refine ⟨_,_,(c==32),rfl,S4,?_,hc⟩
      rw [show i+1 - 1=i by omega,hci,beq_iff_eq]
      constructor
      · intro z;exact .inr (by rw [z])
      · rintro (z|z)
        · omega
        · exact Option.some.inj z
     refine (tv_test (ev_eq (ev_var rfl) ev_c)) _ ?_
     refine ite2 (fun h1=>?_) (fun h1=>?_)
     · have h1:c=32:=by
        rw [dec_int] at h1
        have:=eq_of_beq h1
        omega
       refine ⟨_,rfl,(ev_sub (ev_lenQ (ev_var rfl) (.inl (S3.seq hS))) ev_c) _ ⟨(by show 2<=sizeLine;decide),fun t ht=>⟨t,_,rfl,.inr (SqT.of upd_same),rfl,rfl,_,rfl,?_⟩⟩⟩
       rw [nV_len]
       have S4:=S3.trans ((Same.refl _).laid ht (o:=.tup [V.int 0,V.int ((cs.length:Int) - 1)]))
       have eI:inV (V.int (i:Nat)) [V.int 0,V.int ((cs.length:Int) - 1)]=decide (i=0∨i=cs.length - 1):=by
        show ((0:Int)==(i:Nat)||((cs.length:Int) - 1==(i:Nat)||false))=_
        rw [Bool.eq_iff_iff]
        simp only [Bool.or_eq_true,beq_iff_eq,decide_eq_true_eq,Bool.or_false]
        omega
       show if inV (V.int (i:Nat)) [V.int 0,V.int ((cs.length:Int) - 1)]=true then _ else _
       rw [eI]
       refine ite2 (fun h2=>?_) (fun h2=>?_)
       · refine iteT ?_
         refine rd_rz (ev_var rfl) (go h1 ?_)
         rcases of_decide_eq_true h2 with z|z
         · exact .inl (hg.mpr (.inl z))
         · exact .inr (hlast.mpr z)
       · have h2:¬ (i=0∨i=cs.length - 1):=fun z=>h2 (decide_eq_true z)
         have hi0:0 < i:=by omega
         refine rd_if (tv_test (ev_eq (ev_ixL (ev_var rfl) (ev_sub (ev_var rfl) ev_c) (S4.seq hS) (by rw [show (((i:Nat):Int) - 1)=((i - 1:Nat):Int) by omega];exact at_nV (by omega))) ev_c)) (fun h3=>?_) (fun h3=>?_)
         · refine rd_rz (ev_var rfl) (go h1 (.inl (hg.mpr (.inr ?_))))
           rw [dec_int] at h3
           have:=eq_of_beq h3
           rw [List.getElem?_eq_getElem (by omega)]
           congr 1
           omega
         · refine on _ S4 ?_
           rintro ⟨_,z|z⟩
           · rcases hg.mp z with z|z
             · omega
             · rw [List.getElem?_eq_getElem (by omega)] at z
               have z:=Option.some.inj z
               rw [dec_int,z] at h3
               cases h3
           · have:=hlast.mp z
             omega
     · have h1:¬ c=32:=fun z=>by
        rw [dec_int,z] at h1
        exact h1 rfl
       refine iteF ?_
       exact on _ S3 fun z=>h1 z.1
   · rintro σ H' ⟨v1,v2,gap,rfl,S2,hg,hc⟩
     rw [nV_len,List.drop_length] at hc
     exact q1 hc.symm H' S2
end
def BetAt (K:PySem.W.Frag)(CB CP:Addr)(H:Hp)(x:Addr)(p:PoolM)(b:BetM):Prop:=∃ dx pa sa,H x=some (.ins CB dx (fBet (.ref pa) (.int (b.pool:Nat)) (.int (b.how:Nat)) (.int (b.stake:Nat)) (.ref sa) (.int (countM p.kind (hwOf b.how) p.fields.length b.sets:Nat))))/\PoolAt K CP H pa p/\SetsAt H sa b.sets/\b.stake<=1000000/\MOk p b.how b.sets
section
variable {a b c d e m:V}
theorem fBet_num:(fBet a b c d e m).lookup ("pool_number":Str)=some b:=by unfold fBet;rw [look_ne (by decide +kernel)];exact look_hit
theorem fBet_how:(fBet a b c d e m).lookup ("how":Str)=some c:=by unfold fBet;rw [look_ne (by decide +kernel),look_ne (by decide +kernel)];exact look_hit
theorem fBet_stake:(fBet a b c d e m).lookup ("stake":Str)=some d:=by unfold fBet;rw [look_ne (by decide +kernel),look_ne (by decide +kernel),look_ne (by decide +kernel)];exact look_hit
theorem fBet_sets:(fBet a b c d e m).lookup ("sets":Str)=some e:=by unfold fBet;rw [look_ne (by decide +kernel),look_ne (by decide +kernel),look_ne (by decide +kernel),look_ne (by decide +kernel)];exact look_hit
theorem fBet_many:(fBet a b c d e m).lookup ("many":Str)=some m:=by unfold fBet;rw [look_ne (by decide +kernel),look_ne (by decide +kernel),look_ne (by decide +kernel),look_ne (by decide +kernel),look_ne (by decide +kernel)];exact look_hit
theorem fBet_no {f:Str}(h:¬ f∈betFs):(fBet a b c d e m).lookup f=none:=look_no h
end
theorem ev_mul {σ:L2.St}{H:Hp}{ta tb:TE}{i j:Int}(ha:Ev ta σ H (.int i))(hb:Ev tb σ H (.int j))(h:CMul i j):Ev (tOp (rI CMul fun i j=>.int (i*j)) ta tb) σ H (.int (i*j)):=fun _ r=>ha _ (hb _ ⟨i,j,rfl,rfl,h,r⟩)
section
variable {K:PySem.W.Frag}{CB CP CW:Addr}{H H':Hp}{a x:Addr}{p:PoolM}{b:BetM}
theorem BetAt.same (h:BetAt K CB CP H x p b) (e:Same H H'):BetAt K CB CP H' x p b:=by
 obtain ⟨dx,pa,sa,h1,h2,h3,h4⟩:=h
 exact ⟨dx,pa,sa,e _ _ h1,h2.same e,h3.same e,h4⟩
end
section
variable {P:Program}{w:World}{K:PySem.W.Frag}{mg:Str->Option Value}{base:Heap}
def spCof (K:PySem.W.Frag) (CP:Addr):Sp:=fun vs H Q _=>∃ (pa sa:Addr) (p:PoolM) (how:Nat) (sets:List (List Nat)),vs=[.ref pa,.int (how:Nat),.ref sa]/\PoolAt K CP H pa p/\ListsAt K H sa sets/\MOk p how sets/\∀ H',Same H H'->Q (.int (countM p.kind (hwOf how) p.fields.length sets:Nat)) H'
def spCost (K:PySem.W.Frag)(CB CP:Addr):Sp:=fun vs H Q _=>∃ (x:Addr) (p:PoolM) (b:BetM),vs=[.ref x]/\BetAt K CB CP H x p b/\Q (.int ((b.stake:Int)*(countM p.kind (hwOf b.how) p.fields.length b.sets:Nat))) H
theorem sc_cost:FnScope ["self"] ["self"] (defScope m_Bet_cost):=⟨rfl,rfl,rfl,by decide +kernel,rfl,by decide +kernel,by decide +kernel⟩
theorem ok_cost {CB CP:Addr}(TB:CK K mg "Bet" betFs CB){f:Addr}{fd:FuncData}(F:Fun K "cost" "Bet.cost" m_Bet_cost f fd):FnOk P w K mg base CX0 1 f fd ["self"] (spCost K CB CP):=by
 refine F.ok sc_cost (fun vs H Q E h=>?_) (fun cdv A outer s H vs Q E hr h=>?_)
 · obtain ⟨_,_,_,rfl,_⟩:=h
   rfl
 · obtain ⟨x,p,b,rfl,⟨dx,pa,sa,h1,_,_,h4,_⟩,q⟩:=h
   refine ⟨_,pss_one (ps_ret (pe_op op_mul (pe_fld (pv 0) rfl) (pe_fld (pv 0) rfl))),?_⟩
   exact (ev_mul (ev_fld (ev_var rfl) h1 TB.cl (TB.no _ (by simp)) fBet_stake) (ev_fld (ev_var rfl) h1 TB.cl (TB.no _ (by simp)) fBet_many) (.inl ⟨by omega,by omega⟩)) _ q
def spRead (K:PySem.W.Frag)(CW CF CB CP:Addr):Sp:=fun vs H Q E=>∃ (a b:Addr) (ps:List PoolM) (e:Nat) (l:List Word) (pl:Nat),vs=[.ref b,.ref a]/\WordsAt K CW H a e l pl/\PoolsAt K CP H b ps/\(∀ p∈ps,FOk p) /\
 (∀ t,bw1 e ps l=.error t->Rz CF E (t.kind:Nat) (t.place:Nat))/\(∀ y,bw1 e ps l=.ok y->∀ H' x p,SameX a H H'->BetAt K CB CP H' x p y->ps[y.pool]?=some p->Q (.ref x) H')
theorem sc_read:FnScope ["pools","words","pool_number","pool","stake","stake_place","how","how_place","sets","bet"] ["pools","words"] (defScope f_read_words):=⟨rfl,rfl,rfl,by decide +kernel,rfl,by decide +kernel,by decide +kernel⟩
theorem ok_read {CW CF CB CP aW:Addr}(B:GB K mg aW)(T:CK K mg "Words" wordsFs CW)(TP:CK K mg "Pool" poolFs CP)(TB:CK K mg "Bet" betFs CB)(FL:Flt P w K mg base CF){k:Nat}(hk:2<=k)
  (FO:FnM P w K mg base (CXF P w CF) k CW "take_one_of" ["self","known"] (spOne K CW CF))(FTP:Fn P w K mg base (CXF P w CF) k "take_pool" ["pools","words"] (spTPool K CW CF CP))(FS:Fn P w K mg base (CXF P w CF) k "take_stake" ["words","unit"] (spStake K CW CF))
  (FH:Fn P w K mg base (CXF P w CF) k "take_how" ["words","pool"] (spHow K CW CF CP))(FSe:Fn P w K mg base (CXF P w CF) k "take_sets" ["words","pool","how"] (spSets K CW CF CP))(FB:FnI P w K mg base CX0 1 CB ["self","pool","pool_number","how","stake","sets","many"] (spBetI CB))
  (FF:FnM P w K mg base (CXF P w CF) k CW "finish" ["self"] (spFin K CW CF))(FM:Fn P w K mg base CX0 k "count_of" ["pool","how","sets"] (spCof K CP))(FC:FnM P w K mg base CX0 k CB "cost" ["self"] (spCost K CB CP))
  {f:Addr}{fd:FuncData}(F:Fun K "read_words" "read_words" f_read_words f fd):FnOk P w K mg base (CXF P w CF) (k+1) f fd ["pools","words"] (spRead K CW CF CB CP):=by
 refine F.okX sc_read (fun vs H Q E h=>?_) (fun cdv A outer s H vs Q E hr h=>?_)
 · obtain ⟨_,_,_,_,_,_,rfl,_⟩:=h
   rfl
 · obtain ⟨a,b,ps,e,l,pl,rfl,hW,hPs,hok,q0,q1⟩:=h
   refine ⟨_,pss_cons (ps_expr (pe_mth FO T.cl (pv 1) hr (pass_x own_cxOf rfl rfl) (pa_cons (pe_tup (pa_cons pe_str pa_nil)) pa_nil)))
    (pss_cons (ps_set (i:=2) sc_read.nd rfl (Or.inl rfl) (pe_fn FTP hr (pass_x own_cxOf rfl rfl) (pa_cons (pv 0) (pa_cons (pv 1) pa_nil))))
    (pss_cons (ps_set (i:=3) sc_read.nd rfl (Or.inl rfl) (pe_ix ix_list (pv 0) (pv 2) (fun _ _=>rfl)))
    (pss_cons (ps_expr (pe_mth FO T.cl (pv 1) hr (pass_x own_cxOf rfl rfl) (pa_cons (pe_tup (pa_cons pe_str pa_nil)) pa_nil)))
    (pss_cons (ps_set (i:=4) sc_read.nd rfl (Or.inl rfl) (pe_fn FS hr (pass_x own_cxOf rfl rfl) (pa_cons (pv 1) (pa_cons (pe_fld (pv 3) rfl) pa_nil))))
    (pss_cons (ps_set (i:=5) sc_read.nd rfl (Or.inl rfl) (pe_fld (pv 1) rfl))
    (pss_cons (ps_set (i:=6) sc_read.nd rfl (Or.inl rfl) (pe_fn FH hr (pass_x own_cxOf rfl rfl) (pa_cons (pv 1) (pa_cons (pv 3) pa_nil))))
    (pss_cons (ps_set (i:=7) sc_read.nd rfl (Or.inl rfl) (pe_fld (pv 1) rfl))
    (pss_cons (ps_set (i:=8) sc_read.nd rfl (Or.inl rfl) (pe_fn FSe hr (pass_x own_cxOf rfl rfl) (pa_cons (pv 1) (pa_cons (pv 3) (pa_cons (pv 6) pa_nil)))))
    (pss_cons (ps_expr (pe_mth0 FF T.cl (pv 1) hr (pass_x own_cxOf rfl rfl)))
    (pss_cons (ps_set (i:=9) sc_read.nd rfl (Or.inl rfl) (pe_mk FB (hr.mono hk) TB.mg pass0 (pa_cons (pv 3) (pa_cons (pv 2) (pa_cons (pv 6) (pa_cons (pv 4) (pa_cons (pv 8) (pa_cons (pe_fn FM hr pass0 (pa_cons (pv 3) (pa_cons (pv 6) (pa_cons (pv 8) pa_nil)))) pa_nil))))))))
    (pss_cons (ps_if (pt_cmpR op_eq (pe_fld (pv 9) rfl) pe_int (nomark _)) (pss_one (ps_rz FL own_cxOf (hr.mono hk) (pa_cons (pe_gv B.comb) (pa_cons (pv 7) pa_nil)))) pss_nil)
    (pss_cons (ps_if (pt_cmpR op_gt (pe_mth0 FC TB.cl (pv 9) hr pass0) (pe_gv B.cost) (nomark _)) (pss_one (ps_rz FL own_cxOf (hr.mono hk) (pa_cons (pe_gv B.dear) (pa_cons (pv 5) pa_nil)))) pss_nil)
    (pss_one (ps_ret (pv 9))))))))))))))),?_⟩
   obtain ⟨d0,w0,m0,n0,ha0⟩:=hW.obj
   unfold bw1 at q0 q1
   refine ⟨_,rfl,a,d0,_,rfl,ha0,fWords_no (by decide +kernel),(by show 1<=sizeLine;decide),fun t ht=>?_⟩
   have St:Same H (upd H t (.tup [V.str (Str.ofString "bet")])):=(Same.refl H).laid ht
   show tNil _ _ _
   unfold tNil
   dsimp only [List.append_nil]
   refine one_must (s:="bet") (by decide +kernel) (hW.same St) (SqT.of upd_same) (fun y hy=>?_) (fun m hm H1 v pl1 S1 hW1=>?_)
   · rw [hy] at q0
     exact q0 _ rfl
   rw [hm] at q0 q1
   have q0:∀ t,bw2 e ps m=.error t->Rz CF E (t.kind:Nat) (t.place:Nat):=q0
   have q1:∀ y,bw2 e ps m=.ok y->_:=q1
   have SX1:SameX a H H1:=St.x.trans S1
   refine ⟨_,rfl,_,rfl,a,b,ps,e,m,pl1,rfl,hW1,PoolsAt.sameX hPs SX1 ha0,fun z=>?_,fun wn r hl hn=>?_,fun wn r i hl hi H2 S2 hW2=>?_⟩
   · subst z
     exact q0 ⟨3,e⟩ rfl
   · subst hl
     refine q0 ⟨5,wn.at_⟩ ?_
     show (match poolAtN ps (tx wn.w) with
      | none=>(Except.error ⟨5,wn.at_⟩:Except Fault BetM)
      | some i=>match ps[i]? with
       | none=>.error ⟨5,wn.at_⟩
       | some p=>bw3 e i p r)=_
     rw [hn]
   subst hl
   have SX2:=SX1.trans S2
   have hil:=poolAtN_lt hi
   have eB:bw2 e ps (wn::r)=bw3 e i ps[i] r:=by
    show (match poolAtN ps (tx wn.w) with
     | none=>(Except.error ⟨5,wn.at_⟩:Except Fault BetM)
     | some i=>match ps[i]? with
      | none=>.error ⟨5,wn.at_⟩
      | some p=>bw3 e i p r)=_
    rw [hi]
    show (match ps[i]? with
      | none=>(Except.error ⟨5,wn.at_⟩:Except Fault BetM)
      | some p=>bw3 e i p r)=_
    rw [List.getElem?_eq_getElem hil]
   rw [eB] at q0 q1
   have hO:=hok _ (List.getElem_mem hil)
   have hPp:∃ (as:List Addr) (pa:Addr),SqL K H b (as.map V.ref)/\as[i]?=some pa/\PoolAt K CP H pa ps[i]:=by
    obtain ⟨as,h1,h2⟩:=hPs
    obtain ⟨pa,h3,h4⟩:=Paired.at2 h2 (List.getElem?_eq_getElem hil)
    exact ⟨as,pa,h1,h3,h4⟩
   have hpi:ps[i]?=some ps[i]:=List.getElem?_eq_getElem hil
   generalize ps[i]=p at q0 q1 hO hPp hpi
   obtain ⟨as,pa,hA,hpa,hPP⟩:=hPp
   have pool:∀ {H'},SameX a H H'->PoolAt K CP H' pa p:=fun S=>PoolAt.sameX hPP S ha0
   refine rd_set (ev_ixL (ev_var rfl) (ev_var rfl) (SX2.seq ha0 hA) (atI_nat (by rw [List.getElem?_map,hpa];rfl))) ?_
   unfold bw3 at q0 q1
   obtain ⟨d2,w2,m2,n2,ha2⟩:=hW2.obj
   refine ⟨_,rfl,a,d2,_,rfl,ha2,fWords_no (by decide +kernel),(by show 1<=sizeLine;decide),fun t3 ht3=>?_⟩
   have St3:Same H2 (upd H2 t3 (.tup [V.str (Str.ofString "for")])):=(Same.refl H2).laid ht3
   dsimp only [List.append_nil]
   refine one_must (s:="for") (by decide +kernel) (hW2.same St3) (SqT.of upd_same) (fun y hy=>?_) (fun m3 hm3 H3 v3 pl3 S3 hW3=>?_)
   · rw [hy] at q0
     exact q0 _ rfl
   rw [hm3] at q0 q1
   have q0:∀ t,bw4 e i p m3=.error t->Rz CF E (t.kind:Nat) (t.place:Nat):=q0
   have q1:∀ y,bw4 e i p m3=.ok y->_:=q1
   have SX3:SameX a H H3:=(SX2.trans St3.x).trans S3
   obtain ⟨dp,fap,hpo,hpl⟩:=pool SX3
   refine ⟨_,rfl,(ev_fld (ev_var rfl) hpo TP.cl (TP.no _ (by simp)) fPool_unit) _ ⟨a,p.unit,e,m3,pl3,rfl,hO.unit,hW3,fun z=>?_,fun ws r4 hl hn=>?_,fun ws r4 hl hs H4 S4 hW4=>?_⟩⟩
   · subst z
     exact q0 ⟨3,e⟩ rfl
   · subst hl
     refine q0 ⟨4,ws.at_⟩ ?_
     show (if stakeOk p.unit (tx ws.w) then _ else _)=_
     rw [if_neg (show ¬ stakeOk p.unit (tx ws.w) from hn)]
   subst hl
   have eB:bw4 e i p (ws::r4)=bw5 e i p (numM (tx ws.w)).toNat ws.at_ r4:=by
    show (if stakeOk p.unit (tx ws.w) then _ else _)=_
    rw [if_pos (show stakeOk p.unit (tx ws.w) from hs)]
   rw [eB] at q0 q1
   have hst:numM (tx ws.w)=(((numM (tx ws.w)).toNat:Nat):Int):=by have:=hs.1;omega
   have hsb:(numM (tx ws.w)).toNat<=1000000:=by have:=hs.2.1;omega
   generalize (numM (tx ws.w)).toNat=stake at q0 q1 hst hsb
   rw [hst]
   have SX4:=SX3.trans S4
   obtain ⟨d4,w4,m4,n4,ha4⟩:=hW4.obj
   refine rd_set (ev_fld (ev_var rfl) ha4 T.cl (T.no _ (by simp)) fWords_place) ?_
   refine ⟨_,rfl,_,rfl,a,pa,p,e,r4,ws.at_,rfl,hW4,pool SX4,fun z=>?_,fun wh r5 hl hn=>?_,fun wh r5 how hl hh H5 S5 hW5=>?_⟩
   · subst z
     exact q0 ⟨3,e⟩ rfl
   · subst hl
     refine q0 ⟨3,wh.at_⟩ ?_
     show (match wayOf p wh.w with
      | none=>(Except.error ⟨3,wh.at_⟩:Except Fault BetM)
      | some how=>bw5b e i how stake wh.at_ ws.at_ p (setsW e p how r5))=_
     rw [hn]
   subst hl
   have eB:bw5 e i p stake ws.at_ (wh::r5)=bw5b e i how stake wh.at_ ws.at_ p (setsW e p how r5):=by
    show (match wayOf p wh.w with
     | none=>(Except.error ⟨3,wh.at_⟩:Except Fault BetM)
     | some how=>bw5b e i how stake wh.at_ ws.at_ p (setsW e p how r5))=_
    rw [hh]
   rw [eB] at q0 q1
   have SX5:=SX4.trans S5
   obtain ⟨d5,w5,m5,n5,ha5⟩:=hW5.obj
   refine rd_set (ev_fld (ev_var rfl) ha5 T.cl (T.no _ (by simp)) fWords_place) ?_
   have hway:how=0∨mixedM p=true:=by
    unfold wayOf at hh
    split at hh
    · exact .inl (Option.some.inj hh).symm
    · split at hh
      · rename_i z
        exact .inr z.2
      · split at hh
        · rename_i z
          exact .inr z.2
        · cases hh
   refine ⟨_,rfl,_,rfl,_,rfl,a,pa,p,how,e,r5,wh.at_,rfl,hW5,pool SX5,hO,fun t ht=>?_,fun sets r6 hse H6 sa pl6 S6 hSa hW6=>?_⟩
   · rw [ht] at q0
     exact q0 t rfl
   rw [hse] at q0 q1
   have SX6:=SX5.trans S6
   obtain ⟨d6,w6,m6,n6,ha6⟩:=hW6.obj
   refine ⟨_,rfl,a,d6,_,rfl,ha6,fWords_no (by decide +kernel),a,e,r6,pl6,rfl,hW6,fun wr r7 hl=>?_,fun hl=>?_⟩
   · subst hl
     exact q0 ⟨3,wr.at_⟩ rfl
   subst hl
   have q0:∀ t,bw6 i how stake wh.at_ ws.at_ p sets=.error t->Rz CF E (t.kind:Nat) (t.place:Nat):=q0
   have q1:∀ y,bw6 i how stake wh.at_ ws.at_ p sets=.ok y->_:=q1
   unfold bw6 at q0 q1
   have hM:MOk p how sets:=⟨hO,hway,e,r5,[],hse⟩
   refine ⟨_,rfl,_,rfl,_,rfl,_,rfl,_,rfl,_,rfl,_,rfl,_,rfl,pa,sa,p,how,sets,rfl,pool SX6,hSa.lists,hM,fun H7 S7=>?_⟩
   have SX7:SameX a H H7:=SX6.trans S7.x
   intro x dx hx hdx ndx
   refine ⟨x,dx,_,_,_,_,_,_,rfl,upd_same,rfl,?_⟩
   rw [upd_upd]
   have S8:Same H7 (upd (upd H7 dx (.own x)) x (.ins CB dx (fBet (.ref pa) (.int (i:Nat)) (.int (how:Nat)) (.int (stake:Nat)) (.ref sa) (.int (countM p.kind (hwOf how) p.fields.length sets:Nat))))):=((Same.refl H7).laid hdx).laid hx
   have hx8:(upd (upd H7 dx (.own x)) x (.ins CB dx (fBet (.ref pa) (.int (i:Nat)) (.int (how:Nat)) (.int (stake:Nat)) (.ref sa) (.int (countM p.kind (hwOf how) p.fields.length sets:Nat))))) x=some (.ins CB dx (fBet (.ref pa) (.int (i:Nat)) (.int (how:Nat)) (.int (stake:Nat)) (.ref sa) (.int (countM p.kind (hwOf how) p.fields.length sets:Nat)))):=upd_same
   generalize upd (upd H7 dx (.own x)) x (.ins CB dx (fBet (.ref pa) (.int (i:Nat)) (.int (how:Nat)) (.int (stake:Nat)) (.ref sa) (.int (countM p.kind (hwOf how) p.fields.length sets:Nat))))=H8 at S8 hx8
   have hB8:BetAt K CB CP H8 x p ⟨i,how,stake,sets⟩:=⟨dx,pa,sa,hx8,(pool SX7).same S8,(hSa.same S7).same S8,hsb,hM⟩
   have SX8:SameX a H H8:=SX7.trans S8.x
   refine rd_if (tv_test (ev_eq (ev_fld (ev_var rfl) hx8 TB.cl (TB.no _ (by simp)) fBet_many) ev_c)) (fun h=>?_) (fun h=>?_)
   · rw [dec_int] at h
     rw [if_pos (by have:=eq_of_beq h;omega)] at q0
     exact rd_rz (ev_var rfl) (q0 _ rfl)
   have hm0:¬ countM p.kind (hwOf how) p.fields.length sets=0:=fun z=>by rw [z] at h;cases h
   rw [if_neg hm0] at q0 q1
   have evC:∀ {σ:L2.St},σ[9]?=some (some (V.ref x))->Ev (tMeth CB "cost" (spCost K CB CP) [] E0 (tVar 9) fun _ H Q=>Q [] H) σ H8 (.int ((stake:Int)*(countM p.kind (hwOf how) p.fields.length sets:Nat))):=fun z _ r =>
    ⟨_,z,x,dx,_,rfl,hx8,fBet_no (by decide +kernel),x,p,⟨i,how,stake,sets⟩,rfl,hB8,r⟩
   refine rd_if (tv_i (evC rfl) ev_c) (fun h=>?_) (fun h=>?_)
   · have h:=of_decide_eq_true h
     have h:2147483647 < stake*countM p.kind (hwOf how) p.fields.length sets:=by
      have e1:((stake:Int)*(countM p.kind (hwOf how) p.fields.length sets:Int))=((stake*countM p.kind (hwOf how) p.fields.length sets:Nat):Int):=by rw [Int.natCast_mul]
      rw [e1] at h
      omega
     rw [if_pos h] at q0
     exact rd_rz (ev_var rfl) (q0 _ rfl)
   · have h:=of_decide_eq_false h
     have h:¬ 2147483647 < stake*countM p.kind (hwOf how) p.fields.length sets:=by
      have e1:((stake:Int)*(countM p.kind (hwOf how) p.fields.length sets:Int))=((stake*countM p.kind (hwOf how) p.fields.length sets:Nat):Int):=by rw [Int.natCast_mul]
      rw [e1] at h
      omega
     rw [if_neg h] at q1
     exact ⟨_,rfl,q1 _ rfl H8 x p SX8 hB8 hpi⟩
end
def bsN (b:Bytes):List Nat:=b.map UInt8.toNat
theorem mem_bsN {b:Bytes}:10∈bsN b↔(10:UInt8)∈b:=by
 unfold bsN
 rw [List.mem_map]
 exact ⟨fun ⟨x,h1,h2⟩=>by have:x=10:=u8_inj h2
                          rwa [← this],fun h=>⟨10,h,rfl⟩⟩
theorem cut_to {xs:List V}{j:Nat}(h:j<=xs.length):cutV xs none (some (j:Int))=xs.take j:=by
 unfold cutV
 rw [HT.sIx_nat,HT.sIx_none,Nat.min_eq_left h]
 simp
section
variable {P:Program}{w:World}{K:PySem.W.Frag}{mg:Str->Option Value}{base:Heap}
def spBet (K:PySem.W.Frag) (CF CB CP:Addr):Sp:=fun vs H Q E=>∃ (c b:Addr) (ps:List PoolM) (bs:Bytes),vs=[.ref b,.ref c]/\SqL K H c (nV (bsN bs))/\bs.length<=4096/\PoolsAt K CP H b ps/\(∀ p∈ps,FOk p) /\
 (∀ t,readB ps bs=.error t->Rz CF E (t.kind:Nat) (t.place:Nat))/\(∀ y,readB ps bs=.ok y->∀ H' x p,Same H H'->BetAt K CB CP H' x p y->ps[y.pool]?=some p->Q (.ref x) H')
theorem sc_bet:FnScope ["pools","codes","line_end","line","bet"] ["pools","codes"] (defScope f_read_bet):=⟨rfl,rfl,rfl,by decide +kernel,rfl,by decide +kernel,by decide +kernel⟩
theorem ok_bet {CW CF CB CP aW:Addr}(G:GW mg)(B:GB K mg aW)(T:CK K mg "Words" wordsFs CW)(FL:Flt P w K mg base CF){k:Nat}(hk:2<=k)
  (FC:Fn P w K mg base (CXF P w CF) k "check_line" ["line"] (spLine K CF))(FR:Fn P w K mg base (CXF P w CF) k "read_words" ["pools","words"] (spRead K CW CF CB CP))(FX:Fn P w K mg base CX0 k "text_of" ["codes"] (spText K))(FW:FnI P w K mg base CX0 1 CW ["self","line"] (spWordsI K CW))
  {f:Addr}{fd:FuncData}(F:Fun K "read_bet" "read_bet" f_read_bet f fd):FnOk P w K mg base (CXF P w CF) (k+1) f fd ["pools","codes"] (spBet K CF CB CP):=by
 refine F.okX sc_bet (fun vs H Q E h=>?_) (fun cdv A outer s H vs Q E hr h=>?_)
 · obtain ⟨_,_,_,_,rfl,_⟩:=h
   rfl
 · obtain ⟨c,b,ps,bs,rfl,hS,hlen,hPs,hok,q0,q1⟩:=h
   refine ⟨_,pss_cons (ps_if (pt_cmpR op_notIn_seq (pe_gv B.nl) (pv 1) (by with_unfolding_all rfl)) (pss_one (ps_rz FL own_cxOf (hr.mono hk) (pa_cons (pe_gv B.ended) (pa_cons (pe_callB call_len_seq (by rfl) G.len PySem.boot_len (pa_cons (pv 1) pa_nil)) pa_nil)))) pss_nil)
    (pss_cons (ps_set (i:=2) sc_bet.nd rfl (Or.inl rfl) (pe_bm PySem.F.plainAttrs_list PySem.F.slot_list_index PySem.F.type_list_index mt_index (pv 1) (pa_cons (pe_gv B.nl) pa_nil)))
    (pss_cons (ps_set (i:=3) sc_bet.nd rfl (Or.inl rfl) (pe_slice sl_list (pv 1) po_none (po_some (pv 2))))
    (pss_cons (ps_expr (pe_fn FC hr (pass_x own_cxOf rfl rfl) (pa_cons (pv 3) pa_nil)))
    (pss_cons (ps_set (i:=4) sc_bet.nd rfl (Or.inl rfl) (pe_fn FR hr (pass_x own_cxOf rfl rfl) (pa_cons (pv 0) (pa_cons (pe_mk FW (hr.mono hk) T.mg pass0 (pa_cons (pe_fn FX hr pass0 (pa_cons (pv 3) pa_nil)) pa_nil)) pa_nil))))
    (pss_cons (ps_if (pt_cmpR op_lt (pe_op op_add (pv 2) pe_int) (pe_callB call_len_seq (by rfl) G.len PySem.boot_len (pa_cons (pv 1) pa_nil)) (nomark _)) (pss_one (ps_rz FL own_cxOf (hr.mono hk) (pa_cons (pe_gv B.more) (pa_cons (pe_op op_add (pv 2) pe_int) pa_nil)))) pss_nil)
    (pss_one (ps_ret (pv 4)))))))),?_⟩
   have hbl:(bsN bs).length=bs.length:=by unfold bsN;rw [List.length_map]
   refine rd_if (tv_test (ev_in ev_c (ev_var rfl) (.inl hS) rfl (flat_nV _))) (fun h=>?_) (fun h=>?_)
   · have h:(!inV (V.int 10) (nV (bsN bs)))=true:=h
     rw [in_nV,Bool.not_eq_true',decide_eq_false_iff_not] at h
     have hn:¬ (10:UInt8)∈bs:=fun z=>h ⟨10,mem_bsN.mpr z,rfl⟩
     have hu:upTo bs=none:=by
      cases hu:upTo bs with
      | none=>rfl
      | some x =>
       obtain ⟨l,r⟩:=x
       obtain ⟨e,_⟩:=upTo_some hu
       exact absurd (by rw [e];simp) hn
     rw [readB_none hu] at q0
     refine rd_rz (p:=(bs.length:Nat)) ?_ (q0 _ rfl)
     have:=ev_lenQ (K:=K) (σ:=L2.start ["pools","codes","line_end","line","bet"] [V.ref b,V.ref c]) (H:=H) (ev_var (n:=1) rfl) (.inl hS)
     rw [nV_len,hbl] at this
     exact this
   have h:(!inV (V.int 10) (nV (bsN bs)))=false:=h
   rw [in_nV,Bool.not_eq_false',decide_eq_true_eq] at h
   have hin:(10:UInt8)∈bs:=by
    obtain ⟨n,h1,h2⟩:=h
    have:n=10:=by omega
    subst this
    exact mem_bsN.mp h1
   cases hu:upTo bs with
   | none=>exact absurd hin (upTo_none hu)
   | some x =>
   obtain ⟨l,r⟩:=x
   obtain ⟨ebs,hl10⟩:=upTo_some hu
   rw [readB_some hu] at q0 q1
   have ecs:nV (bsN bs)=nV (bsN l)++V.int 10::nV (bsN r):=by
    rw [ebs]
    unfold nV bsN
    rw [List.map_append,List.map_append]
    rfl
   have hll:(nV (bsN l)).length=l.length:=by rw [nV_len];unfold bsN;rw [List.length_map]
   have hbs:bs.length=l.length+1+r.length:=by rw [ebs];simp;omega
   refine ⟨_,rfl,.inl ⟨rfl,_,hS⟩,c,nV (bsN bs),.int 10,l.length,.int 10,rfl,rfl,hS,rfl,flat_nV _,?_,rfl,?_,?_⟩
   · rw [ecs,List.getElem?_append_right (by omega),hll]
     simp
   · intro m z hm hz
     rw [ecs,List.getElem?_append_left (by omega)] at hz
     unfold nV bsN at hz
     rw [List.getElem?_map,List.getElem?_map,Option.map_map] at hz
     obtain ⟨y,hy,rfl⟩:=Option.map_eq_some_iff.mp hz
     have hny:¬ y.toNat=10:=fun q=>hl10 (by have:y=10:=u8_inj q
                                            rw [← this];exact List.mem_of_getElem? hy)
     show ((y.toNat:Int)==10)=false
     rw [beq_eq_false_iff_ne]
     omega
   refine ⟨_,rfl,_,rfl,_,rfl,c,_,rfl,hS,fun p hp=>?_⟩
   rw [cut_to (by rw [nV_len,hbl,hbs];omega),ecs,List.take_append_of_le_length (by omega),List.take_of_length_le (by omega)]
   have S1:Same H (upd H p (.lst (nV (bsN l)))):=(Same.refl H).laid hp
   have e1:(upd H p (.lst (nV (bsN l)))) p=some (.lst (nV (bsN l))):=upd_same
   generalize upd H p (.lst (nV (bsN l)))=H1 at S1 e1
   have eBad:badByte true 0 l=badL (bsN l):=badL_eq l
   unfold readL at q0 q1
   rw [eBad] at q0 q1
   refine ⟨_,rfl,p,bsN l,rfl,SqL.of e1,fun i hi=>?_,fun hi H2 S2=>?_⟩
   · rw [hi] at q0
     exact q0 ⟨2,i⟩ rfl
   rw [hi] at q0 q1 eBad
   have q0:∀ t,(match bw1 l.length ps (wordsFrom 0 [] l) with
    | .error t=>(Except.error t:Except Fault BetM)
    | .ok x=>if r=[] then .ok x else .error ⟨8,l.length+1⟩)=.error t->Rz CF E (t.kind:Nat) (t.place:Nat):=q0
   have q1:∀ y,(match bw1 l.length ps (wordsFrom 0 [] l) with
    | .error t=>(Except.error t:Except Fault BetM)
    | .ok x=>if r=[] then .ok x else .error ⟨8,l.length+1⟩)=.ok y->_:=q1
   have S02:=S1.trans S2
   have etx:(bsN l).map sg=tx l:=by
    unfold bsN tx
    rw [List.map_map]
    rfl
   have hl4:l.length<=4096:=by omega
   refine ⟨_,rfl,_,rfl,p,bsN l,rfl,SqL.of (S2 _ _ e1),by unfold bsN;rw [List.length_map];omega,fun H3 S3=>?_⟩
   rw [etx]
   intro x dx hx hdx ndx
   have htl:(tx l).length=l.length:=tx_length l
   refine ⟨x,dx,tx l,rfl,upd_same,by omega,fun H4 wl S4 hwl hwl4 hx4=>⟨rfl,?_⟩⟩
   have S03:=S02.trans S3
   have S04:Same H H4:=fun d o z=>by
    have z3:=S03 d o z
    have n1:d≠x:=ne_of_none z3 hx
    have n2:d≠dx:=ne_of_none z3 hdx
    exact S4 d o (by rw [upd_ne n1,upd_ne n2];exact z3) n1
   have hxH:H x=none:=by
    cases hz:H x with
    | none=>rfl
    | some o=>rw [S03 x o hz] at hx;cases hx
   have t128:∀ c∈tx l,c < 128:=fun c hc=>by
    unfold tx at hc
    obtain ⟨d,_,rfl⟩:=List.mem_map.mp hc
    exact sg_lt _
   have ok32:WsOk (splitC 32 [] (tx l)):=by
    have h3:=splitC_len 32 (tx l) []
    refine ⟨by omega,fun v hv=>?_⟩
    obtain ⟨z1,z2⟩:=splitC_sub 32 (tx l) [] v hv
    refine ⟨by simp at z1;omega,fun c hc=>?_⟩
    rcases z2 c hc with z|z
    · simp at z
    · exact t128 c z
   have hplace:=(words_of l [] 0 0 (Nat.le_refl _) eBad).2
   have hWx:WordsAt K CW H4 x l.length (wordsFrom 0 [] l) 0:=by
    refine ⟨dx,wl,splitC 32 [] (tx l),0,0,?_,SqL.of hwl4,⟨ok32,splitC_ne 32 _ []⟩,Nat.zero_le _,?_,hplace⟩
    · rw [hx4,htl]
    · rw [words_line 0 eBad]
      rfl
   have hPs4:PoolsAt K CP H4 b ps:=by
    obtain ⟨as,h1,h2⟩:=hPs
    exact ⟨as,S04.seq h1,pools_same h2 S04⟩
   refine ⟨x,b,ps,l.length,wordsFrom 0 [] l,0,rfl,hWx,hPs4,hok,fun t ht=>?_,fun y hy H5 xb pp S5 hB hpp=>?_⟩
   · rw [ht] at q0
     exact q0 t rfl
   rw [hy] at q0 q1
   have q0:∀ t,(if r=[] then (Except.ok y:Except Fault BetM) else .error ⟨8,l.length+1⟩)=.error t->Rz CF E (t.kind:Nat) (t.place:Nat):=q0
   have q1:∀ y',(if r=[] then (Except.ok y:Except Fault BetM) else .error ⟨8,l.length+1⟩)=.ok y'->_:=q1
   have S05:Same H H5:=fun d o z=>S5 d o (S04 d o z) (ne_of_none z hxH)
   refine rd_if (tv_i (ev_add (ev_var rfl) ev_c) (ev_lenQ (ev_var rfl) (.inl (S05.seq hS)))) (fun h=>?_) (fun h=>?_)
   · rw [nV_len,hbl,hbs] at h
     have h:=of_decide_eq_true h
     rw [if_neg (fun z=>by rw [z] at h;simp at h)] at q0
     have e8:((l.length+1:Nat):Int)=(l.length:Int)+1:=by omega
     have q8:=q0 _ rfl
     dsimp only at q8
     rw [e8] at q8
     exact rd_rz (ev_add (ev_var rfl) ev_c) q8
   · rw [nV_len,hbl,hbs] at h
     have h:=of_decide_eq_false h
     rw [if_pos (List.length_eq_zero_iff.mp (by omega))] at q1
     exact ⟨_,rfl,q1 _ rfl H5 xb pp S05 hB hpp⟩
end
structure GD (mg:Str->Option Value):Prop where
 long:Gv mg "TOO_LONG" (.int (-2))
 faulty:Gv mg "FAULTY_BET" (.int (-6))
 card:Gv mg "NO_CARD" (.int (-8))
 mostC:Gv mg "MOST_CARD" (.int 65536)
 mostB:Gv mg "MOST_BET" (.int 4096)
theorem cut_one {zs:List Int}:cutV (zs.map V.int) none (some ((1:Nat):Int))=(zs.take 1).map V.int:=by
 unfold cutV
 rw [HT.sIx_nat,HT.sIx_none]
 cases zs <;> simp
section
variable {P:Program}{w:World}{K:PySem.W.Frag}{mg:Str->Option Value}{base:Heap}
theorem own_nox {CX:CXT} {N:List Str} {qual:Str} {scope:Scope} {f:Addr} {cd:Value} {A:Around} {outer:List Env} {s:Shared} {H:Hp} {E:XK}:OwnB (cxOf CX P w K mg base N qual scope f cd A outer s H E).nox:=⟨rfl,rfl,rfl,rfl⟩
def spLook (K:PySem.W.Frag)(CB CP:Addr):Sp:=fun vs H Q _=>∃ (c d:Addr) (t b:Bytes),vs=[.ref c,.ref d]/\SqL K H c (nV (bsN t))/\SqL K H d (nV (bsN b)) /\
 (∀ zs,lookM t b=.error zs->∀ H' T L,H' T=some (.tup [.ref L,.non])->H' L=some (.lst (zs.map V.int))->Q (.ref T) H') /\
 (∀ y,lookM t b=.ok y->∀ H' T L x p,H' T=some (.tup [.ref L,.ref x])->BetAt K CB CP H' x p y->(∃ ps,cardM (tx t)=some ps/\ps[y.pool]?=some p)->Q (.ref T) H')
theorem sc_look:FnScope ["card","bet","pools","found","fault"] ["card","bet"] (defScope f_look_at):=⟨rfl,rfl,rfl,by decide +kernel,rfl,by decide +kernel,by decide +kernel⟩
theorem ok_look {CF CB CP aW N fI:Addr}(hfok:∀ t ps,cardM (tx t)=some ps->∀ p∈ps,FOk p)(G:GW mg)(D:GD mg)(Z:ExcK K CF N fI)(hF:mg "Fault"=some (.ref CF)){k:Nat}
  (FC:Fn P w K mg base CX0 k "read_card" ["codes"] (spCard K CP))(FB:Fn P w K mg base (CXF P w CF) k "read_bet" ["pools","codes"] (spBet K CF CB CP))
  {f:Addr}{fd:FuncData}(F:Fun K "look_at" "look_at" f_look_at f fd):FnOk P w K mg base CX0 (k+1) f fd ["card","bet"] (spLook K CB CP):=by
 refine F.ok0 sc_look (fun vs H Q E h=>?_) (fun cdv A outer s H vs Q E hr h=>?_)
 · obtain ⟨_,_,_,_,rfl,_⟩:=h
   rfl
 · obtain ⟨c,d,t,b,rfl,hC,hB,q0,q1⟩:=h
   refine ⟨_,pss0_cons (PS.zero (ps_if (PW.pt (pw_or (pt_cmpR op_gt (pe_callB call_len_seq (by rfl) G.len PySem.boot_len (pa_cons (pv 0) pa_nil)) (pe_gv D.mostC) (nomark _)) (pw_or1 (pt_cmpR op_gt (pe_callB call_len_seq (by rfl) G.len PySem.boot_len (pa_cons (pv 1) pa_nil)) (pe_gv D.mostB) (nomark _)))))
     (pss_one (ps_ret (pe_tup (pa_cons (pe_lst (pa_cons (pe_gv D.long) pa_nil)) (pa_cons pe_non pa_nil))))) pss_nil))
    (pss0_cons (PS.zero (ps_set (i:=2) sc_look.nd rfl (Or.inl rfl) (pe_fn FC hr pass0 (pa_cons (pv 0) pa_nil))))
    (pss0_cons (PS.zero (ps_if (pt_cmpR op_isN (pv 2) pe_non (nomark _)) (pss_one (ps_ret (pe_tup (pa_cons (pe_lst (pa_cons (pe_gv D.card) pa_nil)) (pa_cons pe_non pa_nil))))) pss_nil))
    (pss0_cons (ps_try (i:=4) (R:=fun k p=>∃ ps y,cardM (tx t)=some ps/\readB ps b=.error y/\k=(y.kind:Nat)/\p=(y.place:Nat)) own_nox Z (by rfl) hF sc_look.nd rfl rfl
      (pss_one (ps_set (i:=3) sc_look.nd rfl (Or.inl rfl) (pe_fn FB hr (pass_x own_nox rfl rfl) (pa_cons (pv 2) (pa_cons (pv 1) pa_nil)))))
      (fun _=>pss_one (ps_ret (pe_tup (pa_cons (pe_lst (pa_cons (pe_gv D.faulty) (pa_cons (pe_xfld Z Z.fK (pv 4) rfl) (pa_cons (pe_xfld Z Z.fP (pv 4) rfl) pa_nil)))) (pa_cons pe_non pa_nil))))))
    (PSs.zero (pss_one (ps_ret (pe_tup (pa_cons (pe_lst pa_nil) (pa_cons (pv 3) pa_nil))))))))),?_⟩
   have tl:(bsN t).length=t.length:=by unfold bsN;rw [List.length_map]
   have bl:(bsN b).length=b.length:=by unfold bsN;rw [List.length_map]
   have etx:(bsN t).map sg=tx t:=by
    unfold bsN tx
    rw [List.map_map]
    rfl
   unfold lookM at q0 q1
   refine rd_if (tv_or (tv_i (ev_lenQ (ev_var rfl) (.inl hC)) ev_c) fun _=>tv_i (ev_lenQ (ev_var rfl) (.inl hB)) ev_c) (fun h=>?_) (fun h=>?_)
   · rw [nV_len,nV_len,tl,bl,Bool.or_eq_true,decide_eq_true_eq,decide_eq_true_eq] at h
     rw [if_pos (by omega)] at q0
     exact ⟨by show 1<=sizeLine;decide,fun L hL=>⟨by show 2<=sizeLine;decide,fun T hT=>q0 _ rfl _ T L upd_same (by rw [upd_ne (fun z=>by rw [← z,upd_same] at hT;cases hT)];exact upd_same)⟩⟩
   rw [nV_len,nV_len,tl,bl,Bool.or_eq_false_iff,decide_eq_false_iff_not,decide_eq_false_iff_not] at h
   rw [if_neg (by omega)] at q0 q1
   refine ⟨_,rfl,c,bsN t,rfl,hC,by omega,fun hn H1 S1=>?_,fun ps hps H1 x S1 hP=>?_⟩
   · rw [etx] at hn
     rw [hn] at q0
     refine rd_if (tv_test (ev_isN (ev_var rfl))) (fun h=>?_) (fun h=>absurd h (by decide))
     exact ⟨by show 1<=sizeLine;decide,fun L hL=>⟨by show 2<=sizeLine;decide,fun T hT=>q0 _ rfl _ T L upd_same (by rw [upd_ne (fun z=>by rw [← z,upd_same] at hT;cases hT)];exact upd_same)⟩⟩
   rw [etx] at hps
   rw [hps] at q0 q1
   have q0:∀ zs,(match readB ps b with
    | .error f=>(Except.error [-6,((f.kind:Nat):Int),((f.place:Nat):Int)]:Except (List Int) BetM)
    | .ok y=>.ok y)=.error zs->_:=q0
   have q1:∀ y,(match readB ps b with
    | .error f=>(Except.error [-6,((f.kind:Nat):Int),((f.place:Nat):Int)]:Except (List Int) BetM)
    | .ok y=>.ok y)=.ok y->_:=q1
   refine rd_if (tv_test (ev_isN (ev_var rfl))) (fun h=>absurd (of_decide_eq_true h) (by intro z;cases z)) (fun h=>?_)
   refine ⟨?_,?_⟩
   · refine ⟨_,rfl,_,rfl,d,x,ps,b,rfl,S1.seq hB,by omega,hP,hfok t ps hps,fun y hy=>Rz_EE ⟨ps,y,hps,hy,rfl,rfl⟩,fun y hy H2 xb p S2 hBt hpp=>?_⟩
     rw [hy] at q1
     refine ⟨Nat.zero_le _,fun L hL=>⟨_,rfl,by show 2<=sizeLine;decide,fun T hT=>q1 y rfl _ T L xb p upd_same ?_ ⟨ps,rfl,hpp⟩⟩⟩
     exact hBt.same (((Same.refl H2).laid hL).trans ((Same.refl _).laid hT))
   · rintro σ' H' a dx k' p' ⟨ps',y,h1,h2,rfl,rfl⟩ hσ ha hdx
     rw [hps] at h1
     injection h1 with h1
     subst h1
     rw [h2] at q0
     refine ⟨_,hσ,a,dx,_,_,rfl,ha,hdx,look_hit,_,hσ,a,dx,_,_,rfl,ha,hdx,(look_ne (by decide +kernel)).trans look_hit,by show 3<=sizeLine;decide,fun L hL=>⟨by show 2<=sizeLine;decide,fun T hT=>?_⟩⟩
     exact q0 _ rfl _ T L upd_same (by rw [upd_ne (fun z=>by rw [← z,upd_same] at hT;cases hT)];exact upd_same)
end
end Bw
namespace L2
open PySem PySem.Spec PyProof.Rows
theorem paired_of {α β:Type}{F:α->β->Prop}:∀ {l₁:List α} {l₂:List β},l₁.length=l₂.length->(∀ (i:Nat) x y,l₁[i]?=some x->l₂[i]?=some y->F x y)->Paired F l₁ l₂
 | [],[],_,_=>.nil
 | x::l₁,y::l₂,h,g=>.cons (g 0 x y rfl rfl) (paired_of (by simpa using h) fun i a b h1 h2=>g (i+1) a b (by simpa using h1) (by simpa using h2))
 | [],_::_,h,_=>by simp at h
 | _::_,[],h,_=>by simp at h
section
variable {X:Cx}
theorem cr_rng:CallR X (.type "range") (fun xs H Q=>∃ i j:Int,xs=[.int i,.int j]/\∀ p,H p=none->Q (.ref p) (upd H p (.rng i j))):=by
 intro pins s σ H xs us Q I r h
 obtain ⟨i,j,rfl,q⟩:=h
 cases r with
 | cons r rr =>
  cases rr with
  | cons r' rr =>
   cases rr
   obtain ⟨t,rfl⟩:=r
   obtain ⟨t',rfl⟩:=r'
   refine call_range_2 ⟨.ref s.heap.objs.size,_,I.laid (t':=s.toks+1) (fun b o e=>Heap.get?_push_of_some _ e) (Nat.le_refl _) (show ObjOk X.prog X.w _ _ _ (.rng i j) from ⟨t,t',_,Heap.get?_push_size _ rfl⟩),rfl,q _ (I.hok.fresh (Nat.le_refl _))⟩
def rngL (i:Int)(n:Nat):List V:=(List.range n).map fun (k:Nat)=>V.int (i+(k:Int))
theorem cr_list_rng (hc:X.calm=true):CallR X (.type "list") (fun xs H Q=>∃ (p:Addr) (i j:Int),xs=[.ref p]/\H p=some (.rng i j)/\(-(2 ^ 62)<=i/\i < 2 ^ 62/\-(2 ^ 62)<=j/\j < 2 ^ 62)/\(j - i).toNat<=100000/\∀ l,H l=none->Q (.ref l) (upd H l (.lst (rngL i (j - i).toNat)))):=by
 intro pins s σ H xs us Q I r h
 obtain ⟨p,i,j,rfl,hp,⟨h1,h2,h3,h4⟩,hn,q⟩:=h
 rw [Vals.ref1 r]
 obtain ⟨t,u,v,e⟩:=I.hok p _ hp
 refine call_list_range (I.ok.hd hc) e (small_one h1 h2 h3 h4) (n:=(j - i).toNat) (by rw [rangeSize_one];split <;> omega) (by omega) fun h' tk acc c' kp he it=>?_
 have rv:Vals (rngL i (j - i).toNat) acc.toList:=by
  unfold rngL
  refine paired_of (by rw [List.length_map,List.length_range,Array.length_toList,it.1]) fun m x y hx hy=>?_
  rw [List.getElem?_map] at hx
  obtain ⟨m',hm',rfl⟩:=Option.map_eq_some_iff.mp hx
  have em:m'=m:=by
   have:=List.getElem?_eq_some_iff.mp hm'
   obtain ⟨_,z⟩:=this
   rw [List.getElem_range] at z
   exact z.symm
  subst em
  obtain ⟨t,rfl⟩:=it.2 m' y (by simpa using hy)
  rw [Int.mul_one]
  exact ⟨t,rfl⟩
 have hl:(rngL i (j - i).toNat).length<=sizeLine:=by
  unfold rngL
  rw [List.length_map,List.length_range,sizeLine_eq]
  omega
 exact ⟨.ref s.heap.objs.size,_,I.laid (t':=tk) kp (Nat.le_refl _) (show ObjOk X.prog X.w _ h' _ (.lst _) from ⟨hl,acc.toList,c',rv,by simpa using he⟩),rfl,q _ (I.hok.fresh (Nat.le_refl _))⟩
end
end L2
namespace Bw
open PySem PySem.Spec PyProof.Rows L2 Tote
structure GN (mg:Str->Option Value):Prop where
 range:mg "range"=none
 list:mg "list"=none
 tuple:mg "tuple"=none
 sorted:mg "sorted"=none
 sum:mg "sum"=none
 runners:Gv mg "MOST_RUNNERS" (.int 24)
theorem prod_snoc (l:List Nat)(x:Nat):product (l++[x])=product l*x:=by
 unfold product
 rw [List.foldl_append]
 rfl
theorem rows_small:∀ k < 7,0 < rowsAmong k k/\rowsAmong k k < 1073741824:=by decide +kernel
section
variable {P:Program}{w:World}{K:PySem.W.Frag}{mg:Str->Option Value}{base:Heap}
def spProd (K:PySem.W.Frag):Sp:=fun vs H Q _=>∃ (a:Addr) (ns:List Nat),vs=[.ref a]/\SqL K H a (nV ns)/\(∀ n∈ns,n < 1000000)/\∀ H',Same H H'->Q (.int (product ns:Nat)) H'
theorem sc_prod:FnScope ["numbers","product","number"] ["numbers"] (defScope f_product_of):=⟨rfl,rfl,rfl,by decide +kernel,rfl,by decide +kernel,by decide +kernel⟩
theorem ok_prod {f:Addr}{fd:FuncData}(F:Fun K "product_of" "product_of" f_product_of f fd):FnOk P w K mg base CX0 1 f fd ["numbers"] (spProd K):=by
 refine F.ok sc_prod (fun vs H Q E h=>?_) (fun cdv A outer s H vs Q E hr h=>?_)
 · obtain ⟨_,_,rfl,_⟩:=h
   rfl
 · obtain ⟨a,ns,rfl,hS,hn,q⟩:=h
   refine ⟨_,pss_cons (ps_set (i:=1) sc_prod.nd rfl (Or.inl rfl) pe_int)
    (pss_cons (ps_for PassesOwn.never rfl (pi_list (pv 0)) (pg_name (i:=2) sc_prod.nd rfl (Or.inl rfl)) (pss_one (ps_aug (i:=1) sc_prod.nd rfl (Or.inl rfl) (pv 2) iop_mul)))
    (pss_one (ps_ret (pv 1)))),?_⟩
   refine rd_set ev_c ?_
   refine ⟨_,rfl,a,rfl,⟨_,hS⟩,for_list (K:=K) (a:=a) (xs:=nV ns) (fun i σ H'=>∃ v2:Option V,σ=[some (.ref a),some (.int (product (ns.take i):Nat)),v2]/\Same H H') ⟨none,rfl,Same.refl H⟩ (fun i σ H' _ ⟨_,_,S⟩=>S.seq hS) ?_ ?_⟩
   · rintro i x σ H' hi ⟨v2,rfl,S⟩
     unfold nV at hi
     rw [List.getElem?_map] at hi
     obtain ⟨n,hni,rfl⟩:=Option.map_eq_some_iff.mp hi
     have:=hn n (List.mem_of_getElem? hni)
     refine ⟨_,rfl,_,rfl,_,_,rfl,rfl,.inr ⟨by omega,by omega⟩,some (.int (n:Nat)),?_,S⟩
     rw [take_snoc hni,prod_snoc,Int.natCast_mul]
     rfl
   · rintro σ H' ⟨v2,rfl,S⟩
     rw [nV_len,List.take_length]
     exact ⟨_,rfl,q H' S⟩
def spRows:Sp:=fun vs H Q _=>∃ n k:Nat,vs=[.int (n:Nat),.int (k:Nat)]/\k<=n/\n<=1000/\∀ H',Same H H'->Q (.int (rowsAmong n k:Nat)) H'
theorem sc_rows:FnScope ["many","size"] ["many","size"] (defScope f_rows_among):=⟨rfl,rfl,rfl,by decide +kernel,rfl,by decide +kernel,by decide +kernel⟩
theorem rngL_eq {n k:Nat}(h:k<=n):rngL ((n:Int) - (k:Int)+1) (((n:Int)+1) - ((n:Int) - (k:Int)+1)).toNat=nV ((List.range k).map fun i=>n - k+1+i):=by
 unfold rngL nV
 rw [show (((n:Int)+1) - ((n:Int) - (k:Int)+1)).toNat=k by omega,List.map_map]
 refine List.map_congr_left fun i _=>?_
 show V.int _=V.int _
 congr 1
 show _=(((n - k+1+i:Nat)):Int)
 omega
theorem ok_rows (N:GN mg){k:Nat}(FP:Fn P w K mg base CX0 k "product_of" ["numbers"] (spProd K)){f:Addr}{fd:FuncData}(F:Fun K "rows_among" "rows_among" f_rows_among f fd):FnOk P w K mg base CX0 (k+1) f fd ["many","size"] spRows:=by
 refine F.ok sc_rows (fun vs H Q E h=>?_) (fun cdv A outer s H vs Q E hr h=>?_)
 · obtain ⟨_,_,rfl,_⟩:=h
   rfl
 · obtain ⟨n,m,rfl,hmn,hn,q⟩:=h
   refine ⟨_,pss_one (ps_ret (pe_fn FP hr pass0 (pa_cons (pe_callTy (cr_list_rng rfl) (by rfl) N.list (by decide +kernel) (pa_cons (pe_callTy cr_rng (by rfl) N.range (by decide +kernel) (pa_cons (pe_op op_add (pe_op op_sub (pv 0) (pv 1)) pe_int) (pa_cons (pe_op op_add (pv 0) pe_int) pa_nil))) pa_nil)) pa_nil))),?_⟩
   refine rd_rt ?_
   refine (ev_add (ev_sub (ev_var rfl) (ev_var rfl)) ev_c) _ ((ev_add (ev_var rfl) ev_c) _ ⟨_,_,rfl,fun p hp=>?_⟩)
   refine ⟨p,_,_,rfl,upd_same,by omega,by omega,fun l hl=>?_⟩
   rw [rngL_eq hmn]
   refine ⟨l,_,rfl,SqL.of upd_same,fun x hx=>?_,fun H' S=>q H' (((Same.refl H).laid hp).trans ((((Same.refl _).laid hl)).trans S))⟩
   obtain ⟨i,hi,rfl⟩:=List.mem_map.mp hx
   have:=List.mem_range.mp hi
   omega
def spPicks:Sp:=fun vs H Q _=>∃ n k:Nat,vs=[.int (n:Nat),.int (k:Nat)]/\k<=n/\n<=1000/\k<=6/\∀ H',Same H H'->Q (.int (picksAmong n k:Nat)) H'
theorem sc_picks:FnScope ["many","size"] ["many","size"] (defScope f_picks_among):=⟨rfl,rfl,rfl,by decide +kernel,rfl,by decide +kernel,by decide +kernel⟩
theorem ok_picks {k:Nat}(FR:Fn P w K mg base CX0 k "rows_among" ["many","size"] spRows){f:Addr}{fd:FuncData}(F:Fun K "picks_among" "picks_among" f_picks_among f fd):FnOk P w K mg base CX0 (k+1) f fd ["many","size"] spPicks:=by
 refine F.ok sc_picks (fun vs H Q E h=>?_) (fun cdv A outer s H vs Q E hr h=>?_)
 · obtain ⟨_,_,rfl,_⟩:=h
   rfl
 · obtain ⟨n,m,rfl,hmn,hn,h6,q⟩:=h
   refine ⟨_,pss_one (ps_ret (pe_op op_fdiv (pe_fn FR hr pass0 (pa_cons (pv 0) (pa_cons (pv 1) pa_nil))) (pe_fn FR hr pass0 (pa_cons (pv 1) (pa_cons (pv 1) pa_nil))))),?_⟩
   refine rd_rt ?_
   have sm:=rows_small m (by omega)
   refine ⟨_,rfl,_,rfl,n,m,rfl,hmn,hn,fun H1 S1=>⟨_,rfl,_,rfl,m,m,rfl,Nat.le_refl _,by omega,fun H2 S2=>⟨_,_,rfl,rfl,⟨by omega,by omega⟩,?_⟩⟩⟩
   have e:((rowsAmong n m:Nat):Int) / ((rowsAmong m m:Nat):Int)=((picksAmong n m:Nat):Int):=by
    unfold picksAmong
    rw [Int.natCast_ediv]
   show Q (V.int (((rowsAmong n m:Nat):Int) / ((rowsAmong m m:Nat):Int))) H2
   rw [e]
   exact q H2 (S1.trans S2)
def spCBox (K:PySem.W.Frag):Sp:=fun vs H Q _=>∃ (kd:Tote.Kind) (k:Nat) (a:Addr) (ns:List Nat),vs=[.str (st (cd (kindS kd))),.int (k:Nat),.ref a]/\SqL K H a (nV ns)/\k<=ns.length/\ns.length<=1000/\k<=6/\∀ H',Same H H'->Q (.int (countM kd .box k [ns]:Nat)) H'
theorem sc_cbox:FnScope ["kind","size","numbers"] ["kind","size","numbers"] (defScope f_count_box):=⟨rfl,rfl,rfl,by decide +kernel,rfl,by decide +kernel,by decide +kernel⟩
theorem ok_cbox (G:GW mg){k:Nat}(FR:Fn P w K mg base CX0 k "rows_among" ["many","size"] spRows)(FP:Fn P w K mg base CX0 k "picks_among" ["many","size"] spPicks){f:Addr}{fd:FuncData}(F:Fun K "count_box" "count_box" f_count_box f fd):FnOk P w K mg base CX0 (k+1) f fd ["kind","size","numbers"] (spCBox K):=by
 refine F.ok sc_cbox (fun vs H Q E h=>?_) (fun cdv A outer s H vs Q E hr h=>?_)
 · obtain ⟨_,_,_,_,rfl,_⟩:=h
   rfl
 · obtain ⟨kd,m,a,ns,rfl,hS,hmn,hn,h6,q⟩:=h
   refine ⟨_,pss_cons (ps_if (pt_cmpR op_eq (pv 0) pe_str (nomark _)) (pss_one (ps_ret (pe_fn FR hr pass0 (pa_cons (pe_callB call_len_seq (by rfl) G.len PySem.boot_len (pa_cons (pv 2) pa_nil)) (pa_cons (pv 1) pa_nil))))) pss_nil)
    (pss_one (ps_ret (pe_fn FP hr pass0 (pa_cons (pe_callB call_len_seq (by rfl) G.len PySem.boot_len (pa_cons (pv 2) pa_nil)) (pa_cons (pv 1) pa_nil))))),?_⟩
   refine rd_if (tv_test (ev_eq (ev_var rfl) ev_c)) (fun h=>?_) (fun h=>?_)
   · rw [kind_lit] at h
     have e:kd=.order:=by
      cases kd <;> first|rfl|(exact absurd (of_decide_eq_true h) (by decide))
     subst e
     exact ⟨_,rfl,a,nV ns,rfl,.inl hS,_,rfl,ns.length,m,by rw [nV_len];rfl,hmn,hn,fun H' S=>q H' S⟩
   · rw [kind_lit] at h
     have e:countM kd .box m [ns]=picksAmong ns.length m:=by
      cases kd <;> first|rfl|(exact absurd (of_decide_eq_false h) (by decide))
     rw [e] at q
     exact ⟨_,rfl,a,nV ns,rfl,.inl hS,_,rfl,ns.length,m,by rw [nV_len];rfl,hmn,hn,h6,fun H' S=>q H' S⟩
def spCKey (K:PySem.W.Frag):Sp:=fun vs H Q _=>∃ (kd:Tote.Kind) (k:Nat) (a b:Addr) (ns ms:List Nat),vs=[.str (st (cd (kindS kd))),.int (k:Nat),.ref a,.ref b]/\SqL K H a (nV ns)/\SqL K H b (nV ms)/\ns.length < k/\k<=ns.length+ms.length/\ms.length<=1000/\k<=6/\∀ H',Same H H'->Q (.int (countM kd .key k [ns,ms]:Nat)) H'
theorem sc_ckey:FnScope ["kind","size","bankers","others","picks"] ["kind","size","bankers","others"] (defScope f_count_key):=⟨rfl,rfl,rfl,by decide +kernel,rfl,by decide +kernel,by decide +kernel⟩
theorem ok_ckey (G:GW mg){k:Nat}(FR:Fn P w K mg base CX0 k "rows_among" ["many","size"] spRows)(FP:Fn P w K mg base CX0 k "picks_among" ["many","size"] spPicks){f:Addr}{fd:FuncData}(F:Fun K "count_key" "count_key" f_count_key f fd):FnOk P w K mg base CX0 (k+1) f fd ["kind","size","bankers","others"] (spCKey K):=by
 refine F.ok sc_ckey (fun vs H Q E h=>?_) (fun cdv A outer s H vs Q E hr h=>?_)
 · obtain ⟨_,_,_,_,_,_,rfl,_⟩:=h
   rfl
 · obtain ⟨kd,m,a,b,ns,ms,rfl,hS,hM,hmn,hmm,hn,h6,q⟩:=h
   refine ⟨_,pss_cons (ps_set (i:=4) sc_ckey.nd rfl (Or.inl rfl) (pe_fn FP hr pass0 (pa_cons (pe_callB call_len_seq (by rfl) G.len PySem.boot_len (pa_cons (pv 3) pa_nil)) (pa_cons (pe_op op_sub (pv 1) (pe_callB call_len_seq (by rfl) G.len PySem.boot_len (pa_cons (pv 2) pa_nil))) pa_nil))))
    (pss_cons (ps_if (pt_cmpR op_eq (pv 0) pe_str (nomark _)) (pss_one (ps_ret (pe_op op_mul (pv 4) (pe_fn FR hr pass0 (pa_cons (pv 1) (pa_cons (pv 1) pa_nil)))))) pss_nil)
    (pss_one (ps_ret (pv 4)))),?_⟩
   refine ⟨_,rfl,b,nV ms,rfl,.inl hM,_,rfl,_,rfl,a,nV ns,rfl,.inl hS,_,_,rfl,rfl,ms.length,m - ns.length,?_,by omega,hn,by omega,fun H1 S1=>?_⟩
   · rw [nV_len,nV_len]
     show [V.int _,V.int _]=[V.int _,V.int _]
     congr 2
     congr 1
     omega
   refine rd_if (tv_test (ev_eq (ev_var rfl) ev_c)) (fun h=>?_) (fun h=>?_)
   · rw [kind_lit] at h
     have e:kd=.order:=by
      cases kd <;> first|rfl|(exact absurd (of_decide_eq_true h) (by decide))
     subst e
     have sm:=rows_small m (by omega)
     refine ⟨_,rfl,_,rfl,_,rfl,m,m,rfl,Nat.le_refl _,by omega,fun H2 S2=>⟨_,_,rfl,rfl,.inr ⟨by omega,by omega⟩,?_⟩⟩
     have:=q H2 (S1.trans S2)
     have e:(countM .order .key m [ns,ms]:Nat)=picksAmong ms.length (m - ns.length)*rowsAmong m m:=rfl
     rw [e,Int.natCast_mul] at this
     exact this
   · rw [kind_lit] at h
     have e:countM kd .key m [ns,ms]=picksAmong ms.length (m - ns.length):=by
      cases kd <;> first|rfl|(exact absurd (of_decide_eq_false h) (by decide))
     rw [e] at q
     exact ⟨_,rfl,q H1 S1⟩
end
structure SOk (ss:List (List Nat)):Prop where
 len:ss.length<=6
 good:∀ s∈ss,Rises s/\∀ x∈s,x<=24
section
variable {P:Program}{w:World}{K:PySem.W.Frag}{mg:Str->Option Value}{base:Heap}
def spOrd (K:PySem.W.Frag):Sp:=fun vs H Q _=>∃ (a:Addr) (ss:List (List Nat)),vs=[.ref a]/\ListsAt K H a ss/\SOk ss/\∀ H',Same H H'->Q (.int (cntA ss upTo24:Nat)) H'
def spPicksOf (K:PySem.W.Frag):Sp:=fun vs H Q _=>∃ (a:Addr) (ss:List (List Nat)),vs=[.ref a]/\ListsAt K H a ss/\SOk ss/\ss.length<=3/\∀ H' x vs,Same H H'->H' x=some (.lst vs)->vs.length=(picksOf ss).length->Q (.ref x) H'
def spCOn (K:PySem.W.Frag):Sp:=fun vs H Q _=>∃ (kd:Tote.Kind) (a:Addr) (ss:List (List Nat)),vs=[.str (st (cd (kindS kd))),.ref a]/\ListsAt K H a ss/\(∀ s∈ss,s.length<=100)/\ss.length<=6/\(kd=.order∨kd=.any->SOk ss)/\(kd=.any->ss.length<=3) /\
 ∀ H',Same H H'->∀ k,Q (.int (countM kd .on k ss:Nat)) H'
theorem sc_con:FnScope ["kind","sets","numbers"] ["kind","sets"] (defScope f_count_on):=⟨rfl,rfl,rfl,by decide +kernel,rfl,by decide +kernel,by decide +kernel⟩
theorem ok_con (G:GW mg){k:Nat}(FO:Fn P w K mg base CX0 k "count_orders" ["sets"] (spOrd K))(FP:Fn P w K mg base CX0 k "picks_of" ["sets"] (spPicksOf K))(FQ:Fn P w K mg base CX0 k "product_of" ["numbers"] (spProd K)){f:Addr}{fd:FuncData}(F:Fun K "count_on" "count_on" f_count_on f fd):FnOk P w K mg base CX0 (k+1) f fd ["kind","sets"] (spCOn K):=by
 refine F.ok sc_con (fun vs H Q E h=>?_) (fun cdv A outer s H vs Q E hr h=>?_)
 · obtain ⟨_,_,_,rfl,_⟩:=h
   rfl
 · obtain ⟨kd,a,ss,rfl,hL,h100,h6,hS,h3,q⟩:=h
   refine ⟨_,pss_cons (ps_if (pt_cmpR op_eq (pv 0) pe_str (nomark _)) (pss_one (ps_ret (pe_fn FO hr pass0 (pa_cons (pv 1) pa_nil)))) pss_nil)
    (pss_cons (ps_if (pt_cmpR op_eq (pv 0) pe_str (nomark _)) (pss_one (ps_ret (pe_callB call_len_seq (by rfl) G.len PySem.boot_len (pa_cons (pe_fn FP hr pass0 (pa_cons (pv 1) pa_nil)) pa_nil)))) pss_nil)
    (pss_one (ps_ret (pe_fn FQ hr pass0 (pa_cons (pe_lc (te:=tCB (fun xs H Q=>∃ p ys,xs=[.ref p]/\(SqL K H p ys∨SqT K H p ys)/\Q (.int ys.length) H) (tCons (tVar 2) tNil)) rfl sc_con.nd (pi_list (pv 1)) (blkOk_by (own:=[("numbers",2)]) rfl) (fun _ _ _ _ _=>pg_name (i:=2) sc_con.nd rfl (Or.inl rfl)) (fun _ _ _ _ _=>pts_nil)
     (fun _ _ _ _ _=>pe_callB call_len_seq (by rfl) G.len PySem.boot_len (pa_cons (pv 2) pa_nil))) pa_nil))))),?_⟩
   refine rd_if (tv_test (ev_eq (ev_var rfl) ev_c)) (fun h=>?_) (fun h=>?_)
   · rw [kind_lit] at h
     have e:kd=.order:=by
      cases kd <;> first|rfl|(exact absurd (of_decide_eq_true h) (by decide))
     subst e
     exact ⟨_,rfl,a,ss,rfl,hL,hS (.inl rfl),fun H' S=>q H' S 0⟩
   rw [kind_lit] at h
   have hno:kd≠.order:=by
    rintro rfl
    exact absurd (of_decide_eq_false h) (by decide)
   refine rd_if (tv_test (ev_eq (ev_var rfl) ev_c)) (fun h=>?_) (fun h=>?_)
   · rw [kind_lit] at h
     have e:kd=.any:=by
      cases kd <;> first|rfl|(exact absurd (of_decide_eq_true h) (by decide))
     subst e
     refine ⟨_,rfl,a,ss,rfl,hL,hS (.inr rfl),h3 rfl,fun H' x vs S hx hl=>⟨x,_,rfl,.inl (SqL.of hx),?_⟩⟩
     rw [hl]
     exact q H' S 0
   rw [kind_lit] at h
   have hna:kd≠.any:=by
    rintro rfl
    exact absurd (of_decide_eq_false h) (by decide)
   have e:countM kd .on 0 ss=product (ss.map List.length):=by
    cases kd <;> first|rfl|(exact absurd rfl hno)|(exact absurd rfl hna)
   have q:=fun H' S=>q H' S 0
   rw [e] at q
   obtain ⟨as,hA,hP⟩:=hL
   have lenA:as.length=ss.length:=Paired.length hP
   refine ⟨_,rfl,a,rfl,⟨_,hA⟩,fun D hD=>lc_list (K:=K) (a:=a) (xs:=as.map V.ref) (fun i H'=>Same H H'/\H' D=some (.lst (nV ((ss.take i).map List.length)))) ⟨(Same.refl H).laid hD,upd_same⟩ (fun i H' _ h=>h.1.seq hA) ?_ ?_⟩
   · rintro i v H' hi ⟨k1,k2⟩
     rw [List.getElem?_map] at hi
     obtain ⟨ai,hai,rfl⟩:=Option.map_eq_some_iff.mp hi
     obtain ⟨si,hsi,hI⟩:=Paired.at1 hP hai
     refine ⟨rfl,?_⟩
     refine ⟨_,rfl,ai,nV si,rfl,.inl (k1.seq hI),_,k2,?_,?_,?_⟩
     · rw [nV_len,List.length_map,List.length_take,sizeLine_eq]
       omega
     · intro b u z
       rw [upd_ne (ne_of_none z hD)]
       exact k1 b u z
     · rw [upd_same,take_snoc hsi,List.map_append,nV_len]
       unfold nV
       rw [List.map_append]
       rfl
   · rintro H' ⟨k1,k2⟩
     have k2:H' D=some (.lst (nV ((ss.take (as.map V.ref).length).map List.length))):=k2
     rw [List.length_map,lenA,List.take_length] at k2
     refine ⟨D,_,rfl,SqL.of k2,fun n hn=>?_,fun H2 S2=>q H2 (k1.trans S2)⟩
     obtain ⟨s0,hs0,rfl⟩:=List.mem_map.mp hn
     have:=h100 s0 hs0
     omega
theorem sc_cof:FnScope ["pool","how","sets","size"] ["pool","how","sets"] (defScope f_count_of):=⟨rfl,rfl,rfl,by decide +kernel,rfl,by decide +kernel,by decide +kernel⟩
end
theorem rd_retC {sp:Sp}{dvs:List V}{E:XK}{te:TE}{t:TA}{D:Ends}{σ:L2.St}{H:Hp}{v:V}(h:Ev te σ H v)(q:t σ H fun xs H2=>sp ((v::xs)++dvs) H2 D.rt E):tRet (tCall sp dvs E (tCons te t)) D σ H:=h _ q
section
variable {P:Program}{w:World}{K:PySem.W.Frag}{mg:Str->Option Value}{base:Heap}
theorem ok_cof {CP aW:Addr} (G:GW mg) (B:GB K mg aW) (TP:CK K mg "Pool" poolFs CP) {k:Nat} (FO:Fn P w K mg base CX0 k "count_on" ["kind","sets"] (spCOn K)) (FB:Fn P w K mg base CX0 k "count_box" ["kind","size","numbers"] (spCBox K)) (FK:Fn P w K mg base CX0 k "count_key" ["kind","size","bankers","others"] (spCKey K))
  {f:Addr} {fd:FuncData} (F:Fun K "count_of" "count_of" f_count_of f fd):FnOk P w K mg base CX0 (k+1) f fd ["pool","how","sets"] (spCof K CP):=by
 refine F.ok sc_cof (fun vs H Q E h=>?_) (fun cdv A outer s H vs Q E hr h=>?_)
 · obtain ⟨_,_,_,_,_,rfl,_⟩:=h
   rfl
 · obtain ⟨pa,sa,p,how,sets,rfl,⟨dp,fa,hpa,⟨fas,hFa,hFp⟩⟩,hSa,m,q⟩:=h
   refine ⟨_,pss_cons (ps_if (pt_cmpR op_eq (pv 1) (pe_gv B.on) (nomark _)) (pss_one (ps_ret (pe_fn FO hr pass0 (pa_cons (pe_fld (pv 0) rfl) (pa_cons (pv 2) pa_nil))))) pss_nil)
    (pss_cons (ps_set (i:=3) sc_cof.nd rfl (Or.inl rfl) (pe_callB call_len_seq (by rfl) G.len PySem.boot_len (pa_cons (pe_fld (pv 0) rfl) pa_nil)))
    (pss_cons (ps_if (pt_cmpR op_eq (pv 1) (pe_gv B.box) (nomark _)) (pss_one (ps_ret (pe_fn FB hr pass0 (pa_cons (pe_fld (pv 0) rfl) (pa_cons (pv 3) (pa_cons (pe_ix ix_list (pv 2) pe_int (fun _ _=>rfl)) pa_nil)))))) pss_nil)
    (pss_one (ps_ret (pe_fn FK hr pass0 (pa_cons (pe_fld (pv 0) rfl) (pa_cons (pv 3) (pa_cons (pe_ix ix_list (pv 2) pe_int (fun _ _=>rfl)) (pa_cons (pe_ix ix_list (pv 2) pe_int (fun _ _=>rfl)) pa_nil))))))))),?_⟩
   have lenF:fas.length=p.fields.length:=Paired.length hFp
   refine rd_if (tv_test (ev_eq (ev_var rfl) ev_c)) (fun h=>?_) (fun h=>?_)
   · rw [dec_int] at h
     have h:how=0:=by have:=eq_of_beq h;omega
     obtain ⟨h1,h2⟩:=m.on h
     rw [hw_on.mpr h] at q
     refine rd_retC (ev_fld (ev_var rfl) hpa TP.cl (TP.no _ (by simp)) fPool_kind) ⟨_,rfl,p.kind,sa,sets,rfl,hSa,fun s hs=>?_,by rw [h1];exact m.ok.six,fun _=>⟨by rw [h1];exact m.ok.six,h2⟩,fun z=>by rw [h1];exact m.ok.any3 z,fun H' S k'=>q H' S⟩
     have:=rises_25 (h2 s hs).1 (h2 s hs).2
     omega
   rw [dec_int] at h
   have h0:how≠0:=fun z=>by rw [z] at h;cases h
   obtain ⟨as,hA,hP⟩:=hSa
   refine rd_set (ev_lenQ (ev_fld (ev_var rfl) hpa TP.cl (TP.no _ (by simp)) fPool_fields) (.inl hFa)) ?_
   rw [List.length_map,lenF]
   refine rd_if (tv_test (ev_eq (ev_var rfl) ev_c)) (fun h=>?_) (fun h=>?_)
   · rw [dec_int] at h
     have h:how=1:=by have:=eq_of_beq h;omega
     obtain ⟨t,e,h2,h3⟩:=m.box h
     rw [hw_box.mpr h] at q
     rw [e] at hP q
     cases hP with
     | cons hI hn =>
      cases hn
      rename_i a0
      refine rd_retC (ev_fld (ev_var rfl) hpa TP.cl (TP.no _ (by simp)) fPool_kind) ⟨_,rfl,(ev_ixL (ev_var rfl) ev_c hA (v:=.ref a0) rfl) _ ⟨p.kind,p.fields.length,a0,t,rfl,hI,h2,by omega,m.ok.six,q⟩⟩
   rw [dec_int] at h
   have h1:how≠1:=fun z=>by rw [z] at h;cases h
   obtain ⟨t,u,e,h2,h3,h4⟩:=m.key h0 h1
   rw [hw_key.mpr ⟨h0,h1⟩] at q
   rw [e] at hP q
   cases hP with
   | cons hI hn =>
    cases hn with
    | cons hJ hn =>
     cases hn
     rename_i a0 a1
     refine rd_retC (ev_fld (ev_var rfl) hpa TP.cl (TP.no _ (by simp)) fPool_kind) ⟨_,rfl,(ev_ixL (ev_var rfl) ev_c hA (v:=.ref a0) rfl) _ ((ev_ixL (ev_var rfl) ev_c hA (v:=.ref a1) rfl) _ ⟨p.kind,p.fields.length,a0,a1,t,u,rfl,hI,hJ,h2,h3,by omega,m.ok.six,q⟩)⟩
end
end Bw
namespace L2
open PySem PySem.Spec PyProof.Rows
def rGetL (K:PySem.W.Frag):V->V->Hp->VK->Prop:=fun o i H Q=>∃ (p:Addr) (xs:List V) (k:Nat) (v:V),o=.ref p/\i=.int (k:Nat)/\SqL K H p xs/\xs[k]?=some v/\Q v H
theorem get_list {X:Cx}:PGet X (rGetL X.K):=by
 intro pins s σ H o i ov iv Q I ro ri h
 obtain ⟨p,xs,k,v,rfl,rfl,hq,he,q⟩:=h
 cases ro
 obtain ⟨t,rfl⟩:=ri
 obtain ⟨its,r,pl,hz⟩:=I.list hq
 obtain ⟨w,ew,rw'⟩:=r.get he
 have hl:=r.length
 have hk:=(List.getElem?_eq_some_iff.mp he).1
 have hn:=line63
 exact wpAny_getItem_list pl.isList (by omega) (by omega) (by simpa using ew) ⟨v,H,I,rw',q⟩
theorem lc_enum {K:PySem.W.Frag}{a:Addr}{xs:List V}{g:TG}{tt:TT}{te:TE}{vs:List Nat}{σ:L2.St}{H1:Hp}{D:Addr}{Qd:Hp->Prop}(Pv:Nat->Hp->Prop)(h0:Pv 0 (upd H1 D (.lst [])))(hl:∀ i H,i<=xs.length->Pv i H->SqL K H a xs)
  (hs:∀ i x H T,xs[i]?=some x->Pv i H->H T=none->g (.ref T) (wipe σ vs) (upd H T (.tup [.int (i:Nat),x])) fun σ2 H2=>wipe σ2 vs=wipe σ vs/\tt σ2 H2 fun b H3 =>
   if b=true then te σ2 H3 fun y H4=>∃ acc,H4 D=some (.lst acc)/\acc.length < sizeLine/\Pv (i+1) (upd H4 D (.lst (acc++[y]))) else Pv (i+1) H3) (hd:∀ H,Pv xs.length H->Qd H) :
  ∃ W:Nat->Nat->Hp->Prop,(∃ m,W 0 m (upd H1 D (.lst [])))/\∀ i m H,W i m H ->
   ((Ite K a).stop i H/\Qd H)∨((Ite K a).go i H/\∃ Nx:Hp->Prop,(∀ H',Nx H'->∃ m',m' < m/\W (i+1) m' H')/\∀ x H',(Ite K a).yld i H x H'->g x (wipe σ vs) H' fun σ2 H2=>wipe σ2 vs=wipe σ vs/\tt σ2 H2 fun b H3 =>
    if b=true then te σ2 H3 fun y H4=>∃ acc,H4 D=some (.lst acc)/\acc.length < sizeLine/\Nx (upd H4 D (.lst (acc++[y]))) else Nx H3):=by
 refine ⟨fun i m H=>m=xs.length - i/\i<=xs.length/\Pv i H,⟨xs.length,by simp,Nat.zero_le _,h0⟩,?_⟩
 rintro i m H ⟨rfl,hi,p⟩
 have q:=hl i H hi p
 by_cases hlt:i < xs.length
 · refine .inr ⟨⟨xs,xs[i],q,by simp [hlt]⟩,Pv (i+1),fun H' p'=>⟨xs.length - (i+1),by omega,rfl,hlt,p'⟩,fun x H' y=>?_⟩
   obtain ⟨T,v,rfl,hT,rfl,hx⟩:=y
   exact hs i v _ T (hx xs q) p hT
 · have e:i=xs.length:=by omega
   subst e
   exact .inl ⟨⟨xs,q,Nat.le_refl _⟩,hd H p⟩
end L2
namespace Bw
open PySem PySem.Spec PyProof.Rows L2 Tote
theorem ev_shl {σ:L2.St}{H:Hp}{ta tb:TE}{i j:Int}(ha:Ev ta σ H (.int i))(hb:Ev tb σ H (.int j))(h:CPow i j):Ev (tOp (rI CPow fun i j=>.int (i*2 ^ j.toNat)) ta tb) σ H (.int (i*2 ^ j.toNat)):=fun _ r=>ha _ (hb _ ⟨i,j,rfl,rfl,h,r⟩)
theorem sum_cast:∀ l:List Nat,(l.map fun n=>((n:Nat):Int)).sum=((l.sum:Nat):Int)
 | []=>rfl
 | n::l=>by rw [List.map_cons,List.sum_cons,List.sum_cons,sum_cast l,Int.natCast_add]
section
variable {P:Program}{w:World}{K:PySem.W.Frag}{mg:Str->Option Value}{base:Heap}
theorem sc_ord:FnScope ["sets","full","ways","number","bits","mask","place","numbers","bit"] ["sets"] (defScope f_count_orders):=⟨rfl,rfl,rfl,by decide +kernel,rfl,by decide +kernel,by decide +kernel⟩
theorem ok_ord {aW:Addr}(G:GW mg)(B:GB K mg aW)(N:GN mg){f:Addr}{fd:FuncData}(F:Fun K "count_orders" "count_orders" f_count_orders f fd):FnOk P w K mg base CX0 1 f fd ["sets"] (spOrd K):=by
 refine F.ok sc_ord (fun vs H Q E h=>?_) (fun cdv A outer s H vs Q E hr h=>?_)
 · obtain ⟨_,_,rfl,_⟩:=h
   rfl
 · obtain ⟨a,ss,rfl,hL,hS,q⟩:=h
   refine ⟨_,pss_cons (ps_set (i:=1) sc_ord.nd rfl (Or.inl rfl) (pe_op op_sub (pe_op op_shl pe_int (pe_callB call_len_seq (by rfl) G.len PySem.boot_len (pa_cons (pv 0) pa_nil))) pe_int))
    (pss_cons (ps_set (i:=2) sc_ord.nd rfl (Or.inr rfl) (pe_op op_cat (pe_lst (pa_cons pe_int pa_nil)) (pe_lc rfl sc_ord.nd (pi_range1 rfl N.range (pa_cons (pv 1) pa_nil)) (blkOk_by (own:=[("mask",5)]) rfl) (fun _ _ _ _ _=>pg_name (i:=5) sc_ord.nd rfl (Or.inl rfl)) (fun _ _ _ _ _=>pts_nil) (fun _ _ _ _ _=>pe_int))))
    (pss_cons (ps_for PassesOwn.never rfl (pi_range2 rfl N.range (pa_cons pe_int (pa_cons (pe_op op_add (pe_gv N.runners) pe_int) pa_nil))) (pg_name (i:=3) sc_ord.nd rfl (Or.inr rfl))
     (pss_cons (ps_setLc (i:=4) (te:=tOp (rI CPow fun i j=>.int (i*2 ^ j.toNat)) (tC (.int 1)) (tVar 6)) (tt:=tTest (tOp (rIn K false) (tVar 3) (tVar 7))) (g:=gTup K 2 (gCons (gName 6) (gCons (gName 7) gNil))) rfl sc_ord.nd rfl rfl (sw_true rfl rfl rfl rfl) (pi_enum rfl B.enum (pa_cons (pv 0) pa_nil)) (blkOk_by (own:=[("place",6),("numbers",7)]) rfl) (fun _ _ _ _ _=>pg_tup rfl (pgs_cons (pg_name (i:=6) sc_ord.nd rfl (Or.inl rfl) (Or.inr rfl)) (pgs_cons (pg_name (i:=7) sc_ord.nd rfl (Or.inl rfl) (Or.inr rfl)) pgs_nil)))
       (fun _ _ _ _ _=>pts_one (pt_cmpR op_in_seq (pv 3) (pv 7) (by with_unfolding_all rfl))) (fun _ _ _ _ _=>pe_op op_shl pe_int (pv 6)))
     (pss_one (ps_for PassesOwn.never rfl (pi_range3 rfl N.range (pa_cons (pv 1) (pa_cons pe_int (pa_cons (pe_un un_neg pe_int) pa_nil)))) (pg_name (i:=5) sc_ord.nd rfl (Or.inr rfl))
      (pss_one (ps_augS (pv 2) (pv 5) get_list (pe_callB (cr_sum rfl) (by rfl) N.sum (by decide +kernel) (pa_cons (pe_lc (te:=tOp (rIxL K) (tVar 2) (tOp (rI0 fun i j=>.int (i - j)) (tVar 5) (tVar 8))) rfl sc_ord.nd (pi_list (pv 4)) (blkOk_by (own:=[("bit",8)]) rfl) (fun _ _ _ _ _=>pg_name (i:=8) sc_ord.nd rfl (Or.inl rfl))
       (fun _ _ _ _ _=>pts_one (pt_cmpR op_ne (pe_op op_and (pv 5) (pv 8)) pe_int (nomark _))) (fun _ _ _ _ _=>pe_ix ix_list (pv 2) (pe_op op_sub (pv 5) (pv 8)) (fun _ _=>rfl))) pa_nil)) ip_add set_list))))))
    (pss_one (ps_ret (pe_ix ix_list (pv 2) (pv 1) (fun _ _=>rfl)))))),?_⟩
   obtain ⟨as,hA,hP⟩:=hL
   have lenA:as.length=ss.length:=Paired.length hP
   have h6:=hS.len
   have hpow:0 < 2 ^ ss.length:=Nat.pow_pos (by decide)
   have hp64:2 ^ ss.length<=64:=Nat.le_trans (Nat.pow_le_pow_right (by decide) h6) (by decide)
   obtain ⟨f,hf⟩:∃ f,f=2 ^ ss.length - 1:=⟨_,rfl⟩
   have ef:(1:Int)*2 ^ ((as.map V.ref).length:Int).toNat - 1=((f:Nat):Int):=by
    rw [List.length_map,lenA,Int.toNat_natCast,hf,Int.one_mul]
    have:((2 ^ ss.length:Nat):Int)=2 ^ ss.length:=by rw [Int.natCast_pow];rfl
    omega
   have nd:∀ s∈ss,s.Nodup:=fun s hs=>(hS.good s hs).1.nodup
   refine rd_set (ev_sub (ev_shl ev_c (ev_lenQ (ev_var rfl) (.inl hA)) ⟨by omega,by rw [List.length_map];omega,by decide⟩) ev_c) ?_
   rw [ef]
   refine ⟨by show 1<=sizeLine;decide,fun p1 hp1=>?_⟩
   refine rd_lc (rd_rng1 (ev_var rfl) (by omega) (by omega) fun D0 hD0=>?_)
   have n10:p1≠D0:=by
    rintro rfl
    rw [upd_same] at hD0
    cases hD0
   have hD0':H D0=none:=by rwa [upd_ne n10.symm] at hD0
   rw [Int.toNat_natCast]
   refine lc_range (lo:=0) (n:=f) (fun i H'=>Same H H'/\H' p1=some (.lst [V.int 1])/\H' D0=some (.lst (nV (List.replicate i 0)))) ⟨((Same.refl H).laid hp1).laid hD0',by rw [upd_ne n10];exact upd_same,upd_same⟩ ?_ ?_
   · rintro i H' hi ⟨k0,k1,k2⟩
     refine ⟨rfl,?_⟩
     refine ⟨_,k2,by rw [nV_len,List.length_replicate,sizeLine_eq];omega,fun b u z=>?_,by rw [upd_ne n10];exact k1,?_⟩
     · rw [upd_ne (ne_of_none z hD0')]
       exact k0 b u z
     · rw [upd_same,List.replicate_succ']
       unfold nV
       rw [List.map_append]
       rfl
   rintro H1 ⟨S1,e1,e0⟩
   refine ⟨p1,D0,_,_,rfl,rfl,e1,e0,?_,fun wy hwy=>?_⟩
   · show 1+_<=_
     rw [nV_len,List.length_replicate,sizeLine_eq]
     omega
   have ewy:[V.int 1]++nV (List.replicate f 0)=nV (tab ss 1 f):=by
    rw [hf,← tab_first]
    unfold nV
    rw [List.map_append]
    rfl
   rw [ewy]
   have hwyH:H wy=none:=by
    cases hz:H wy with
    | none=>rfl
    | some o=>rw [S1 wy o hz] at hwy;cases hwy
   have S2:Same H (upd H1 wy (.lst (nV (tab ss 1 f)))):=fun b u z=>by
    rw [upd_ne (ne_of_none z hwyH)]
    exact S1 b u z
   refine rd_for (rd_rng2 ev_c (ev_add ev_c ev_c) (by omega) ?_)
   refine for_range (lo:=1) (n:=((24:Int)+1 - 1).toNat) (fun i σ H'=>∃ v3 v4 v5:Option V,σ=[some (.ref a),some (.int (f:Nat)),some (.ref wy),v3,v4,v5,none,none,none]/\Same H H'/\H' wy=some (.lst (nV (tab ss (i+1) f))))
    ⟨none,none,none,rfl,S2,upd_same⟩ ?_ ?_
   · rintro i σ H2 hi ⟨v3,v4,v5,rfl,S3,e3⟩
     have hi:i < 24:=hi
     have ex:(1:Int)+(i:Nat)=((i+1:Nat):Int):=by omega
     rw [ex]
     obtain ⟨x,hx⟩:∃ x,x=i+1:=⟨_,rfl⟩
     rw [← hx] at e3 ⊢
     refine ⟨_,rfl,a,_,rfl,S3.seq hA,fun D hD=>lc_enum (K:=K) (a:=a) (xs:=as.map V.ref) (fun j H'=>Same H2 H'/\H' D=some (.lst (nV (bitsOf x 1 (ss.take j))))) ⟨(Same.refl H2).laid hD,upd_same⟩ (fun j H' _ h=>(S3.trans h.1).seq hA) ?_ ?_⟩
     · rintro j v H' T hj ⟨k1,k2⟩ hT
       rw [List.getElem?_map] at hj
       obtain ⟨aj,haj,rfl⟩:=Option.map_eq_some_iff.mp hj
       obtain ⟨sj,hsj,hI⟩:=Paired.at1 hP haj
       have hjl:j < ss.length:=(List.getElem?_eq_some_iff.mp hsj).1
       have nTD:D≠T:=ne_of_none k2 hT
       have k1':Same H2 (upd H' T (.tup [.int (j:Nat),.ref aj])):=k1.trans ((Same.refl H').laid hT)
       have eb:=bits_snoc x (ss.take j) 1 sj
       rw [← take_snoc hsj] at eb
       refine ⟨T,_,rfl,SqT.of upd_same,rfl,_,_,rfl,_,_,rfl,rfl,rfl,?_⟩
       refine (tv_test (ev_in (neg:=false) (ev_var rfl) (ev_var rfl) (.inl ((S3.trans k1').seq hI)) rfl (flat_nV sj))) _ ?_
       have eI:inV (V.int (x:Nat)) (nV sj)=sj.contains x:=by
        rw [in_nV,Bool.eq_iff_iff,decide_eq_true_eq,List.contains_eq_mem,decide_eq_true_eq]
        exact ⟨fun ⟨m,h1,h2⟩=>by have:x=m:=by omega
                                 subst this;exact h1,fun h=>⟨x,h,rfl⟩⟩
       show if inV (V.int (x:Nat)) (nV sj)=true then _ else _
       rw [eI]
       refine ite2 (fun h=>?_) (fun h=>?_)
       · rw [if_pos h] at eb
         refine (ev_shl ev_c (ev_var rfl) ⟨by omega,by omega,by decide⟩) _ ⟨_,by rw [upd_ne nTD];exact k2,?_,?_,?_⟩
         · rw [nV_len]
           have:=bits_len x (ss.take j) 1
           rw [List.length_take] at this
           rw [sizeLine_eq]
           omega
         · intro b u z
           rw [upd_ne (ne_of_none z hD)]
           exact k1' b u z
         · rw [upd_same,eb]
           have e2:(1:Int)*2 ^ ((j:Nat):Int).toNat=((1*2 ^ (ss.take j).length:Nat):Int):=by
            rw [Int.toNat_natCast,List.length_take,Nat.min_eq_left (by omega),Int.one_mul,Nat.one_mul,Int.natCast_pow]
            rfl
           rw [e2]
           unfold nV
           rw [List.map_append]
           rfl
       · rw [if_neg h,List.append_nil] at eb
         exact ⟨k1',by rw [upd_ne nTD,eb];exact k2⟩
     rintro H3 ⟨k1,k2⟩
     have k2:H3 D=some (.lst (nV (bitsOf x 1 (ss.take (as.map V.ref).length)))):=k2
     rw [List.length_map,lenA,List.take_length] at k2
     obtain ⟨bits,hbits⟩:∃ bits,bits=bitsOf x 1 ss:=⟨_,rfl⟩
     rw [← hbits] at k2
     have nDw:D≠wy:=by
      rintro rfl
      rw [e3] at hD
      cases hD
     have e4:=k1 _ _ e3
     have S4:=S3.trans k1
     have hDH:H D=none:=by
      cases hz:H D with
      | none=>rfl
      | some o=>rw [S3 D o hz] at hD;cases hD
     refine rd_for (rd_rng3 (n:=f) (ev_var rfl) ev_c (ev_neg ev_c) ?_ ?_)
     · have:=RgC.neg (i:=(f:Int)) (j:=0) (by omega) (by omega) (by omega) (by omega)
       rw [show ((f:Int) - 0).toNat=f by omega] at this
       exact this
     refine for_rangeC (lo:=(f:Nat)) (c:=-1) (n:=f) (fun j σ H'=>∃ v5:Option V,σ=[some (.ref a),some (.int (f:Nat)),some (.ref wy),some (.int (x:Nat)),some (.ref D),v5,none,none,none]/\Same H H'/\H' wy=some (.lst (nV (mixT ss x f j)))/\H' D=some (.lst (nV bits)))
      ⟨v5,rfl,S4,by rw [mix_zero];exact e4,k2⟩ ?_ ?_
     · rintro j σ H4 hj ⟨v5,rfl,S5,e5,e6⟩
       obtain ⟨m,hm⟩:∃ m,m=f - j:=⟨_,rfl⟩
       have em:((f:Nat):Int)+((j:Nat):Int)*(-1)=((m:Nat):Int):=by omega
       rw [em]
       have hmf:m<=f:=by omega
       have old:(nV (mixT ss x f j))[m]?=some (.int (wayAt ss x m:Nat)):=by
        unfold nV
        rw [List.getElem?_map,mix_at hmf,if_neg (by omega)]
        rfl
       refine ⟨_,rfl,_,rfl,wy,_,m,_,rfl,rfl,SqL.of e5,old,?_⟩
       refine ⟨_,rfl,D,rfl,⟨_,SqL.of e6⟩,fun D2 hD2=>lc_list (K:=K) (a:=D) (xs:=nV bits) (fun t H'=>Same H4 H'/\H' D2=some (.lst (nV (((bits.take t).filter (hasBit m)).map fun b=>wayAt ss x (m - b))))) ⟨(Same.refl H4).laid hD2,upd_same⟩ (fun t H' _ h=>SqL.of (h.1 _ _ e6)) ?_ ?_⟩
       · rintro t v H' ht ⟨k3,k4⟩
         unfold nV at ht
         rw [List.getElem?_map] at ht
         obtain ⟨b,hb,rfl⟩:=Option.map_eq_some_iff.mp ht
         obtain ⟨pw,hpw,hbp⟩:=bits_pow x ss 1 b (by rw [← hbits];exact List.mem_of_getElem? hb)
         rw [Nat.one_mul] at hbp
         have hb0:0 < b:=by rw [hbp];exact Nat.pow_pos (by decide)
         refine ⟨rfl,?_⟩
         refine (tv_test (ev_ne (ev_i (f:=fun i j=>.int (Builtin.bitAnd i j)) (ev_var rfl) (ev_var rfl)) ev_c)) _ ?_
         have eA:(!decide (V.int (Builtin.bitAnd ((m:Nat):Int) ((b:Nat):Int))=V.int 0))=hasBit m b:=by
          rw [dec_int]
          have e1:Builtin.bitAnd ((m:Nat):Int) ((b:Nat):Int)=((m &&& b:Nat):Int):=by
           unfold Builtin.bitAnd
           rw [decide_eq_true (by omega:(0:Int)<=((m:Nat):Int)),decide_eq_true (by omega:(0:Int)<=((b:Nat):Int))]
           rfl
          rw [e1,Bool.eq_iff_iff,hbp,← and_pow,Bool.not_eq_true',beq_eq_false_iff_ne]
          omega
         rw [eA]
         refine ite2 (fun h=>?_) (fun h=>?_)
         · have hbm:=bit_le h hb0
           have at2:atI (nV (mixT ss x f j)) (((m:Nat):Int) - ((b:Nat):Int))=some (.int (wayAt ss x (m - b):Nat)):=by
            rw [show ((m:Nat):Int) - ((b:Nat):Int)=((m - b:Nat):Int) by omega]
            refine atI_nat ?_
            unfold nV
            rw [List.getElem?_map,mix_at (by omega),if_neg (by omega)]
            rfl
           refine (ev_ixL (ev_var rfl) (ev_sub (ev_var rfl) (ev_var rfl)) (SqL.of (k3 _ _ e5)) at2) _ ⟨_,k4,?_,?_,?_⟩
           · rw [nV_len,List.length_map,sizeLine_eq]
             have l1:=List.length_filter_le (hasBit m) (bits.take t)
             have l2:=bits_len x ss 1
             rw [← hbits] at l2
             rw [List.length_take] at l1
             omega
           · intro c u z
             rw [upd_ne (ne_of_none z hD2)]
             exact k3 c u z
           · rw [upd_same,take_snoc hb,List.filter_append,List.map_append]
             have:[b].filter (hasBit m)=[b]:=by rw [List.filter_cons,if_pos h];rfl
             rw [this]
             unfold nV
             rw [List.map_append]
             rfl
         · refine ⟨k3,?_⟩
           have:[b].filter (hasBit m)=[]:=by rw [List.filter_cons,if_neg h];rfl
           rw [take_snoc hb,List.filter_append,this,List.append_nil]
           exact k4
       rintro H5 ⟨k3,k4⟩
       have k4:H5 D2=some (.lst (nV (((bits.take (nV bits).length).filter (hasBit m)).map fun b=>wayAt ss x (m - b)))):=k4
       rw [nV_len,List.take_length] at k4
       refine ⟨D2,((bits.filter (hasBit m)).map fun b=>wayAt ss x (m - b)).map fun n=>((n:Nat):Int),rfl,SqL.of (by rw [k4];unfold nV;rw [List.map_map,List.map_map,List.map_map];rfl),?_⟩
       rw [sum_cast]
       refine ⟨_,_,rfl,rfl,wy,_,_,m,rfl,rfl,k3 _ _ e5,?_,?_⟩
       · unfold ixN
         rw [if_pos (by omega),nV_len,if_pos (by unfold mixT;rw [List.length_map,List.length_range];omega)]
         rfl
       have ew:((wayAt ss x m:Nat):Int)+((((bits.filter (hasBit m)).map fun b=>wayAt ss x (m - b)).sum:Nat):Int)=((wayAt ss (x+1) m:Nat):Int):=by
        rw [way_turn nd (by omega),← hbits,Int.natCast_add]
       refine ⟨_,rfl,fun c u z=>?_,?_,?_⟩
       · rw [upd_ne (ne_of_none z hwyH)]
         exact k3 c u (S5 c u z)
       · rw [upd_same]
         show some (HO.lst ((nV (mixT ss x f j)).set m (V.int (((wayAt ss x m:Nat):Int)+((((bits.filter (hasBit m)).map fun b=>wayAt ss x (m - b)).sum:Nat):Int)))))=_
         rw [ew,← mix_step (by omega),hm]
         unfold nV
         rw [List.map_set]
       · rw [upd_ne nDw]
         exact k3 _ _ e6
     · rintro σ H4 ⟨v5,rfl,S5,e5,e6⟩
       rw [mix_full] at e5
       exact ⟨_,_,_,rfl,S5,e5⟩
   · rintro σ H2 ⟨v3,v4,v5,rfl,S3,e3⟩
     have e3:H2 wy=some (.lst (nV (tab ss 25 f))):=e3
     refine rd_ret (ev_ixL (ev_var rfl) (ev_var rfl) (SqL.of e3) (atI_nat (v:=.int (cntA ss upTo24:Nat)) ?_)) (q H2 S3)
     unfold nV
     rw [List.getElem?_map,tab_at (Nat.le_refl _),← way_full,hf]
     rfl
end
end Bw
namespace L2
open PySem PySem.Spec PyProof.Rows
section
variable {P:Program}{w:World}{d:Addr}{o:Obj}{es:Array DictEntry}{ep:Nat}
theorem walk_keys {A:Around} (hh:A.handled=none) (it:Addr) (ne:d≠it) (dt:o.data=.dict es ep) :
  Walks P w A it [it,d] [it] es.size (fun i v=>∃ en,es[i]?=some en/\v=en.key) (fun i h=>h.IsKeyIter it d i es.size ep/\h.get? d=some o) where
 sub:=fun b hb=>List.mem_cons.mpr (.inl (List.mem_singleton.mp hb))
 frame:=fun i h h' st k=>⟨st.1.at fun ob e=>k it (List.mem_cons_self ..) ob e,k d (by simp) o st.2⟩
 item:=fun i s Q E hi st hQ=>by
  obtain ⟨en,hen⟩:∃ en,es[i]?=some en:=⟨es[i],Array.getElem?_eq_getElem hi⟩
  refine next_key_item st.1 st.2 dt rfl hen fun h' it' sb=>?_
  exact hQ _ h' s.toks ⟨en,hen,rfl⟩ ⟨it',(sb.2 d ne).trans st.2⟩ fun b ob hb e=>(sb.2 b fun z=>hb (by simp [z])).trans e
 done:=fun s Q E st hQ=>next_key_end hh st.1 st.2 dt rfl (Nat.le_refl _) fun h' eb=>hQ h' s.toks fun b ob hb e=>eb b ob (fun z=>hb (by simp [z])) e
 self:=fun i s Q E st hQ=>wpAny_pyIter_keyiter st.1 hQ
theorem src_keys (lo:(d==sysModules)=false)(hx:o.ExactDict)(dt:o.data=.dict es ep):W.KdlSrc P w "dict" d d es.size (fun i v=>∃ en,es[i]?=some en/\v=en.key) (fun h=>h.get? d=some o) where
 type:=fun s e=>⟨o,e,hx.1⟩
 there:=fun h e=>⟨Heap.lt_size e,Heap.lt_size e⟩
 keep:=fun h h' e k=>k d (.inl rfl) o e
 notList:=by decide
 notTuple:=by decide
 hint:=fun A E s Q e q=>W.kdl_hint_dict ⟨o,e,hx.1⟩ q
 iter:=fun A s hh e=>⟨_,_,(fun E Q q=>iter_keys lo e hx dt q),walk_keys hh _ (Nat.ne_of_lt (Heap.lt_size e)) dt,⟨⟨_,Heap.get?_push_size _ rfl,rfl,rfl⟩,Heap.get?_push_of_some _ e⟩⟩
end
section
variable {X:Cx}
theorem cr_list_dT (hc:X.calm=true):CallR X (.type "list") (fun xs H Q=>∃ (d:Addr) (kvs:List (List Key×V)),xs=[.ref d]/\H d=some (.dT kvs) /\
  ∀ (qs:List Addr) (l:Addr),Paired (fun q (kv:List Key×V)=>H q=some (.tup (kv.1.map kV))) qs kvs->H l=none->Q (.ref l) (upd H l (.lst (qs.map V.ref)))):=by
 intro pins s σ H xs us Q I r h
 obtain ⟨d,kvs,rfl,hd,q⟩:=h
 rw [Vals.ref1 r]
 obtain ⟨z,lo,ys,pr,ob,es,ep,ho,hx,dt,he,_⟩:=I.hok d _ hd
 have l1:es.size=ys.length:=size_of_entries he
 have l2:kvs.length=ys.length:=Paired.length pr
 refine W.kdl_call (src_keys lo hx dt) (I.ok.hd hc) ho (by omega) fun h' tk acc c' kp hl it=>?_
 have pq:Paired (fun q (kv:List Key×V)=>H q=some (.tup (kv.1.map kV))) (ys.map fun y=>y.2.1) kvs:=by
  refine paired_of (by rw [List.length_map,l2]) fun i a b ha hb=>?_
  rw [List.getElem?_map] at ha
  obtain ⟨y,hy,rfl⟩:=Option.map_eq_some_iff.mp ha
  obtain ⟨y',hy',e1,e2,_⟩:=paired_get pr hb
  rw [hy] at hy'
  injection hy' with hy'
  subst hy'
  exact e2
 have rv:Vals ((ys.map fun y=>y.2.1).map V.ref) acc.toList:=by
  have l3:acc.toList.length=es.size:=by rw [Array.length_toList];exact it.1
  refine paired_of (by rw [List.length_map,List.length_map];omega) fun i a b ha hb=>?_
  obtain ⟨en,hen,rfl⟩:=it.2 i b (by simpa using hb)
  rw [List.getElem?_map,List.getElem?_map] at ha
  have qe:=entry_at he i
  cases hy:ys[i]? with
  | none=>rw [hy] at ha;cases ha
  | some y =>
   rw [hy] at ha qe
   have ha:some (V.ref y.2.1)=some a:=ha
   injection ha with ha
   subst ha
   rw [hen] at qe
   injection qe with qe
   rw [qe]
   rfl
 have hlen:((ys.map fun y=>y.2.1).map V.ref).length<=sizeLine:=by rw [List.length_map,List.length_map];omega
 exact ⟨.ref s.heap.objs.size,_,I.laid (t':=tk) kp (Nat.le_refl _) (show ObjOk X.prog X.w _ h' _ (.lst _) from ⟨hlen,acc.toList,c',rv,by simpa using hl⟩),rfl,q _ _ pq (I.hok.fresh (Nat.le_refl _))⟩
end
section
variable {P:Program}{w:World}{A:Around}{E:Value->Shared->Prop}{s:Shared}
theorem cat_none {t b:Addr} {ws:List Value} {R:Value->Shared->Prop} (ht:IsTup s.heap t #[]) (hb:IsTup s.heap b ws.toArray) (hR:R (.ref b) s):wpAny (model P w) A (binaryOp .Add (.ref t) (.ref b)) R E s:=by
 obtain ⟨⟨c1,d1,f1,l1⟩,g1,k1,n1,e1⟩:=id ht
 obtain ⟨⟨c2,d2,f2,l2⟩,g2,k2,n2,e2⟩:=id hb
 simp only at k1 e1 k2 e2
 subst k1 e1 k2 e2
 have m:=tuple_addW0 t b #[] ws.toArray n1 n2 d1 d2 l1 l2 rfl
 exact concat_meets ⟨_,g1,rfl⟩ ⟨_,g2,rfl⟩ noFill_tuple_add seq_tuple_add F.slot_tuple_add F.entry_tuple_add (F.args_tuple_add_2 _ _) m ⟨g1,g2,hR⟩
end
section
variable {X:Cx}
def rCatA (K:PySem.W.Frag):R2:=fun x y H Q=>∃ a b xs ys,x=.ref a/\y=.ref b/\SqT K H a xs/\H b=some (.tup ys)/\ys≠[]/\xs.length+ys.length<=sizeLine/\∀ p H',Same H H'->H' p=some (.tup (xs++ys))->Q (.ref p) H'
theorem op_catA:OpR X (binaryOp .Add) (rCatA X.K):=by
 intro pins s σ H x y v u Q I rx ry h
 obtain ⟨a,b,xs,ys,rfl,rfl,ha,hb,hy,hz,q⟩:=h
 by_cases e:xs=[]
 · subst e
   cases rx
   cases ry
   obtain ⟨its,r1,p1,_⟩:=I.tuple ha
   obtain ⟨its2,r2,p2,_⟩:=I.tuple (SqT.of hb)
   have:its=[]:=r1.nil_iff.mpr rfl
   subst this
   exact cat_none p1 p2 ⟨.ref b,H,I,rfl,q b H (Same.refl H) hb⟩
 · exact op_catT pins s σ H _ _ v u Q I rx ry ⟨a,b,xs,ys,rfl,rfl,ha,SqT.of hb,e,hz,fun z=>absurd z hy,fun _ p hp=>q p _ ((Same.refl H).laid hp) upd_same⟩
end
end L2
namespace Bw
open PySem PySem.Spec PyProof.Rows L2 Tote
def kL (l:List Nat):List Key:=l.map fun n=>Sum.inl ((n:Nat):Int)
theorem kL_V (l:List Nat):(kL l).map kV=nV l:=by
 unfold kL nV
 rw [List.map_map]
 rfl
theorem kL_inj {l m:List Nat}(h:kL l=kL m):l=m:=by
 unfold kL at h
 refine List.map_inj_right (fun a b e=>?_) |>.mp h
 have:=Sum.inl.inj e
 omega
theorem keys_put {kvs:List (List Key×V)}{K:List (List Nat)}{k:List Nat}{v:V}(h:kvs.map (·.1)=K.map kL):(putK kvs (kL k) v).map (·.1)=(insKey K k).map kL:=by
 have hany:(kvs.any fun kv=>decide (kv.1=kL k))=K.contains k:=by
  have e1:(kvs.any fun kv=>decide (kv.1=kL k))=(kvs.map (·.1)).any fun z=>decide (z=kL k):=by rw [List.any_map];rfl
  rw [e1,h,List.any_map,Bool.eq_iff_iff,List.any_eq_true,List.contains_eq_mem,decide_eq_true_eq]
  constructor
  · rintro ⟨x,h1,h2⟩
    have:=kL_inj (of_decide_eq_true h2)
    rw [← this]
    exact h1
  · intro hk
    exact ⟨k,hk,decide_eq_true rfl⟩
 unfold putK insKey
 rw [hany]
 by_cases c:K.contains k=true
 · rw [if_pos c,if_pos c,← h,List.map_map]
   refine List.map_congr_left fun kv _=>?_
   show (if kv.1=kL k then (kv.1,v) else kv).1=kv.1
   split <;> rfl
 · rw [if_neg c,if_neg c,List.map_append,List.map_append,h]
   rfl
theorem sorted_ins {pick:List Nat}{n:Nat}{ms:List Int}(hp:Rises pick)(hn:¬ n∈pick)(h1:ms.Perm ((pick++[n]).map fun x=>((x:Nat):Int)))(h2:ms.Pairwise (·<=·)):ms=(insS n pick).map fun x=>((x:Nat):Int):=by
 have hr:=rises_insS hp hn
 have nd:(pick++[n]).Nodup:=by
  rw [List.nodup_append]
  refine ⟨hp.nodup,by simp,fun a ha b hb=>?_⟩
  rw [List.mem_singleton] at hb
  subst hb
  exact fun z=>hn (z ▸ ha)
 have pm:(insS n pick).Perm (pick++[n]):=(List.perm_ext_iff_of_nodup hr.nodup nd).mpr fun x=>by
  rw [mem_insS]
  simp [or_comm]
 refine List.Perm.eq_of_pairwise (le:=(·<=·)) (fun a b _ _ x y=>by omega) h2 ?_ (h1.trans (pm.map _).symm)
 rw [List.pairwise_map]
 exact hr.imp fun h=>by omega
theorem len_addAll {pick:List Nat}:∀ (s:List Nat) (K:List (List Nat)),(addAll s K pick).length<=K.length+s.length
 | [],K=>Nat.le_refl _
 | n::s,K=>by
  show (addAll s (addPick pick K n) pick).length<=_
  have:=len_addAll (pick:=pick) s (addPick pick K n)
  have h2:(addPick pick K n).length<=K.length+1:=by
   unfold addPick insKey
   split
   · omega
   · split
     · omega
     · simp
  rw [List.length_cons]
  omega
theorem len_fold {s:List Nat}{c:Nat}(hs:s.length<=c):∀ (ps K:List (List Nat)),(ps.foldl (addAll s) K).length<=K.length+ps.length*c
 | [],K=>by simp
 | p::ps,K=>by
  rw [List.foldl_cons,List.length_cons]
  have h1:=len_fold hs ps (addAll s K p)
  have h2:=len_addAll (pick:=p) s K
  rw [Nat.add_mul]
  omega
theorem foldl_snoc {α β:Type}(f:β->α->β)(b:β)(l:List α)(x:α):(l++[x]).foldl f b=f (l.foldl f b) x:=by rw [List.foldl_append];rfl
theorem len_picks:∀ (i:Nat) (ss:List (List Nat)),(∀ s∈ss,s.length<=25)->(picksOf (ss.take i)).length<=25 ^ i
 | 0,ss,_=>by show 1<=1;decide
 | i+1,ss,h=>by
  have ih:=len_picks i ss h
  by_cases hi:i < ss.length
  · rw [List.take_add_one,List.getElem?_eq_getElem hi]
    show (picksOf (ss.take i++[ss[i]])).length<=_
    rw [picks_snoc]
    have:=len_fold (h _ (List.getElem_mem hi)) (picksOf (ss.take i)) []
    unfold stepPicks
    rw [Nat.pow_succ]
    have h2:(picksOf (ss.take i)).length*25<=25 ^ i*25:=Nat.mul_le_mul_right _ ih
    simp only [List.length_nil] at this
    omega
  · have:ss.take (i+1)=ss.take i:=by rw [List.take_of_length_le (by omega),List.take_of_length_le (by omega)]
    rw [this,Nat.pow_succ]
    omega
section
variable {P:Program}{w:World}{K:PySem.W.Frag}{mg:Str->Option Value}{base:Heap}
theorem sc_pof:FnScope ["sets","picks","numbers","longer","pick","number"] ["sets"] (defScope f_picks_of):=⟨rfl,rfl,rfl,by decide +kernel,rfl,by decide +kernel,by decide +kernel⟩
theorem ok_pof (N:GN mg){f:Addr}{fd:FuncData}(F:Fun K "picks_of" "picks_of" f_picks_of f fd):FnOk P w K mg base CX0 1 f fd ["sets"] (spPicksOf K):=by
 refine F.ok sc_pof (fun vs H Q E h=>?_) (fun cdv A outer s H vs Q E hr h=>?_)
 · obtain ⟨_,_,rfl,_⟩:=h
   rfl
 · obtain ⟨a,ss,rfl,⟨as,hA,hP⟩,hS,h3,q⟩:=h
   have hu:=hu_of hr
   refine ⟨_,pss_cons (ps_set (i:=1) sc_pof.nd rfl (Or.inl rfl) (pe_lst (pa_cons (pe_tup pa_nil) pa_nil)))
    (pss_cons (ps_for PassesOwn.never rfl (pi_list (pv 0)) (pg_name (i:=2) sc_pof.nd rfl (Or.inl rfl))
     (pss_cons (ps_set (i:=3) sc_pof.nd rfl (Or.inl rfl) pe_dnewT)
     (pss_cons (ps_for PassesOwn.never rfl (pi_list (pv 1)) (pg_name (i:=4) sc_pof.nd rfl (Or.inl rfl))
      (pss_one (ps_for PassesOwn.never rfl (pi_list (pv 2)) (pg_name (i:=5) sc_pof.nd rfl (Or.inl rfl))
       (pss_one (ps_if (pt_cmpR op_notIn_seq (pv 5) (pv 4) (by with_unfolding_all rfl)) (pss_one (ps_dput hu (pv 3) (pe_callTy call_tuple_of (by rfl) N.tuple (by decide +kernel) (pa_cons (pe_callB cr_sortedT (by rfl) N.sorted PyProof.Rows.boot_sorted (pa_cons (pe_op op_catA (pv 4) (pe_tup (pa_cons (pv 5) pa_nil))) pa_nil)) pa_nil)) pe_bl rfl)) pss_nil)))))
     (pss_one (ps_set (i:=1) sc_pof.nd rfl (Or.inl rfl) (pe_callTy (cr_list_dT rfl) (by rfl) N.list (by decide +kernel) (pa_cons (pv 3) pa_nil)))))))
    (pss_one (ps_ret (pv 1)))),?_⟩
   have lenA:as.length=ss.length:=Paired.length hP
   have s25:∀ s∈ss,s.length<=25:=fun s hs=>rises_25 (hS.good s hs).1 (hS.good s hs).2
   refine ⟨Nat.zero_le _,fun t0 ht0=>⟨by show 1<=sizeLine;decide,fun p0 hp0=>?_⟩⟩
   have n0:p0≠t0:=by
    rintro rfl
    rw [upd_same] at hp0
    cases hp0
   have S0:Same H (upd (upd H t0 (.tup [])) p0 (.lst [V.ref t0])):=((Same.refl H).laid ht0).trans ((Same.refl _).laid hp0)
   refine ⟨_,rfl,a,rfl,⟨_,S0.seq hA⟩,for_list (K:=K) (a:=a) (xs:=as.map V.ref) (fun i σ H'=>∃ (pk:Addr) (qs:List Addr) (v2 v3 v4 v5:Option V),σ=[some (.ref a),some (.ref pk),v2,v3,v4,v5]/\Same H H'/\H' pk=some (.lst (qs.map V.ref))/\Paired (fun q l=>H' q=some (.tup (nV l))) qs (picksOf (ss.take i)))
    ⟨p0,[t0],none,none,none,none,rfl,S0,upd_same,.cons (by rw [upd_ne n0.symm];exact upd_same) .nil⟩ (fun i σ H' _ ⟨_,_,_,_,_,_,_,S,_⟩=>S.seq hA) ?_ ?_⟩
   · rintro i x σ H1 hi ⟨pk,qs,v2,v3,v4,v5,rfl,S1,e1,hQ⟩
     rw [List.getElem?_map] at hi
     obtain ⟨ai,hai,rfl⟩:=Option.map_eq_some_iff.mp hi
     obtain ⟨sj,hsj,hI⟩:=Paired.at1 hP hai
     have hil:i < ss.length:=(List.getElem?_eq_some_iff.mp hsj).1
     have gs:=hS.good sj (List.mem_of_getElem? hsj)
     have l25:=s25 sj (List.mem_of_getElem? hsj)
     have lp:=len_picks i ss s25
     have lp2:(picksOf (ss.take i)).length<=625:=Nat.le_trans lp (Nat.le_trans (Nat.pow_le_pow_right (by decide) (show i<=2 by omega)) (by decide))
     have hris:∀ l∈picksOf (ss.take i),Rises l/\l.length<=6:=fun l hl=>by
      obtain ⟨z1,z2⟩:=(mem_picks (ss.take i) l).mp hl
      refine ⟨z1,?_⟩
      have:=(fills_len z2).1
      rw [List.length_take] at this
      omega
     have enext:picksOf (ss.take (i+1))=stepPicks (picksOf (ss.take i)) sj:=by rw [take_snoc hsj,picks_snoc]
     generalize picksOf (ss.take i)=pks at hQ lp2 hris enext
     have lenQ:qs.length=pks.length:=Paired.length hQ
     intro lg hlg
     have S2:Same H1 (upd H1 lg (.dT [])):=(Same.refl H1).laid hlg
     refine ⟨_,rfl,pk,rfl,⟨_,S2.seq (SqL.of e1)⟩,for_list (K:=K) (a:=pk) (xs:=qs.map V.ref) (fun j σ H'=>∃ (v4 v5:Option V) (kvs:List (List Key×V)),σ=[some (.ref a),some (.ref pk),some (.ref ai),some (.ref lg),v4,v5]/\Same H1 H'/\H' lg=some (.dT kvs)/\kvs.map (·.1)=((pks.take j).foldl (addAll sj) []).map kL)
      ⟨v4,v5,[],rfl,S2,upd_same,rfl⟩ (fun j σ H' _ ⟨_,_,_,_,S,_⟩=>SqL.of (S _ _ e1)) ?_ ?_⟩
     · rintro j x σ H2 hj ⟨v4,v5,kvs,rfl,S3,e3,hk⟩
       rw [List.getElem?_map] at hj
       obtain ⟨qa,hqa,rfl⟩:=Option.map_eq_some_iff.mp hj
       obtain ⟨pick,hpick,hT⟩:=Paired.at1 hQ hqa
       have hjl:j < pks.length:=(List.getElem?_eq_some_iff.mp hpick).1
       obtain ⟨hr1,hr6⟩:=hris pick (List.mem_of_getElem? hpick)
       have lk:=len_fold l25 (pks.take j) []
       rw [List.length_take,List.length_nil] at lk
       have enx:(pks.take (j+1)).foldl (addAll sj) []=addAll sj ((pks.take j).foldl (addAll sj) []) pick:=by rw [take_snoc hpick,foldl_snoc]
       generalize (pks.take j).foldl (addAll sj) []=K2 at hk lk enx
       refine ⟨_,rfl,ai,rfl,⟨_,(S1.trans S3).seq hI⟩,for_list (K:=K) (a:=ai) (xs:=nV sj) (fun m σ H'=>∃ (v5:Option V) (kvs:List (List Key×V)),σ=[some (.ref a),some (.ref pk),some (.ref ai),some (.ref lg),some (.ref qa),v5]/\Same H1 H'/\H' lg=some (.dT kvs)/\kvs.map (·.1)=((sj.take m).foldl (addPick pick) K2).map kL)
        ⟨v5,kvs,rfl,S3,e3,hk⟩ (fun m σ H' _ ⟨_,_,_,S,_⟩=>(S1.trans S).seq hI) ?_ ?_⟩
       · rintro m x σ H3 hm ⟨v5,kvs,rfl,S4,e4,hk⟩
         unfold nV at hm
         rw [List.getElem?_map] at hm
         obtain ⟨n,hn,rfl⟩:=Option.map_eq_some_iff.mp hm
         have lk3:kvs.length<=K2.length+25:=by
          have z1:kvs.length=(addAll (sj.take m) K2 pick).length:=by
           have:=congrArg List.length hk
           rw [List.length_map,List.length_map] at this
           exact this
          have z2:=len_addAll (pick:=pick) (sj.take m) K2
          rw [List.length_take] at z2
          omega
         have enn:(sj.take (m+1)).foldl (addPick pick) K2=addPick pick ((sj.take m).foldl (addPick pick) K2) n:=by rw [take_snoc hn,foldl_snoc]
         generalize (sj.take m).foldl (addPick pick) K2=K3 at hk enn
         have hT3:=S4 _ _ hT
         have eI:(!inV (V.int (n:Nat)) (nV pick))=!decide (n∈pick):=by
          congr 1
          rw [in_nV,decide_eq_decide]
          exact ⟨fun ⟨y,h1,h2⟩=>by have:n=y:=by omega
                                   subst this;exact h1,fun h=>⟨n,h,rfl⟩⟩
         refine rd_if (b:=!decide (n∈pick)) (tv_of (tv_test (ev_in (neg:=true) (ev_var rfl) (ev_var rfl) (.inr (SqT.of hT3)) rfl (flat_nV pick))) eI) (fun h=>?_) (fun h=>?_)
         · have hnp:¬ n∈pick:=by simpa using h
           refine ⟨_,rfl,_,rfl,_,rfl,by show 1<=sizeLine;decide,fun t1 ht1=>?_⟩
           have S5:Same H3 (upd H3 t1 (.tup [V.int (n:Nat)])):=(Same.refl H3).laid ht1
           refine ⟨qa,t1,nV pick,[V.int (n:Nat)],rfl,rfl,SqT.of (S5 _ _ hT3),upd_same,by simp,by rw [nV_len,sizeLine_eq];simp;omega,fun p4 H4 S6 hp4=>?_⟩
           have ecat:nV pick++[V.int (n:Nat)]=((pick++[n]).map fun x=>((x:Nat):Int)).map V.int:=by
            unfold nV
            rw [List.map_append,List.map_append,List.map_map]
            rfl
           refine ⟨p4,(pick++[n]).map fun x=>((x:Nat):Int),rfl,SqT.of (by rw [hp4,ecat]),by rw [List.length_map,List.length_append];simp;omega,fun ms p5 hpm hso hp5=>?_⟩
           have ems:=sorted_ins hr1 hnp hpm hso
           subst ems
           have e7:((insS n pick).map fun x=>((x:Nat):Int)).map V.int=(kL (insS n pick)).map kV:=by
            rw [kL_V]
            unfold nV
            rw [List.map_map]
            rfl
           rw [e7]
           refine ⟨p5,_,rfl,.inl ⟨SqL.of upd_same,fun p6 hp6=>?_⟩⟩
           have S7:Same H3 (upd (upd H4 p5 (.lst ((kL (insS n pick)).map kV))) p6 (.tup ((kL (insS n pick)).map kV))):=(S5.trans S6).trans (((Same.refl H4).laid hp5).trans ((Same.refl _).laid hp6))
           have hlgH:=S7 _ _ e4
           refine ⟨lg,_,rfl,.inr ⟨kvs,kL (insS n pick),p6,hlgH,rfl,upd_same,by rw [sizeLine_eq];omega,rfl⟩,some (.int (n:Nat)),putK kvs (kL (insS n pick)) (V.bl true),rfl,?_,upd_same,?_⟩
           · intro c u z
             rw [upd_ne (ne_of_none z hlg)]
             exact S7 c u (S4 c u z)
           · rw [enn,keys_put hk]
             unfold addPick
             rw [if_neg (by rw [List.contains_eq_mem,decide_eq_true_eq];exact hnp)]
         · have hnp:n∈pick:=by simpa using h
           refine ⟨_,kvs,rfl,S4,e4,?_⟩
           rw [enn,hk]
           unfold addPick
           rw [if_pos (by rw [List.contains_eq_mem,decide_eq_true_eq];exact hnp)]
       · rintro σ H3 ⟨v5,kvs,rfl,S4,e4,hk⟩
         rw [nV_len,List.take_length] at hk
         exact ⟨_,_,kvs,rfl,S4,e4,by rw [enx];exact hk⟩
     · rintro σ H2 ⟨v4,v5,kvs,rfl,S3,e3,hk⟩
       rw [List.length_map,lenQ,List.take_length] at hk
       refine ⟨_,rfl,lg,kvs,rfl,e3,fun rs l hrs hl=>?_⟩
       refine ⟨l,rs,_,_,_,_,rfl,(S1.trans S3).laid ?_,upd_same,?_⟩
       · cases hz:H l with
         | none=>rfl
         | some o=>rw [S3 l o (S1 l o hz)] at hl;cases hl
       · rw [enext]
         have hk:kvs.map (·.1)=(stepPicks pks sj).map kL:=hk
         have lenK:kvs.length=(stepPicks pks sj).length:=by
          have:=congrArg List.length hk
          rwa [List.length_map,List.length_map] at this
         refine paired_of (by rw [Paired.length hrs,lenK]) fun t q' l' hq' hl'=>?_
         obtain ⟨kv,hkv,hH⟩:=Paired.at1 hrs hq'
         have ekv:kv.1=kL l':=by
          have z1:(kvs.map (·.1))[t]?=some kv.1:=by rw [List.getElem?_map,hkv];rfl
          rw [hk,List.getElem?_map,hl'] at z1
          exact (Option.some.inj z1).symm
         rw [upd_ne (ne_of_none hH hl),hH,ekv,kL_V]
   · rintro σ H1 ⟨pk,qs,v2,v3,v4,v5,rfl,S1,e1,hQ⟩
     rw [List.length_map,lenA,List.take_length] at hQ
     exact ⟨_,rfl,q H1 pk _ S1 e1 (by rw [List.length_map,Paired.length hQ])⟩
end
section
variable {P:Program}{w:World}{K:PySem.W.Frag}{mg:Str->Option Value}{base:Heap}
theorem FnM.mono {CX:CXT} {C:Addr} {m:Str} {ps:List Str} {j k:Nat} {sp:Sp} (F:FnM P w K mg base CX j C m ps sp) (h:j<=k):FnM P w K mg base CX k C m ps sp:=by
 obtain ⟨f,fd,hm,hb,F⟩:=F
 exact ⟨f,fd,hm,hb,F.mono h⟩
structure TopW (K:PySem.W.Frag)(mg:Str->Option Value):Prop where
 G:GW mg
 sign:Dfn K mg "sign_of" f_sign_of
 text:Dfn K mg "text_of" f_text_of
 name:Dfn K mg "is_name" f_is_name
 num:Dfn K mg "number_of" f_number_of
section
variable (T:TopW K mg)
include T
theorem TopW.fnum:Fn P w K mg base CX0 1 "number_of" ["word"] spNum:=T.num.mk (fun _ _ _ _ _ _ us h=>match us,h with|[_],_=>rfl) fun _ _ F=>ok_num T.G F
theorem TopW.fname:Fn P w K mg base CX0 1 "is_name" ["word"] spIsName:=T.name.mk (fun _ _ _ _ _ _ us h=>match us,h with|[_],_=>rfl) fun _ _ F=>ok_isname T.G F
theorem TopW.ftext:Fn P w K mg base CX0 2 "text_of" ["codes"] (spText K):=T.text.mk (fun _ _ _ _ _ _ us h=>match us,h with|[_],_=>rfl) fun _ _ F=>ok_text (T.sign.mk (fun _ _ _ _ _ _ us h=>match us,h with|[_],_=>rfl) fun _ _ F=>ok_sign T.G F) F
end
theorem Di.mk {CX:CXT}{C:Addr}{qual:Str}{st:Stmt}{ps:List Str}{k:Nat}{sp:Sp}(D:Di K C qual st)
  (hb:∀ (kV doc pm:Value) (an:Option Addr) (cdv ct:Value) (us:List Value),us.length=ps.length->bindArgs (PySem.W.fnOf "__init__" qual (defArgs st) (defBody st) (defScope st) .none kV doc pm an cdv ct) ⟨us,[]⟩=pure (ps.zip us))
  (ok:∀ f fd,Fun K "__init__" qual st f fd->FnOk P w K mg base CX k f fd ps sp):FnI P w K mg base CX k C ps sp:=by
 obtain ⟨f,fd,hm,F⟩:=D
 exact ⟨f,fd,hm,F.binds hb,ok f fd F⟩
theorem FnI.mono {CX:CXT}{C:Addr}{ps:List Str}{j k:Nat}{sp:Sp}(F:FnI P w K mg base CX j C ps sp)(h:j<=k):FnI P w K mg base CX k C ps sp:=by
 obtain ⟨f,fd,hm,hb,F⟩:=F
 exact ⟨f,fd,hm,hb,F.mono h⟩
theorem Dm.mk {CX:CXT}{C:Addr}{m qual:Str}{st:Stmt}{ps:List Str}{k:Nat}{sp:Sp}(D:Dm K C m qual st)
  (hb:∀ (kV doc pm:Value) (an:Option Addr) (cdv ct:Value) (us:List Value),us.length=ps.length->bindArgs (PySem.W.fnOf m qual (defArgs st) (defBody st) (defScope st) .none kV doc pm an cdv ct) ⟨us,[]⟩=pure (ps.zip us))
  (ok:∀ f fd,Fun K m qual st f fd->FnOk P w K mg base CX k f fd ps sp):FnM P w K mg base CX k C m ps sp:=by
 obtain ⟨f,fd,hm,F⟩:=D
 exact ⟨f,fd,hm,F.binds hb,ok f fd F⟩
structure TopC (P:Program)(w:World)(K:PySem.W.Frag)(mg:Str->Option Value)(dS aF CP:Addr):Prop where
 W:TopW K mg
 GC:GC P w K mg dS aF
 TP:CK K mg "Pool" poolFs CP
 poolI:Di K CP "Pool.__init__" m_Pool_init
 day:Dfn K mg "is_day" f_is_day
 form:Dfn K mg "has_pool_form" f_has_pool_form
 terms:Dfn K mg "are_terms_good" f_are_terms_good
 fields:Dfn K mg "fields_of" f_fields_of
 pool:Dfn K mg "read_pool" f_read_pool
 race:Dfn K mg "read_race" f_read_race
 pools:Dfn K mg "read_pools" f_read_pools
 card:Dfn K mg "read_card" f_read_card
theorem TopC.fcard {dS aF CP:Addr}(T:TopC P w K mg dS aF CP):Fn P w K mg base CX0 6 "read_card" ["codes"] (spCard K CP):=by
 have num:Fn P w K mg base CX0 2 "number_of" ["word"] spNum:=T.W.fnum.mono (by decide)
 have day:Fn P w K mg base CX0 2 "is_day" ["words"] (spDay K):=T.day.mk (fun _ _ _ _ _ _ us h=>match us,h with|[_],_=>rfl) fun _ _ F=>ok_day T.W.G T.W.fname F
 have form:Fn P w K mg base CX0 2 "has_pool_form" ["words"] (spForm K):=T.form.mk (fun _ _ _ _ _ _ us h=>match us,h with|[_],_=>rfl) fun _ _ F=>ok_form T.W.G T.GC T.W.fname F
 have terms:Fn P w K mg base CX0 2 "are_terms_good" ["words"] (spTerms K):=T.terms.mk (fun _ _ _ _ _ _ us h=>match us,h with|[_],_=>rfl) fun _ _ F=>ok_terms T.W.fnum F
 have fields:Fn P w K mg base CX0 1 "fields_of" ["kind","size","race","races"] (spFields K):=T.fields.mk (fun _ _ _ _ _ _ us h=>match us,h with|[_,_,_,_],_=>rfl) fun _ _ F=>ok_fields T.W.G T.GC F
 have poolI:FnI P w K mg base CX0 1 CP ["self","name","kind","fields","unit"] (spPoolI CP):=T.poolI.mk (fun _ _ _ _ _ _ us h=>match us,h with|[_,_,_,_,_],_=>rfl) fun _ _ F=>ok_poolI T.TP F
 have pool:Fn P w K mg base CX0 4 "read_pool" ["words","races"] (spPool K CP):=T.pool.mk (fun _ _ _ _ _ _ us h=>match us,h with|[_,_],_=>rfl) fun _ _ F=>ok_pool T.W.G T.GC T.TP form terms num (fields.mono (by decide)) (poolI.mono (by decide)) F
 have race:Fn P w K mg base CX0 2 "read_race" ["words"] (spRace K):=T.race.mk (fun _ _ _ _ _ _ us h=>match us,h with|[_],_=>rfl) fun _ _ F=>ok_race T.W.G T.GC T.W.fnum F
 have pools:Fn P w K mg base CX0 5 "read_pools" ["lines","races"] (spPools K CP):=T.pools.mk (fun _ _ _ _ _ _ us h=>match us,h with|[_,_],_=>rfl) fun _ _ F=>ok_pools T.W.G T.GC T.TP pool F
 exact T.card.mk (fun _ _ _ _ _ _ us h=>match us,h with|[_],_=>rfl) fun _ _ F=>ok_card T.W.G T.GC (T.W.ftext.mono (by decide)) (day.mono (by decide)) (race.mono (by decide)) pools F
structure TopN (K:PySem.W.Frag)(mg:Str->Option Value)(aW:Addr):Prop where
 G:GW mg
 B:GB K mg aW
 N:GN mg
 prod:Dfn K mg "product_of" f_product_of
 rows:Dfn K mg "rows_among" f_rows_among
 picks:Dfn K mg "picks_among" f_picks_among
 box:Dfn K mg "count_box" f_count_box
 key:Dfn K mg "count_key" f_count_key
 ord:Dfn K mg "count_orders" f_count_orders
 pof:Dfn K mg "picks_of" f_picks_of
 on:Dfn K mg "count_on" f_count_on
 many:Dfn K mg "count_of" f_count_of
theorem TopN.fmany {aW CP:Addr}(T:TopN K mg aW)(TP:CK K mg "Pool" poolFs CP):Fn P w K mg base CX0 5 "count_of" ["pool","how","sets"] (spCof K CP):=by
 have prod:Fn P w K mg base CX0 1 "product_of" ["numbers"] (spProd K):=T.prod.mk (fun _ _ _ _ _ _ us h=>match us,h with|[_],_=>rfl) fun _ _ F=>ok_prod F
 have rows:Fn P w K mg base CX0 2 "rows_among" ["many","size"] spRows:=T.rows.mk (fun _ _ _ _ _ _ us h=>match us,h with|[_,_],_=>rfl) fun _ _ F=>ok_rows T.N prod F
 have picks:Fn P w K mg base CX0 3 "picks_among" ["many","size"] spPicks:=T.picks.mk (fun _ _ _ _ _ _ us h=>match us,h with|[_,_],_=>rfl) fun _ _ F=>ok_picks rows F
 have box:Fn P w K mg base CX0 4 "count_box" ["kind","size","numbers"] (spCBox K):=T.box.mk (fun _ _ _ _ _ _ us h=>match us,h with|[_,_,_],_=>rfl) fun _ _ F=>ok_cbox T.G (rows.mono (by decide)) picks F
 have key:Fn P w K mg base CX0 4 "count_key" ["kind","size","bankers","others"] (spCKey K):=T.key.mk (fun _ _ _ _ _ _ us h=>match us,h with|[_,_,_,_],_=>rfl) fun _ _ F=>ok_ckey T.G (rows.mono (by decide)) picks F
 have ord:Fn P w K mg base CX0 1 "count_orders" ["sets"] (spOrd K):=T.ord.mk (fun _ _ _ _ _ _ us h=>match us,h with|[_],_=>rfl) fun _ _ F=>ok_ord T.G T.B T.N F
 have pof:Fn P w K mg base CX0 1 "picks_of" ["sets"] (spPicksOf K):=T.pof.mk (fun _ _ _ _ _ _ us h=>match us,h with|[_],_=>rfl) fun _ _ F=>ok_pof T.N F
 have on:Fn P w K mg base CX0 2 "count_on" ["kind","sets"] (spCOn K):=T.on.mk (fun _ _ _ _ _ _ us h=>match us,h with|[_,_],_=>rfl) fun _ _ F=>ok_con T.G ord pof prod F
 exact T.many.mk (fun _ _ _ _ _ _ us h=>match us,h with|[_,_,_],_=>rfl) fun _ _ F=>ok_cof T.G T.B TP (on.mono (by decide)) box key F
structure TopB (P:Program)(w:World)(K:PySem.W.Frag)(mg:Str->Option Value)(dS aF CP CW CB CF nF fI aW:Addr):Prop where
 C:TopC P w K mg dS aF CP
 N:TopN K mg aW
 D:GD mg
 TW:CK K mg "Words" wordsFs CW
 TB:CK K mg "Bet" betFs CB
 Z:ExcK K CF nF fI
 mF:mg "Fault"=some (.ref CF)
 faultI:∃ fd,Fun K "__init__" "Fault.__init__" m_Fault_init fI fd
 betI:Di K CB "Bet.__init__" m_Bet_init
 cost:Dm K CB "cost" "Bet.cost" m_Bet_cost
 wordsI:Di K CW "Words.__init__" m_Words_init
 take:Dm K CW "take" "Words.take" m_Words_take
 one:Dm K CW "take_one_of" "Words.take_one_of" m_Words_take_one_of
 fin:Dm K CW "finish" "Words.finish" m_Words_finish
 stake:Dfn K mg "take_stake" f_take_stake
 set:Dfn K mg "take_set" f_take_set
 box:Dfn K mg "take_box" f_take_box
 key:Dfn K mg "take_key" f_take_key
 on:Dfn K mg "take_on" f_take_on
 sets:Dfn K mg "take_sets" f_take_sets
 how:Dfn K mg "take_how" f_take_how
 pool:Dfn K mg "take_pool" f_take_pool
 line:Dfn K mg "check_line" f_check_line
 words:Dfn K mg "read_words" f_read_words
 bet:Dfn K mg "read_bet" f_read_bet
 look:Dfn K mg "look_at" f_look_at
theorem TopB.flook {dS aF CP CW CB CF nF fI aW:Addr}(T:TopB P w K mg dS aF CP CW CB CF nF fI aW):Fn P w K mg base CX0 9 "look_at" ["card","bet"] (spLook K CB CP):=by
 have G:=T.C.W.G
 have B:=T.N.B
 have FL:Flt P w K mg base CF:=by
  obtain ⟨fd,F⟩:=T.faultI
  exact ⟨nF,fI,fd,T.Z,F.binds (fun _ _ _ _ _ _ us h=>match us,h with|[_,_,_],_=>rfl),ok_faultI T.Z F,T.mF⟩
 have num:∀ k,1<=k->Fn P w K mg base CX0 k "number_of" ["word"] spNum:=fun k hk=>T.C.W.fnum.mono hk
 have take:FnM P w K mg base (CXF P w CF) 3 CW "take" ["self"] (spTake K CW CF):=T.take.mk (fun _ _ _ _ _ _ us h=>match us,h with|[_],_=>rfl) fun _ _ F=>ok_take G B T.TW FL F
 have one:FnM P w K mg base (CXF P w CF) 4 CW "take_one_of" ["self","known"] (spOne K CW CF):=T.one.mk (fun _ _ _ _ _ _ us h=>match us,h with|[_,_],_=>rfl) fun _ _ F=>ok_one B T.TW FL (by decide) take F
 have fin:FnM P w K mg base (CXF P w CF) 3 CW "finish" ["self"] (spFin K CW CF):=T.fin.mk (fun _ _ _ _ _ _ us h=>match us,h with|[_],_=>rfl) fun _ _ F=>ok_fin G B T.TW FL F
 have stake:Fn P w K mg base (CXF P w CF) 4 "take_stake" ["words","unit"] (spStake K CW CF):=T.stake.mk (fun _ _ _ _ _ _ us h=>match us,h with|[_,_],_=>rfl) fun _ _ F=>ok_stake B T.TW FL (by decide) take (num 3 (by decide)) F
 have set:Fn P w K mg base (CXF P w CF) 4 "take_set" ["words","field"] (spSet K CW CF):=T.set.mk (fun _ _ _ _ _ _ us h=>match us,h with|[_,_],_=>rfl) fun _ _ F=>ok_set G B T.TW FL (by decide) take (num 3 (by decide)) F
 have box:Fn P w K mg base (CXF P w CF) 5 "take_box" ["words","field","size"] (spBox K CW CF):=T.box.mk (fun _ _ _ _ _ _ us h=>match us,h with|[_,_,_],_=>rfl) fun _ _ F=>ok_box G B T.TW FL (by decide) set F
 have key:Fn P w K mg base (CXF P w CF) 5 "take_key" ["words","field","size"] (spKey K CW CF):=T.key.mk (fun _ _ _ _ _ _ us h=>match us,h with|[_,_,_],_=>rfl) fun _ _ F=>ok_key G B T.TW FL (by decide) set one F
 have on:Fn P w K mg base (CXF P w CF) 5 "take_on" ["words","fields"] (spOn K CW CF):=T.on.mk (fun _ _ _ _ _ _ us h=>match us,h with|[_,_],_=>rfl) fun _ _ F=>ok_on G B T.TW FL (by decide) set one F
 have sets:Fn P w K mg base (CXF P w CF) 6 "take_sets" ["words","pool","how"] (spSets K CW CF CP):=T.sets.mk (fun _ _ _ _ _ _ us h=>match us,h with|[_,_,_],_=>rfl) fun _ _ F=>ok_sets G B T.C.TP on box key F
 have how:Fn P w K mg base (CXF P w CF) 5 "take_how" ["words","pool"] (spHow K CW CF CP):=T.how.mk (fun _ _ _ _ _ _ us h=>match us,h with|[_,_],_=>rfl) fun _ _ F=>ok_how B T.TW T.C.TP one F
 have pool:Fn P w K mg base (CXF P w CF) 4 "take_pool" ["pools","words"] (spTPool K CW CF CP):=T.pool.mk (fun _ _ _ _ _ _ us h=>match us,h with|[_,_],_=>rfl) fun _ _ F=>ok_tpool B T.TW T.C.TP FL (by decide) take F
 have line:Fn P w K mg base (CXF P w CF) 3 "check_line" ["line"] (spLine K CF):=T.line.mk (fun _ _ _ _ _ _ us h=>match us,h with|[_],_=>rfl) fun _ _ F=>ok_line G B FL F
 have betI:FnI P w K mg base CX0 1 CB ["self","pool","pool_number","how","stake","sets","many"] (spBetI CB):=T.betI.mk (fun _ _ _ _ _ _ us h=>match us,h with|[_,_,_,_,_,_,_],_=>rfl) fun _ _ F=>ok_betI T.TB F
 have wordsI:FnI P w K mg base CX0 1 CW ["self","line"] (spWordsI K CW):=T.wordsI.mk (fun _ _ _ _ _ _ us h=>match us,h with|[_,_],_=>rfl) fun _ _ F=>ok_wordsI G T.TW F
 have many:Fn P w K mg base CX0 6 "count_of" ["pool","how","sets"] (spCof K CP):=(T.N.fmany T.C.TP).mono (by decide)
 have cost:FnM P w K mg base CX0 6 CB "cost" ["self"] (spCost K CB CP):=(T.cost.mk (fun _ _ _ _ _ _ us h=>match us,h with|[_],_=>rfl) fun _ _ F=>ok_cost T.TB F:FnM P w K mg base CX0 1 CB "cost" ["self"] (spCost K CB CP)).mono (by decide)
 have words:Fn P w K mg base (CXF P w CF) 7 "read_words" ["pools","words"] (spRead K CW CF CB CP):=T.words.mk (fun _ _ _ _ _ _ us h=>match us,h with|[_,_],_=>rfl) fun _ _ F=>ok_read B T.TW T.C.TP T.TB FL (k:=6) (by decide) (one.mono (by decide)) (pool.mono (by decide)) (stake.mono (by decide)) (how.mono (by decide)) sets betI (fin.mono (by decide)) many cost F
 have bet:Fn P w K mg base (CXF P w CF) 8 "read_bet" ["pools","codes"] (spBet K CF CB CP):=T.bet.mk (fun _ _ _ _ _ _ us h=>match us,h with|[_,_],_=>rfl) fun _ _ F=>ok_bet G B T.TW FL (k:=7) (by decide) (line.mono (by decide)) words (T.C.W.ftext.mono (by decide)) wordsI F
 exact T.look.mk (fun _ _ _ _ _ _ us h=>match us,h with|[_,_],_=>rfl) fun _ _ F=>ok_look (aW:=aW) card_fok G T.D T.Z T.mF (k:=8) (T.C.fcard.mono (by decide)) bet F
end
theorem rel_of {u:Value}{v:V}(r:absV u=some v):RelV v u:=by
 cases u <;> cases r <;> first|rfl|exact ⟨_,rfl⟩
theorem vals_of:∀ {us:List Value} {vs:List V},us.map absV=vs.map some->Vals vs us
 | [],[],_=>.nil
 | [],_::_,h=>by cases h
 | _::_,[],h=>by cases h
 | u::us,v::vs,h=>by
  rw [List.map_cons,List.map_cons] at h
  injection h with h1 h2
  exact .cons (rel_of h1) (vals_of h2)
section
variable {P:Program}{w:World}{K:PySem.W.Frag}{mg:Str->Option Value}{h:Heap}{x m qual:Str}{st:Stmt}{f C:Addr}{u:Value}{v:V}{fs:List Str}
 {oc kV dc pm cd ct:Value}{od an:Option Addr}{sl:Array (Option Value)}
theorem mg_none (X:K.In h) (G:h.Ns mainGlobals mg) (e:PySem.W.nsIn K mainGlobals x=some none:=by k_is):mg x=none:=by
 obtain ⟨o,es,ep,ho,hd,_,hf⟩:=G
 rw [← hf x]
 have z:=nsK_in e
 unfold nsK at z
 cases q:K.lookup mainGlobals with
 | none =>
  unfold PySem.W.nsIn at e
  rw [q] at e
  cases e
 | some o' =>
  have:=X _ _ q
  rw [ho] at this
  cases this
  obtain ⟨c,d,dt,sl⟩:=o
  cases hd
  rw [q] at z
  exact z
theorem gv (X:K.In h)(G:h.Ns mainGlobals mg)(e:PySem.W.nsIn K mainGlobals x=some (some u):=by k_is)(r:absV u=some v:=by first|rfl|decide +kernel):Gv mg x v:=⟨u,PySem.W.mg_of X G e,rel_of r⟩
theorem dfn_mk (X:K.In h)(G:h.Ns mainGlobals mg)(a:PySem.W.nsIn K mainGlobals x=some (some (.ref f)):=by k_is)(l:K.lookup f=some ⟨oc,od,.func (PySem.W.fnOf x x (defArgs st) (defBody st) (defScope st) .none kV dc pm an cd ct),sl⟩:=by k_is)
  (c:PySem.W.codeIn K cd x=true:=by k_is)(k:PySem.W.keepIn K (.ref f)=true:=by k_is):Dfn K mg x st:=⟨f,_,PySem.W.mg_of X G a,fun_mk l c k⟩
theorem dm_mk (a:PySem.W.findIn K (.ref C) m=some (some (.ref f)):=by k_is)(i:PySem.W.isFn K (.ref f)=true:=by k_is)(l:K.lookup f=some ⟨oc,od,.func (PySem.W.fnOf m qual (defArgs st) (defBody st) (defScope st) .none kV dc pm an cd ct),sl⟩:=by k_is)
  (c:PySem.W.codeIn K cd qual=true:=by k_is)(k:PySem.W.keepIn K (.ref f)=true:=by k_is):Dm K C m qual st:=⟨f,_,⟨a,i,k⟩,fun_mk l c k⟩
theorem di_mk (mk:PySem.W.makesIn K C=true:=by k_is)(kc:PySem.W.keepIn K (.ref C)=true:=by k_is)(a:PySem.W.findIn K (.ref C) "__init__"=some (some (.ref f)):=by k_is)(i:PySem.W.isFn K (.ref f)=true:=by k_is)(l:K.lookup f=some ⟨oc,od,.func (PySem.W.fnOf "__init__" qual (defArgs st) (defBody st) (defScope st) .none kV dc pm an cd ct),sl⟩:=by k_is)
  (c:PySem.W.codeIn K cd qual=true:=by k_is)(k:PySem.W.keepIn K (.ref f)=true:=by k_is):Di K C qual st:=⟨f,_,⟨mk,a,i,kc⟩,fun_mk l c k⟩
theorem fi_mk (l:K.lookup f=some ⟨oc,od,.func (PySem.W.fnOf "__init__" qual (defArgs st) (defBody st) (defScope st) .none kV dc pm an cd ct),sl⟩:=by k_is)
  (c:PySem.W.codeIn K cd qual=true:=by k_is)(k:PySem.W.keepIn K (.ref f)=true:=by k_is):∃ fd,Fun K "__init__" qual st f fd:=⟨_,fun_mk l c k⟩
def NoAll (K:PySem.W.Frag)(C:Addr)(fs:List Str):Prop:=∀ f∈fs,NoAttr K C f
theorem NoAll.nil:NoAll K C []:=fun _ h=>by cases h
theorem NoAll.cons {g:Str}(n:PySem.W.findIn K (.ref C) g=some none)(r:NoAll K C fs):NoAll K C (g::fs):=fun f h=>by
 cases h with
 | head=>exact n
 | tail _ h=>exact r f h
theorem ck_mk (X:K.In h)(G:h.Ns mainGlobals mg)(a:PySem.W.nsIn K mainGlobals x=some (some (.ref C)):=by k_is)(pg:PySem.W.plainGet K C Str.empty=true:=by k_is)(hd:PySem.W.hasDictIn K C=true:=by k_is)(po:PySem.W.plainOver K C=true:=by k_is)
  (sa:PySem.W.findIn K (.ref C) "__setattr__"=some (some (.builtin "object.__setattr__")):=by k_is)(no:NoAll K C fs:=by (repeat refine Bw.NoAll.cons (by k_is) ?_);exact Bw.NoAll.nil):CK K mg x fs C:=⟨⟨pg,hd,po,sa⟩,no,PySem.W.mg_of X G a⟩
theorem sqT_mk {a:Addr}{its:Array Value}{n:Nat}{xs:List V}(l:K.lookup a=some ⟨.type "tuple",od,.seq its n,sl⟩:=by k_is)(hs:its.size<=sizeLine:=by decide)(r:its.toList.map absV=xs.map some:=by first|rfl|decide +kernel):∀ H:Hp,SqT K H a xs:=fun _ =>
 .inr ⟨_,its,n,l,rfl,rfl,hs,vals_of r⟩
theorem ways_mk {a:Addr}{o:Obj}(l:K.lookup a=some o:=by k_is)(c:o.cls=.type "tuple":=by rfl)(d:o.dict=none:=by rfl):∃ o,K.lookup a=some o/\o.cls=.type "tuple"/\o.dict=none:=⟨o,l,c,d⟩
theorem key_is {s:String}{t:Tok}:keyIs (.inr (Bw.st (Bw.cd s))) (.str (Str.ofString s) t)=true:=by rw [← of_st];exact keyIs_str _ _
theorem key_h {s:String}:PyData.keyHash w.params (Str.ofString s)=keyH w (.inr (Bw.st (Bw.cd s))):=by rw [← of_st];rfl
theorem sizes_mk {dS d1 d2 d3 d4:Addr}{t1 t2 t3 t4:Tok}{ep:Nat}(l:K.lookup dS=some ⟨.type "dict",none,.dict #[⟨PyData.keyHash w.params (Str.ofString "place"),.str (Str.ofString "place") t1,.ref d1⟩,⟨PyData.keyHash w.params (Str.ofString "order"),.str (Str.ofString "order") t2,.ref d2⟩,
      ⟨PyData.keyHash w.params (Str.ofString "any"),.str (Str.ofString "any") t3,.ref d3⟩,⟨PyData.keyHash w.params (Str.ofString "legs"),.str (Str.ofString "legs") t4,.ref d4⟩] ep,#[]⟩:=by k_is) (ne:(dS==sysModules)=false:=by decide)
  (h1:∀ H,SqT K H d1 [.int 1,.int 4]:=by exact Bw.sqT_mk) (h2:∀ H,SqT K H d2 [.int 2,.int 4]:=by exact Bw.sqT_mk) (h3:∀ H,SqT K H d3 [.int 2,.int 3]:=by exact Bw.sqT_mk) (h4:∀ H,SqT K H d4 [.int 2,.int 6]:=by exact Bw.sqT_mk) :
  ∃ ts:Tote.Kind->Addr,DictK P w K dS [(.inr (Bw.st (Bw.cd "place")),.ref (ts .place)),(.inr (Bw.st (Bw.cd "order")),.ref (ts .order)),(.inr (Bw.st (Bw.cd "any")),.ref (ts .any)),(.inr (Bw.st (Bw.cd "legs")),.ref (ts .legs))]/\∀ (k:Tote.Kind) (H:Hp),SqT K H (ts k) [.int (sizeOf k).1,.int (sizeOf k).2]:=by
 have nd:([.inr (Bw.st (Bw.cd "place")),.inr (Bw.st (Bw.cd "order")),.inr (Bw.st (Bw.cd "any")),.inr (Bw.st (Bw.cd "legs"))]:List Key).Nodup:=by decide +kernel
 refine ⟨fun|.place=>d1|.order=>d2|.any=>d3|.legs=>d4,⟨fun h X=>⟨_,_,ep,X _ _ l,⟨rfl,rfl,rfl⟩,rfl,fun e he=>?_,.cons (key_is (t:=t1)) rfl (.cons (key_is (t:=t2)) rfl (.cons (key_is (t:=t3)) rfl (.cons (key_is (t:=t4)) rfl .nil))),nd⟩,ne⟩,fun k=>?_⟩
 · simp only [List.mem_toArray,List.mem_cons,List.not_mem_nil,or_false] at he
   rcases he with rfl|rfl|rfl|rfl
   · exact ⟨.inr (Bw.st (Bw.cd "place")),key_is (s:="place") (t:=t1),key_h (w:=w) (s:="place")⟩
   · exact ⟨.inr (Bw.st (Bw.cd "order")),key_is (s:="order") (t:=t2),key_h (w:=w) (s:="order")⟩
   · exact ⟨.inr (Bw.st (Bw.cd "any")),key_is (s:="any") (t:=t3),key_h (w:=w) (s:="any")⟩
   · exact ⟨.inr (Bw.st (Bw.cd "legs")),key_is (s:="legs") (t:=t4),key_h (w:=w) (s:="legs")⟩
 · cases k
   · exact h1
   · exact h2
   · exact h3
   · exact h4
theorem fixed_mk {aF t0 t1 t2 t3 t4 t5 t6:Addr}(l:∀ H,SqT K H aF [.ref t0,.ref t1,.ref t2,.ref t3,.ref t4,.ref t5,.ref t6]:=by exact Bw.sqT_mk)(h0:∀ H,SqT K H t0 [.int 0,.str (Str.ofString "pool")]:=by exact Bw.sqT_mk)(h1:∀ H,SqT K H t1 [.int 4,.str (Str.ofString "from")]:=by exact Bw.sqT_mk)
  (h2:∀ H,SqT K H t2 [.int 6,.str (Str.ofString "take")]:=by exact Bw.sqT_mk)(h3:∀ H,SqT K H t3 [.int 8,.str (Str.ofString "break")]:=by exact Bw.sqT_mk)(h4:∀ H,SqT K H t4 [.int 10,.str (Str.ofString "least")]:=by exact Bw.sqT_mk)(h5:∀ H,SqT K H t5 [.int 12,.str (Str.ofString "unit")]:=by exact Bw.sqT_mk)(h6:∀ H,SqT K H t6 [.int 14,.str (Str.ofString "none")]:=by exact Bw.sqT_mk) :
  ∃ ts:List Addr,(∀ H,SqT K H aF (ts.map V.ref))/\Paired (fun t (p:Nat×W)=>∀ H,SqT K H t [.int (p.1:Nat),.str (Bw.st p.2)]) ts fixedL:=by
 rw [of_st] at h0 h1 h2 h3 h4 h5 h6
 exact ⟨[t0,t1,t2,t3,t4,t5,t6],l,.cons h0 (.cons h1 (.cons h2 (.cons h3 (.cons h4 (.cons h5 (.cons h6 .nil))))))⟩
theorem keys_mk {N:Addr}{es:Array DictEntry}{ep:Nat}(l:K.lookup N=some ⟨oc,od,.dict es ep,sl⟩:=by k_is)(e:(es.toList.all fun e=>match e.key with
  | .str _ _=>true
  | _=>false)=true:=by rfl):strKeysK K N=true:=by
 unfold strKeysK
 rw [l]
 exact e
theorem exc_mk {N fI:Addr}{nm q:Str}{bs:List Value}{sn:List Str}{sub:List Value}{ab:Bool}{col:Option Bool}{dd:Option Addr}{k0 k1 k2 k3 k5:Option Value}(l:K.lookup C=some (excClassObj nm q C N bs BwX.excBm true sn sub ab col dd k0 k1 k2 k3 k5 "Exception.__new__"):=by k_is)
  (keys:strKeysK K N=true:=by exact Bw.keys_mk)(init:PySem.W.nsIn K N "__init__"=some (some (.ref fI)):=by k_is)(fn:PySem.W.isFn K (.ref fI)=true:=by k_is)(kp:PySem.W.keepIn K (.ref C)=true:=by k_is)(noSet:PySem.W.nsIn K N "__setattr__"=some none:=by k_is)(noK:PySem.W.nsIn K N "kind"=some none:=by k_is)(noP:PySem.W.nsIn K N "place"=some none:=by k_is)
  (sa:PySem.W.findIn K (.ref C) "__setattr__"=some (some (.builtin "object.__setattr__")):=by k_is)(ga:PySem.W.findIn K (.ref C) "__getattribute__"=some (some (.builtin "BaseException.__getattribute__")):=by k_is)(gt:PySem.W.findIn K (.ref C) "__getattr__"=some none:=by k_is)(fK:PySem.W.findIn K (.ref C) "kind"=some none:=by k_is)(fP:PySem.W.findIn K (.ref C) "place"=some none:=by k_is):ExcK K C N fI :=
 ⟨⟨_,l,nm,q,bs,sn,sub,ab,col,dd,k0,k1,k2,k3,k5,rfl⟩,keys,init,fn,kp,noSet,noK,noP,sa,ga,gt,fK,fP⟩
end
theorem bytes_nV {l:List Int}(h:∀ i∈l,0<=i/\i<=255):nV (bsN (BetNeutral.text l))=l.map V.int:=by
 unfold nV bsN BetNeutral.text BetNeutral.nats
 rw [List.map_map,List.map_map,List.map_map]
 refine List.map_congr_left fun i hi=>?_
 obtain ⟨h1,h2⟩:=h i hi
 show V.int (((UInt8.ofNat i.toNat).toNat:Nat):Int)=V.int i
 have e:(UInt8.ofNat i.toNat).toNat=i.toNat:=by
  rw [UInt8.toNat_ofNat']
  omega
 rw [e]
 congr 1
 omega
theorem in_bytes {l:List Int}(h:l.all (PySem.W.Codec.inInt (Int.ofNat 0) (Int.ofNat 255))=true):∀ i∈l,0<=i/\i<=255:=fun i hi=>by
 have z:=List.all_eq_true.mp h i hi
 unfold PySem.W.Codec.inInt at z
 simp only [Bool.and_eq_true,decide_eq_true_eq] at z
 exact ⟨z.1,z.2⟩
section
variable {K:PySem.W.Frag}{H:Hp}{xs:List V}{a b:List Int}
theorem ask2 {lo hi lo2 hi2:Nat} (hx:DwAll K H xs (PySem.W.Codec.encAll [.list lo hi (.int (Int.ofNat 0) (Int.ofNat 255)),.list lo2 hi2 (.int (Int.ofNat 0) (Int.ofNat 255))] ((a,b,()):List Int×List Int×Unit)))
  (hwi:PySem.W.Codec.withinAll [.list lo hi (.int (Int.ofNat 0) (Int.ofNat 255)),.list lo2 hi2 (.int (Int.ofNat 0) (Int.ofNat 255))] ((a,b,()):List Int×List Int×Unit)=true) :
  ∃ c d,xs=[.ref c,.ref d]/\SqL K H c (nV (bsN (BetNeutral.text a)))/\SqL K H d (nV (bsN (BetNeutral.text b))):=by
 have w:((PySem.W.Codec.inLen lo hi a&&a.all (PySem.W.Codec.inInt (Int.ofNat 0) (Int.ofNat 255)))&&((PySem.W.Codec.inLen lo2 hi2 b&&b.all (PySem.W.Codec.inInt (Int.ofNat 0) (Int.ofNat 255)))&&true))=true:=hwi
 simp only [Bool.and_eq_true] at w
 cases hx with
 | cons h1 h2 =>
  cases h2 with
  | cons h2 h3 =>
   cases h3
   cases h1 with
   | lst hs ha =>
    cases h2 with
    | lst hs2 ha2 =>
     have e:=L2.ints_dw a _ ha
     have e2:=L2.ints_dw b _ ha2
     subst e e2
     exact ⟨_,_,rfl,by rw [bytes_nV (in_bytes w.1.2)];exact hs,by rw [bytes_nV (in_bytes w.2.1.2)];exact hs2⟩
end
def TopX (P:Program)(w:World)(mg:Str->Option Value){K:PySem.W.Frag}{h:Heap}(_:K.In h):Prop:=∃ dS aF CP CW CB CF nF fI aW,TopB P w K mg dS aF CP CW CB CF nF fI aW
def DfnX (mg:Str->Option Value){K:PySem.W.Frag}{h:Heap}(_:K.In h)(x:Str)(st:Stmt):Prop:=Dfn K mg x st
section
variable {P:Program}{w:World}{K:PySem.W.Frag}{mg:Str->Option Value}{fa:Addr}{x:Str}{st:Stmt}{ps:List Str}{k:Nat}{sp:Sp}
theorem fin_mk (D:Dfn K mg x st) (hmg:mg x=some (.ref fa))
  (hb:∀ (kV doc pm:Value) (an:Option Addr) (cdv ct:Value) (us:List Value),us.length=ps.length->bindArgs (PySem.W.fnOf x x (defArgs st) (defBody st) (defScope st) .none kV doc pm an cdv ct) ⟨us,[]⟩=pure (ps.zip us))
  (ok:∀ (base:Heap) (f:Addr) (fd:FuncData),Fun K x x st f fd->FnOk P w K mg base CX0 k f fd ps sp) :
  ∃ fd:FuncData,(∀ (s:Shared) (us:List Value),us.length=ps.length->BindsTo s fd ⟨us,[]⟩ (ps.zip us))/\∀ base:Heap,K.In base->base.Ns mainGlobals mg->FnOk P w K mg base CX0 k fa fd ps sp:=by
 obtain ⟨f,fd,hm,F⟩:=D
 rw [hmg] at hm
 cases hm
 obtain ⟨oc,od,kV,doc,pm,an,cdv,ct,osl,rfl,lk,hcd⟩:=id F.ex
 exact ⟨_,fun s us hu=>.of_eq (hb _ _ _ _ _ _ us hu),fun base _ _=>ok base _ _ F⟩
end
theorem MOk.small {p:PoolM}{how:Nat}{sets:List (List Nat)}(m:MOk p how sets):sets.length<=6/\∀ s∈sets,s.length<=25:=by
 by_cases h0:how=0
 · obtain ⟨h1,h2⟩:=m.on h0
   exact ⟨by rw [h1];exact m.ok.six,fun s hs=>rises_25 (h2 s hs).1 (h2 s hs).2⟩
 · by_cases h1:how=1
   · obtain ⟨t,rfl,h2,h3⟩:=m.box h1
     exact ⟨by show 1<=6;decide,fun s hs=>by rw [List.mem_singleton.mp hs];exact h3⟩
   · obtain ⟨a,b,rfl,h2,h3,h4⟩:=m.key h0 h1
     have:=m.ok.six
     exact ⟨by show 2<=6;decide,fun s hs=>by
      rcases List.mem_cons.mp hs with e|e
      · rw [e];omega
      · rw [List.mem_singleton.mp e];exact h4⟩
def front (y:BetM)(i:Nat):List Int:=([0,((y.pool:Nat):Int),((y.how:Nat):Int),((y.stake:Nat):Int),((y.sets.length:Nat):Int)]:List Int)++(y.sets.take i).flatMap fun s=>((s.length:Nat):Int)::s.map fun (n:Nat)=>(n:Int)
theorem flat_len {c:Nat}:∀ (ss:List (List Nat)),(∀ s∈ss,s.length<=c)->(ss.flatMap fun s=>((s.length:Nat):Int)::s.map fun (n:Nat)=>(n:Int)).length<=ss.length*(c+1)
 | [],_=>by simp
 | s::ss,h=>by
  have h1:=flat_len ss fun t ht=>h t (List.mem_cons_of_mem _ ht)
  have h2:=h s (List.mem_cons_self ..)
  rw [List.flatMap_cons,List.length_append,List.length_cons,List.length_cons,List.length_map,Nat.add_mul]
  omega
theorem front_len {y:BetM}{p:PoolM}(m:MOk p y.how y.sets)(i:Nat):(front y i).length<=161:=by
 obtain ⟨h1,h2⟩:=m.small
 unfold front
 have h3:=flat_len (c:=25) (y.sets.take i) fun s hs=>h2 s (List.mem_of_mem_take hs)
 have h4:(y.sets.take i).length<=6:=by rw [List.length_take];omega
 have h5:(y.sets.take i).length*26<=6*26:=Nat.mul_le_mul_right _ h4
 rw [List.length_append]
 show 5+_<=161
 omega
theorem front_snoc {y:BetM}{i:Nat}{s:List Nat}(h:y.sets[i]?=some s):((front y i).map V.int++[V.int (s.length:Nat)])++nV s=(front y (i+1)).map V.int:=by
 unfold front nV
 rw [take_snoc h,List.flatMap_append,List.map_append,List.map_append,List.map_append]
 simp
theorem rd_list {t:TA}{i:Nat}{u:TS}{D:Ends}{σ:L2.St}{H:Hp}(q:t σ H fun xs H1=>xs.length<=sizeLine/\∀ p,H1 p=none->u D (σ.set i (some (.ref p))) (upd H1 p (.lst xs))):tSeq (tAsg (tLst t) (gName i)) u D σ H:=q
theorem rd_arg {te:TE}{t:TA}{σ:L2.St}{H:Hp}{v:V}{Q:List V->Hp->Prop}(h:Ev te σ H v)(q:t σ H fun xs H2=>Q (v::xs) H2):tCons te t σ H Q:=h _ q
section
variable {P:Program}{w:World}{K:PySem.W.Frag}{mg:Str->Option Value}{base:Heap}
def spRs (K:PySem.W.Frag) (g:BetM->PoolM->List Int):Sp:=fun vs H Q _=>∃ (c d:Addr) (t b:Bytes),vs=[.ref c,.ref d]/\SqL K H c (nV (bsN t))/\SqL K H d (nV (bsN b))/\∀ zs,Rs t b g zs->∀ H' L,H' L=some (.lst (zs.map V.int))->Q (.ref L) H'
theorem sc_means:FnScope ["card","bet","refusal","found","answer","numbers"] ["card","bet"] (defScope f_means):=⟨rfl,rfl,rfl,by decide +kernel,rfl,by decide +kernel,by decide +kernel⟩
theorem ok_meansC {CB CP:Addr}(G:GW mg)(TB:CK K mg "Bet" betFs CB){k:Nat}(FL:Fn P w K mg base CX0 k "look_at" ["card","bet"] (spLook K CB CP)){f:Addr}{fd:FuncData}(F:Fun K "means" "means" f_means f fd):FnOk P w K mg base CX0 (k+1) f fd ["card","bet"] (spRs K meansG):=by
 refine F.ok sc_means (fun vs H Q E h=>?_) (fun cdv A outer s H vs Q E hr h=>?_)
 · obtain ⟨_,_,_,_,rfl,_⟩:=h
   rfl
 · obtain ⟨c,d,t,b,rfl,hC,hB,q⟩:=h
   refine ⟨_,pss_cons (ps_asg (pe_fn FL hr pass0 (pa_cons (pv 0) (pa_cons (pv 1) pa_nil))) (pg_tup rfl (pgs_cons (pg_name (i:=2) sc_means.nd rfl (Or.inl rfl)) (pgs_cons (pg_name (i:=3) sc_means.nd rfl (Or.inl rfl)) pgs_nil))))
    (pss_cons (ps_if (pt_cmpR op_isN (pv 3) pe_non (nomark _)) (pss_one (ps_ret (pe_slice sl_list (pv 2) po_none (po_some pe_int)))) pss_nil)
    (pss_cons (ps_set (i:=4) sc_means.nd rfl (Or.inl rfl) (pe_lst (pa_cons pe_int (pa_cons (pe_fld (pv 3) rfl) (pa_cons (pe_fld (pv 3) rfl) (pa_cons (pe_fld (pv 3) rfl) (pa_cons (pe_callB call_len_seq (by rfl) G.len PySem.boot_len (pa_cons (pe_fld (pv 3) rfl) pa_nil)) pa_nil)))))))
    (pss_cons (ps_for PassesOwn.never rfl (pi_list (pe_fld (pv 3) rfl)) (pg_name (i:=5) sc_means.nd rfl (Or.inl rfl))
     (pss_cons (ps_expr (pe_bm PySem.F.plainAttrs_list PySem.F.slot_list_append PySem.F.type_list_append mt_append (pv 4) (pa_cons (pe_callB call_len_seq (by rfl) G.len PySem.boot_len (pa_cons (pv 5) pa_nil)) pa_nil)))
     (pss_one (ps_expr (pe_bm PySem.F.plainAttrs_list PySem.F.slot_list_extend PySem.F.type_list_extend mt_extend (pv 4) (pa_cons (pv 5) pa_nil))))))
    (pss_one (ps_ret (pv 4)))))),?_⟩
   refine ⟨_,rfl,_,rfl,c,d,t,b,rfl,hC,hB,fun zs hz H' T L hT hL=>?_,fun y hy H' T L x p hT hB' hp=>?_⟩
   · refine ⟨T,_,rfl,SqT.of hT,rfl,_,_,rfl,_,_,rfl,rfl,?_⟩
     refine rd_if (tv_test (ev_isN (ev_var rfl))) (fun h=>?_) (fun h=>absurd h (by decide))
     refine ⟨_,rfl,_,rfl,L,_,rfl,SqL.of hL,fun p hp=>?_⟩
     rw [show ((1:Int))=((1:Nat):Int) from rfl,cut_one]
     exact q _ (.inl ⟨zs,hz,rfl⟩) _ p upd_same
   · refine ⟨T,_,rfl,SqT.of hT,rfl,_,_,rfl,_,_,rfl,rfl,?_⟩
     refine rd_if (tv_test (ev_isN (ev_var rfl))) (fun h=>absurd (of_decide_eq_true h) (by intro z;cases z)) (fun h=>?_)
     obtain ⟨ps,hps,hpp⟩:=hp
     obtain ⟨dx,pa,sa,h1,h2,⟨as,h3,h3P⟩,h4,m⟩:=hB'
     have lenA:as.length=y.sets.length:=Paired.length h3P
     obtain ⟨few,short⟩:=m.small
     refine rd_list (rd_arg ev_c (rd_arg (ev_fld (ev_var rfl) h1 TB.cl (TB.no _ (by simp)) fBet_num) (rd_arg (ev_fld (ev_var rfl) h1 TB.cl (TB.no _ (by simp)) fBet_how) (rd_arg (ev_fld (ev_var rfl) h1 TB.cl (TB.no _ (by simp)) fBet_stake)
      (rd_arg (ev_lenQ (K:=K) (ev_fld (ev_var rfl) h1 TB.cl (TB.no _ (by simp)) fBet_sets) (.inl (SqL.of h3))) ⟨by show 5<=sizeLine;decide,fun L' hL'=>?_⟩)))))
     rw [List.length_map,lenA]
     have S1:Same H' (upd H' L' (.lst ((front y 0).map V.int))):=(Same.refl H').laid hL'
     have e1:(upd H' L' (.lst ((front y 0).map V.int))) L'=some (.lst ((front y 0).map V.int)):=upd_same
     have e0:upd H' L' (.lst [V.int 0,V.int ((y.pool:Nat):Int),V.int ((y.how:Nat):Int),V.int ((y.stake:Nat):Int),V.int ((y.sets.length:Nat):Int)])=upd H' L' (.lst ((front y 0).map V.int)):=rfl
     refine ⟨_,rfl,x,CB,dx,_,_,rfl,S1 _ _ h1,TB.cl,TB.no _ (by simp),fBet_sets,sa,rfl,⟨_,SqL.of (S1 _ _ h3)⟩,for_list (K:=K) (a:=sa) (xs:=as.map V.ref) (fun i σ H2=>∃ v5:Option V,σ=[some (.ref c),some (.ref d),some (.ref L),some (.ref x),some (.ref L'),v5]/\Same H' H2/\H2 L'=some (.lst ((front y i).map V.int)))
      ⟨none,rfl,S1,e1⟩ (fun i σ H2 _ ⟨_,_,S,_⟩=>SqL.of (S _ _ h3)) ?_ ?_⟩
     · rintro i z σ H2 hi ⟨v5,rfl,S2,e2⟩
       rw [List.getElem?_map] at hi
       obtain ⟨ai,hai,rfl⟩:=Option.map_eq_some_iff.mp hi
       obtain ⟨si,hsi,hI⟩:=Paired.at1 h3P hai
       have hl:=front_len m i
       have hI2:=S2 _ _ hI
       have nL:ai≠L':=ne_of_none hI hL'
       have s25:=short si (List.mem_of_getElem? hsi)
       refine ⟨_,rfl,.inl ⟨rfl,_,SqL.of e2⟩,(ev_lenQ (K:=K) (ev_var rfl) (.inl (SqL.of hI2))) _ ⟨L',_,_,rfl,rfl,e2,by rw [List.length_map,sizeLine_eq];omega,?_⟩⟩
       refine ⟨_,rfl,.inl ⟨rfl,_,SqL.of upd_same⟩,_,rfl,L',ai,_,_,rfl,rfl,upd_same,by rw [upd_ne nL];exact hI2,?_,?_⟩
       · rw [List.length_append,List.length_map,nV_len,sizeLine_eq]
         simp
         omega
       · rw [upd_upd,nV_len,front_snoc hsi]
         refine ⟨_,rfl,fun b' u z=>?_,upd_same⟩
         rw [upd_ne (ne_of_none z hL')]
         exact S2 b' u z
     · rintro σ H2 ⟨v5,rfl,S2,e2⟩
       rw [List.length_map,lenA] at e2
       refine ⟨_,rfl,q _ (.inr ⟨y,ps,p,hy,hps,hpp,m,rfl⟩) _ L' ?_⟩
       rw [e2]
       unfold front meansG
       rw [List.take_length]
end
end Bw
end
set_option Elab.async false
set_option linter.all false
set_option maxRecDepth 100000
open PySem PySem.W PyProof.Rows
set_option maxHeartbeats 0 in
theorem PySem.Challenge.cw_betwords_s02_means_holds : PySem.Challenge.rw_betwords_s02_means.Holds := by
 refine holds_os (r:=PySem.Challenge.rw_betwords_s02_means) (q:=Bw.qV) (loose:=Bw.lV) (Xt:=Bw.xV) (XP:=XL Bw.qV []) (Yf:=(PySem.W.kHook Bw.kTop Bw.kAs Bw.kOk).obs) (Ya:=(PySem.W.kHook Bw.kTop Bw.kAs Bw.kOk).val) (YP:=(PySem.W.kHook Bw.kTop Bw.kAs Bw.kOk).says) (d:=Bw.dV) (kwd:=[]) (N:=5200) Bw.hl (PySem.W.kHook Bw.kTop Bw.kAs Bw.kOk).of (PySem.W.kHook Bw.kTop Bw.kAs Bw.kOk).keeps (fun s e=>xl_of s (Bool.and_eq_true_iff.mp e).1) XL.keeps (by kernel_rfl) (by kernel_rfl) (by kernel_rfl) (fun s e=>recFacts_of (Bool.and_eq_true_iff.mp e).2) os_shapes (by decide +kernel) (by decide +kernel) ⟨rfl,rfl,rfl,rfl,rfl,by decide +kernel⟩ ⟨[.list [],.list []],by decide +kernel,by decide +kernel⟩ ?_
 k_fillS
 refine L2.walk_specK (r:=PySem.Challenge.rw_betwords_s02_means) (k:=10) (CX:=L2.CX0) (ps:=["card","bet"]) (sp:=(fun K=>Bw.spRs K Bw.meansG)) (by decide +kernel) rfl rfl ⟨rfl,by decide,by decide⟩ (fun w h Y=>kIn_of Y) ?F ?S (fun _ _ _ _ z=>z)
 case F =>
  intro w mg fa h Y KX G hmg
  have gw:Bw.GW mg:=⟨Bw.gv KX G,Bw.gv KX G,Bw.gv KX G,Bw.gv KX G,Bw.mg_none KX G,Bw.mg_none KX G,Bw.mg_none KX G⟩
  have T:Bw.TopX PySem.Challenge.rw_betwords_s02_means.prog w mg KX:=⟨39,51,68,259,217,190,189,187,173,⟨⟨⟨gw,Bw.dfn_mk KX G,Bw.dfn_mk KX G,Bw.dfn_mk KX G,Bw.dfn_mk KX G⟩,⟨Bw.gv KX G,Bw.gv KX G,Bw.gv KX G,Bw.gv KX G,Bw.gv KX G,Bw.gv KX G,Bw.gv KX G,Bw.sizes_mk,Bw.fixed_mk,Bw.mg_none KX G⟩,Bw.ck_mk KX G,Bw.di_mk,Bw.dfn_mk KX G,Bw.dfn_mk KX G,Bw.dfn_mk KX G,Bw.dfn_mk KX G,Bw.dfn_mk KX G,Bw.dfn_mk KX G,Bw.dfn_mk KX G,Bw.dfn_mk KX G⟩,
    ⟨gw,⟨Bw.gv KX G,Bw.gv KX G,Bw.gv KX G,Bw.gv KX G,Bw.gv KX G,Bw.gv KX G,Bw.gv KX G,Bw.gv KX G,Bw.gv KX G,Bw.gv KX G,Bw.gv KX G,Bw.gv KX G,Bw.gv KX G,Bw.gv KX G,Bw.gv KX G,Bw.sqT_mk,Bw.ways_mk,Bw.mg_none KX G,Bw.mg_none KX G⟩,⟨Bw.mg_none KX G,Bw.mg_none KX G,Bw.mg_none KX G,Bw.mg_none KX G,Bw.mg_none KX G,Bw.gv KX G⟩,Bw.dfn_mk KX G,Bw.dfn_mk KX G,Bw.dfn_mk KX G,Bw.dfn_mk KX G,Bw.dfn_mk KX G,Bw.dfn_mk KX G,Bw.dfn_mk KX G,Bw.dfn_mk KX G,Bw.dfn_mk KX G⟩,
    ⟨Bw.gv KX G,Bw.gv KX G,Bw.gv KX G,Bw.gv KX G,Bw.gv KX G⟩,Bw.ck_mk KX G,Bw.ck_mk KX G,Bw.exc_mk,mg_of KX G (by k_is),Bw.fi_mk,Bw.di_mk,Bw.dm_mk,Bw.di_mk,Bw.dm_mk,Bw.dm_mk,Bw.dm_mk,Bw.dfn_mk KX G,Bw.dfn_mk KX G,Bw.dfn_mk KX G,Bw.dfn_mk KX G,Bw.dfn_mk KX G,Bw.dfn_mk KX G,Bw.dfn_mk KX G,Bw.dfn_mk KX G,Bw.dfn_mk KX G,Bw.dfn_mk KX G,Bw.dfn_mk KX G,Bw.dfn_mk KX G⟩⟩
  have J:Bw.DfnX mg KX "means" Bw.f_means:=Bw.dfn_mk KX G
  obtain ⟨dS,aF,CP,CW,CB,CF,nF,fI,aW,T⟩:=T
  exact Bw.fin_mk J hmg (fun _ _ _ _ _ _ us h=>match us,h with|[_,_],_=>rfl) (fun base f fd F=>Bw.ok_meansC gw T.TB T.flook F)
 case S =>
  intro K H xs a hO hwi hask hx
  obtain ⟨c,d,rfl,hc,hd⟩:=Bw.ask2 (a:=a.1) (b:=a.2.1) hx hwi
  refine ⟨c,d,_,_,rfl,hc,hd,fun zs hz H' L hL=>?_⟩
  rw [Bw.means_ans hz] at hL
  exact .lst (L2.SqL.of hL) (L2.dw_ints _)
