import PyProof.Rows.All
import Wide.All
import OpenK.AllK
import Wide.FinOn
import Lean
import PyProof.EqAt
import PyProof.EqKinds
import PyProof.TupleCall
import PySem.Challenge.RW_lampwish_k06_whole_solved
set_option Elab.async false
set_option linter.all false
set_option maxRecDepth 100000
set_option maxHeartbeats 4000000
namespace L2
open PySem PySem.Spec PyProof.Rows
def z0r (s:Stmt):Arguments:=match s with
 | .FunctionDef _ a _ _ _ _ _ _ _ _=>a
 | _=>{ posonlyargs:=[],args:=[],vararg:=none,kwonlyargs:=[],kw_defaults:=[],kwarg:=none,defaults:=[] }
def z0m (s:Stmt):List Stmt:=match s with
 | .FunctionDef _ _ b _ _ _ _ _ _ _=>b
 | _=>[]
def z0g (s:Stmt):Scope:=match s with
 | .FunctionDef _ _ _ _ _ _ sc _ _ _=>sc
 | _=>{ kind:=.function,names:=[],isGenerator:=false,isCoroutine:=false }
def z3x (s:Stmt)(j:Nat):Stmt:=match s with
 | .ClassDef _ _ _ body _ _ _ _ _ _ _=>body.getD j (.Pass ⟨0,0,0,0⟩)
 | _=>.Pass ⟨0,0,0,0⟩
end L2
namespace My
open PySem L2 PySem.Spec PyProof.Rows
def top (i:Nat):Stmt:=PySem.Challenge.pw_lampwish_k06_whole_solved.main.body.getD i (.Pass ⟨0,0,0,0⟩)
def de (P:Params)(x:Str)(t:Nat)(v:Value):DictEntry:=⟨PyData.keyHash P x,.str x t,v⟩
def fo (n q:Str)(s:Stmt)(m:Value)(c:Addr):Obj:=⟨.type "function",none,.func (PySem.W.fnOf n q (z0r s) (z0m s) (z0g s) .none .none .none m none (.ref c) .none),#[]⟩
def co (n:Str)(t:Nat)(q:Str)(u v:Nat)(l k:Int)(a:Addr)(f:Int)(b:Addr)(A B C:Value)(d:Addr)(m l':Int)(y:Nat):Obj:=⟨.type "code",none,.fields #[.str n t,.str q u,.str "/claim/cut.py" v,.int l 0,.int k 0,.int 0 0,.int 0 0,.int 3 0,.ref a,.bool true,.int f 0,.ref b,A,B,C,.ref d,.int m 0,.int l' 0,.str "/claim/cut.py" y],#[]⟩
def hk (P:Params):PySem.W.Frag :=
(nat_lit 2,⟨.none,none,(.dict #[] 0),#[]⟩) ::
(nat_lit 3,⟨(.type "dict"),none,(.dict #[(de P "__name__" 165 (.str "law_lampwish_k06_whole_solved" 460)),(de P "__doc__" 166 .none),(de P "__package__" 167 .none),(de P "__loader__" 168 (.builtin "__main__.__loader__#opaque")),(de P "__spec__" 169 .none),(de P "__annotations__" 170 (.ref 6)),(de P "__builtins__" 171 (.ref 4)),(de P "__file__" 173 (.str "/claim/cut.py" 172)),(de P "__cached__" 174 .none),(de P "LampError" 206 (.ref 24)),(de P "NoMerge" 222 (.ref 37)),(de P "merged" 230 (.ref 44)),(de P "left_open" 236 (.ref 49)),(de P "each_once" 243 (.ref 56)),(de P "marked" 252 (.ref 63)),(de P "Tally" 347 (.ref 127)),(de P "free_lamp" 358 (.ref 138)),(de P "gone_back" 374 (.ref 145)),(de P "step_back" 387 (.ref 152)),(de P "solved" 397 (.ref 159)),(de P "search" 409 (.ref 166)),(de P "go_back" 420 (.ref 173)),(de P "next_guess" 430 (.ref 180)),(de P "setting_of" 436 (.ref 185)),(de P "shows" 448 (.ref 192)),(de P "is_right" 459 (.ref 199)),(de P "_law_draw" 470 (.ref 206)),(de P "_law_whole" 477 (.ref 213)),(de P "_law_at" 485 (.ref 220)),(de P "_law_alike" 497 (.ref 227)),(de P "_law_setting_of" 507 (.ref 234)),(de P "_law_wishes_of" 520 (.ref 241)),(de P "_law_meets" 529 (.ref 248)),(de P "_law_all_met" 538 (.ref 255)),(de P "_law_planted" 548 (.ref 262)),(de P "_law_all_signs" 554 (.ref 267)),(de P "_law_merge" 560 (.ref 272)),(de P "_law_right_step" 572 (.ref 279)),(de P "_law_refuted" 582 (.ref 286)),(de P "_law_full" 591 (.ref 293)),(de P "_law_answer" 598 (.ref 300)),(de P "_law_first_of" 604 (.ref 305)),(de P "_law_open" 614 (.ref 312)),(de P "_law_broken_at" 623 (.ref 319)),(de P "_law_next" 633 (.ref 326)),(de P "_law_step_of" 643 (.ref 333)),(de P "_law_back" 656 (.ref 340)),(de P "_law_worked_out" 662 (.ref 345)),(de P "_law_as_worked" 674 (.ref 352)),(de P "law" 680 (.ref 357))] 50),#[]⟩) ::
(nat_lit 23,⟨(.type "dict"),none,(.dict #[(de P "__module__" 196 (.str "lampwish.errors" 187)),(de P "__firstlineno__" 200 (.int 2 199)),(de P "__static_attributes__" 201 (.ref 22)),(de P "__weakref__" 203 (.ref 25)),(de P "__doc__" 204 .none)] 3),#[]⟩) ::
(nat_lit 24,⟨(.type "type"),none,(.cls (PySem.ClassData.mk "LampError" [(.type "ValueError")] [(.ref 24),(.type "ValueError"),(.type "Exception"),(.type "BaseException"),(.type "object")] 23 "LampError" true [] [(.ref 37)] false none false)),#[(some (.ref 15)),none,(some (.str "LampError" 189)),(some (.str "LampError" 197)),(some (.builtin "ValueError.__new__")),(some (.bool true))]⟩) ::
(nat_lit 25,⟨(.type "getset_descriptor"),none,(.fields #[(.str "__weakref__" 202),(.ref 24),(.builtin "ExceptionGroup.__weakref__"),.none]),#[]⟩) ::
(nat_lit 36,⟨(.type "dict"),none,(.dict #[(de P "__module__" 214 (.str "lampwish.errors" 187)),(de P "__firstlineno__" 218 (.int 4 217)),(de P "__static_attributes__" 219 (.ref 35)),(de P "__doc__" 220 .none)] 2),#[]⟩) ::
(nat_lit 37,⟨(.type "type"),none,(.cls (PySem.ClassData.mk "NoMerge" [(.ref 24)] [(.ref 37),(.ref 24),(.type "ValueError"),(.type "Exception"),(.type "BaseException"),(.type "object")] 36 "NoMerge" true [] [] false none false)),#[(some (.ref 28)),none,(some (.str "NoMerge" 207)),(some (.str "NoMerge" 215)),(some (.builtin "ValueError.__new__")),(some (.bool true))]⟩) ::
(nat_lit 43,co "merged" 225 "merged" 226 227 7 3 40 181 41 .none .none .none 42 228 7 229) ::
(nat_lit 44,fo "merged" "merged" (top 4) (.str "lampwish.wishes" 223) 43) ::
(nat_lit 48,co "left_open" 231 "left_open" 232 233 15 2 45 181 46 .none .none .none 47 234 15 235) ::
(nat_lit 49,fo "left_open" "left_open" (top 5) (.str "lampwish.wishes" 223) 48) ::
(nat_lit 55,co "each_once" 237 "each_once" 238 239 20 1 50 181 51 .none (.ref 52) (.ref 53) 54 241 20 242) ::
(nat_lit 56,fo "each_once" "each_once" (top 6) (.str "lampwish.wishes" 223) 55) ::
(nat_lit 62,co "marked" 244 "marked" 245 246 22 1 57 181 58 .none (.ref 59) (.ref 60) 61 250 22 251) ::
(nat_lit 63,fo "marked" "marked" (top 7) (.str "lampwish.wishes" 223) 62) ::
(nat_lit 76,co "__init__" 267 "Tally.__init__" 268 269 30 2 71 181 72 .none (.ref 73) (.ref 74) 75 273 30 274) ::
(nat_lit 77,fo "__init__" "Tally.__init__" (z3x (top 9) 0) (.str "lampwish.tally" 253) 76) ::
(nat_lit 81,co "put_wish" 276 "Tally.put_wish" 277 278 42 2 78 181 79 .none .none .none 80 279 42 280) ::
(nat_lit 82,fo "put_wish" "Tally.put_wish" (z3x (top 9) 1) (.str "lampwish.tally" 253) 81) ::
(nat_lit 88,co "put" 282 "Tally.put" 283 284 52 3 83 181 84 .none (.ref 85) (.ref 86) 87 288 52 289) ::
(nat_lit 89,fo "put" "Tally.put" (z3x (top 9) 2) (.str "lampwish.tally" 253) 88) ::
(nat_lit 95,co "take_off" 291 "Tally.take_off" 292 293 57 1 90 181 91 .none (.ref 92) (.ref 93) 94 296 57 297) ::
(nat_lit 96,fo "take_off" "Tally.take_off" (z3x (top 9) 3) (.str "lampwish.tally" 253) 95) ::
(nat_lit 102,co "count_letter" 299 "Tally.count_letter" 300 301 63 3 97 181 98 .none (.ref 99) (.ref 100) 101 306 63 307) ::
(nat_lit 103,fo "count_letter" "Tally.count_letter" (z3x (top 9) 4) (.str "lampwish.tally" 253) 102) ::
(nat_lit 109,co "sort_in" 309 "Tally.sort_in" 310 311 73 2 104 181 105 .none (.ref 106) (.ref 107) 108 314 73 315) ::
(nat_lit 110,fo "sort_in" "Tally.sort_in" (z3x (top 9) 5) (.str "lampwish.tally" 253) 109) ::
(nat_lit 116,co "first_broken" 317 "Tally.first_broken" 318 319 82 1 111 181 112 .none (.ref 113) (.ref 114) 115 321 82 322) ::
(nat_lit 117,fo "first_broken" "Tally.first_broken" (z3x (top 9) 6) (.str "lampwish.tally" 253) 116) ::
(nat_lit 123,co "go_on" 324 "Tally.go_on" 325 326 85 1 118 181 119 .none (.ref 120) (.ref 121) 122 329 85 330) ::
(nat_lit 124,fo "go_on" "Tally.go_on" (z3x (top 9) 7) (.str "lampwish.tally" 253) 123) ::
(nat_lit 126,⟨(.type "dict"),none,(.dict #[(de P "__module__" 262 (.str "lampwish.tally" 253)),(de P "__firstlineno__" 266 (.int 28 265)),(de P "__init__" 275 (.ref 77)),(de P "put_wish" 281 (.ref 82)),(de P "put" 290 (.ref 89)),(de P "take_off" 298 (.ref 96)),(de P "count_letter" 308 (.ref 103)),(de P "sort_in" 316 (.ref 110)),(de P "first_broken" 323 (.ref 117)),(de P "go_on" 331 (.ref 124)),(de P "__static_attributes__" 340 (.ref 125)),(de P "__dict__" 342 (.ref 128)),(de P "__weakref__" 344 (.ref 129)),(de P "__doc__" 345 .none)] 4),#[]⟩) ::
(nat_lit 127,⟨(.type "type"),none,(.cls (PySem.ClassData.mk "Tally" [(.type "object")] [(.ref 127),(.type "object")] 126 "Tally" true [] [] false none false)),#[none,none,(some (.str "Tally" 255)),(some (.str "Tally" 263)),(some (.builtin "object.__new__")),(some (.bool true))]⟩) ::
(nat_lit 128,⟨(.type "getset_descriptor"),none,(.fields #[(.str "__dict__" 341),(.ref 127),(.builtin "function.__dict__"),(.builtin "function.__dict__#set")]),#[]⟩) ::
(nat_lit 129,⟨(.type "getset_descriptor"),none,(.fields #[(.str "__weakref__" 343),(.ref 127),(.builtin "ExceptionGroup.__weakref__"),.none]),#[]⟩) ::
(nat_lit 137,co "free_lamp" 350 "free_lamp" 351 352 90 2 132 181 133 .none (.ref 134) (.ref 135) 136 356 90 357) ::
(nat_lit 138,fo "free_lamp" "free_lamp" (top 11) (.str "lampwish.forcing" 348) 137) ::
(nat_lit 144,co "gone_back" 361 "gone_back" 362 363 96 3 139 181 140 .none (.ref 141) (.ref 142) 143 372 96 373) ::
(nat_lit 145,fo "gone_back" "gone_back" (top 13) (.str "lampwish.solving" 359) 144) ::
(nat_lit 151,co "step_back" 375 "step_back" 376 377 111 4 146 181 147 .none (.ref 148) (.ref 149) 150 385 111 386) ::
(nat_lit 152,fo "step_back" "step_back" (top 14) (.str "lampwish.solving" 359) 151) ::
(nat_lit 158,co "solved" 388 "solved" 389 390 118 2 153 181 154 .none (.ref 155) (.ref 156) 157 395 118 396) ::
(nat_lit 159,fo "solved" "solved" (top 15) (.str "lampwish.solving" 359) 158) ::
(nat_lit 165,co "search" 398 "search" 399 400 124 3 160 181 161 .none (.ref 162) (.ref 163) 164 407 124 408) ::
(nat_lit 166,fo "search" "search" (top 16) (.str "lampwish.solving" 359) 165) ::
(nat_lit 172,co "go_back" 410 "go_back" 411 412 139 2 167 181 168 .none (.ref 169) (.ref 170) 171 418 139 419) ::
(nat_lit 173,fo "go_back" "go_back" (top 17) (.str "lampwish.solving" 359) 172) ::
(nat_lit 179,co "next_guess" 421 "next_guess" 422 423 149 3 174 181 175 .none (.ref 176) (.ref 177) 178 428 149 429) ::
(nat_lit 180,fo "next_guess" "next_guess" (top 18) (.str "lampwish.solving" 359) 179) ::
(nat_lit 184,co "setting_of" 431 "setting_of" 432 433 154 2 181 181 182 .none .none .none 183 434 154 435) ::
(nat_lit 185,fo "setting_of" "setting_of" (top 19) (.str "lampwish.solving" 359) 184) ::
(nat_lit 191,co "shows" 439 "shows" 440 441 157 2 186 181 187 .none (.ref 188) (.ref 189) 190 446 157 447) ::
(nat_lit 192,fo "shows" "shows" (top 21) (.str "lampwish.showing" 437) 191) ::
(nat_lit 198,co "is_right" 449 "is_right" 450 451 166 2 193 181 194 .none (.ref 195) (.ref 196) 197 457 166 458) ::
(nat_lit 199,fo "is_right" "is_right" (top 22) (.str "lampwish.showing" 437) 198) ::
(nat_lit 205,co "_law_draw" 462 "_law_draw" 463 464 177 3 200 181 201 .none (.ref 202) (.ref 203) 204 468 177 469) ::
(nat_lit 206,fo "_law_draw" "_law_draw" (top 24) (.str "law_lampwish_k06_whole_solved" 460) 205) ::
(nat_lit 212,co "_law_whole" 471 "_law_whole" 472 473 179 1 207 181 208 .none (.ref 209) (.ref 210) 211 475 179 476) ::
(nat_lit 213,fo "_law_whole" "_law_whole" (top 25) (.str "law_lampwish_k06_whole_solved" 460) 212) ::
(nat_lit 219,co "_law_at" 478 "_law_at" 479 480 181 2 214 181 215 .none (.ref 216) (.ref 217) 218 483 181 484) ::
(nat_lit 220,fo "_law_at" "_law_at" (top 26) (.str "law_lampwish_k06_whole_solved" 460) 219) ::
(nat_lit 226,co "_law_alike" 486 "_law_alike" 487 488 185 2 221 181 222 .none (.ref 223) (.ref 224) 225 495 185 496) ::
(nat_lit 227,fo "_law_alike" "_law_alike" (top 27) (.str "law_lampwish_k06_whole_solved" 460) 226) ::
(nat_lit 233,co "_law_setting_of" 498 "_law_setting_of" 499 500 207 2 228 181 229 .none (.ref 230) (.ref 231) 232 505 207 506) ::
(nat_lit 234,fo "_law_setting_of" "_law_setting_of" (top 28) (.str "law_lampwish_k06_whole_solved" 460) 233) ::
(nat_lit 240,co "_law_wishes_of" 508 "_law_wishes_of" 509 510 212 2 235 181 236 .none (.ref 237) (.ref 238) 239 518 212 519) ::
(nat_lit 241,fo "_law_wishes_of" "_law_wishes_of" (top 29) (.str "law_lampwish_k06_whole_solved" 460) 240) ::
(nat_lit 247,co "_law_meets" 521 "_law_meets" 522 523 225 2 242 181 243 .none (.ref 244) (.ref 245) 246 527 225 528) ::
(nat_lit 248,fo "_law_meets" "_law_meets" (top 30) (.str "law_lampwish_k06_whole_solved" 460) 247) ::
(nat_lit 254,co "_law_all_met" 530 "_law_all_met" 531 532 230 2 249 181 250 .none (.ref 251) (.ref 252) 253 536 230 537) ::
(nat_lit 255,fo "_law_all_met" "_law_all_met" (top 31) (.str "law_lampwish_k06_whole_solved" 460) 254) ::
(nat_lit 261,co "_law_planted" 539 "_law_planted" 540 541 235 2 256 181 257 .none (.ref 258) (.ref 259) 260 546 235 547) ::
(nat_lit 262,fo "_law_planted" "_law_planted" (top 32) (.str "law_lampwish_k06_whole_solved" 460) 261) ::
(nat_lit 266,co "_law_all_signs" 549 "_law_all_signs" 550 551 243 2 263 181 264 .none .none .none 265 552 243 553) ::
(nat_lit 267,fo "_law_all_signs" "_law_all_signs" (top 33) (.str "law_lampwish_k06_whole_solved" 460) 266) ::
(nat_lit 271,co "_law_merge" 555 "_law_merge" 556 557 251 3 268 181 269 .none .none .none 270 558 251 559) ::
(nat_lit 272,fo "_law_merge" "_law_merge" (top 34) (.str "law_lampwish_k06_whole_solved" 460) 271) ::
(nat_lit 278,co "_law_right_step" 561 "_law_right_step" 562 563 258 2 273 181 274 .none (.ref 275) (.ref 276) 277 570 258 571) ::
(nat_lit 279,fo "_law_right_step" "_law_right_step" (top 35) (.str "law_lampwish_k06_whole_solved" 460) 278) ::
(nat_lit 285,co "_law_refuted" 573 "_law_refuted" 574 575 269 2 280 181 281 .none (.ref 282) (.ref 283) 284 580 269 581) ::
(nat_lit 286,fo "_law_refuted" "_law_refuted" (top 36) (.str "law_lampwish_k06_whole_solved" 460) 285) ::
(nat_lit 292,co "_law_full" 583 "_law_full" 584 585 280 2 287 181 288 .none (.ref 289) (.ref 290) 291 589 280 590) ::
(nat_lit 293,fo "_law_full" "_law_full" (top 37) (.str "law_lampwish_k06_whole_solved" 460) 292) ::
(nat_lit 299,co "_law_answer" 592 "_law_answer" 593 594 287 1 294 181 295 .none (.ref 296) (.ref 297) 298 596 287 597) ::
(nat_lit 300,fo "_law_answer" "_law_answer" (top 38) (.str "law_lampwish_k06_whole_solved" 460) 299) ::
(nat_lit 304,co "_law_first_of" 599 "_law_first_of" 600 601 291 2 301 181 302 .none .none .none 303 602 291 603) ::
(nat_lit 305,fo "_law_first_of" "_law_first_of" (top 39) (.str "law_lampwish_k06_whole_solved" 460) 304) ::
(nat_lit 311,co "_law_open" 605 "_law_open" 606 607 299 2 306 181 307 .none (.ref 308) (.ref 309) 310 612 299 613) ::
(nat_lit 312,fo "_law_open" "_law_open" (top 40) (.str "law_lampwish_k06_whole_solved" 460) 311) ::
(nat_lit 318,co "_law_broken_at" 615 "_law_broken_at" 616 617 307 2 313 181 314 .none (.ref 315) (.ref 316) 317 621 307 622) ::
(nat_lit 319,fo "_law_broken_at" "_law_broken_at" (top 41) (.str "law_lampwish_k06_whole_solved" 460) 318) ::
(nat_lit 325,co "_law_next" 624 "_law_next" 625 626 312 2 320 181 321 .none (.ref 322) (.ref 323) 324 631 312 632) ::
(nat_lit 326,fo "_law_next" "_law_next" (top 42) (.str "law_lampwish_k06_whole_solved" 460) 325) ::
(nat_lit 332,co "_law_step_of" 634 "_law_step_of" 635 636 320 4 327 181 328 .none (.ref 329) (.ref 330) 331 641 320 642) ::
(nat_lit 333,fo "_law_step_of" "_law_step_of" (top 43) (.str "law_lampwish_k06_whole_solved" 460) 332) ::
(nat_lit 339,co "_law_back" 644 "_law_back" 645 646 324 3 334 181 335 .none (.ref 336) (.ref 337) 338 654 324 655) ::
(nat_lit 340,fo "_law_back" "_law_back" (top 44) (.str "law_lampwish_k06_whole_solved" 460) 339) ::
(nat_lit 344,co "_law_worked_out" 657 "_law_worked_out" 658 659 336 2 341 181 342 .none .none .none 343 660 336 661) ::
(nat_lit 345,fo "_law_worked_out" "_law_worked_out" (top 45) (.str "law_lampwish_k06_whole_solved" 460) 344) ::
(nat_lit 351,co "_law_as_worked" 663 "_law_as_worked" 664 665 354 2 346 181 347 .none (.ref 348) (.ref 349) 350 672 354 673) ::
(nat_lit 352,fo "_law_as_worked" "_law_as_worked" (top 46) (.str "law_lampwish_k06_whole_solved" 460) 351) ::
(nat_lit 356,co "law" 675 "law" 676 677 365 1 353 181 354 .none .none .none 355 678 365 679) ::
(nat_lit 357,fo "law" "law" (top 47) (.str "law_lampwish_k06_whole_solved" 460) 356)::[]
def hkA:List Addr:=[2,3,23,24,25,36,37,43,44,48,49,55,56,62,63,76,77,81,82,88,89,95,96,102,103,109,110,116,117,123,124,126,127,128,129,137,138,144,145,151,152,158,159,165,166,172,173,179,180,184,185,191,192,198,199,205,206,212,213,219,220,226,227,233,234,240,241,247,248,254,255,261,262,266,267,271,272,278,279,285,286,292,293,299,300,304,305,311,312,318,319,325,326,332,333,339,340,344,345,351,352,356,357]
def qv:Program:={ PySem.Challenge.pw_lampwish_k06_whole_solved with main:={ PySem.Challenge.pw_lampwish_k06_whole_solved.main with body:=([1,2,4,5,6,7,9,11,13,14,15,16,17,18,19,21,22,24,25,26,27,28,29,30,31,32,33,34,35,36,37,38,39,40,41,42,43,44,45,46,47]:List Nat).map top } }
theorem hkE (P:Params):hkA=(hk P).map (·.1):=by kernel_rfl
theorem left:PySem.W.LeftO PySem.Challenge.rw_lampwish_k06_whole_solved.row.toRowW.prog qv [] (fun s=>PySem.W.xlAt qv [] s&&PySem.W.recOk (PySem.W.RowW.records PySem.Challenge.rw_lampwish_k06_whole_solved.row.toRowW) s) (PySem.W.Hook.obs (PySem.W.kHook hk hkA hkE)) (PySem.W.Hook.val (PySem.W.kHook hk hkA hkE)) 4300:=fun w=>by kernel_rfl
end My
namespace L2
open PySem PySem.Spec PyProof.Rows
abbrev Key:=Sum Int Str
def keyIs:Key->Value->Bool
 | .inl k,v=>Value.isInt k v
 | .inr x,v=>Value.isStrOf x v
def keyH (w:World):Key->Int
 | .inl k=>hashInt k
 | .inr x=>hashStr w x
theorem z1s:∀ {k:Key}{v:Value},keyIs k v=true->(∃ i t,k=Sum.inl i/\v=Value.int i t)∨(∃ x t,k=Sum.inr x/\v=Value.str x t)
 | .inl i,v,h=>by
  obtain⟨t,e⟩:=Value.isInt_shape (k:=i) (v:=v) h
  exact .inl ⟨i,t,rfl,e⟩
 | .inr x,v,h=>by
  obtain⟨t,e⟩:=Value.isStrOf_shape (x:=x) (v:=v) h
  exact .inr ⟨x,t,rfl,e⟩
theorem x5z (i:Int)(t:Tok):keyIs (.inl i) (.int i t)=true:=by simp[keyIs,Value.isInt]
theorem x5y (x:Str)(t:Tok):keyIs (.inr x) (.str x t)=true:=by simp[keyIs,Value.isStrOf]
theorem w2q (a b:Int):decide ((Sum.inl a:Key)=Sum.inl b)=(a==b):=by
 by_cases e:a=b
 ·subst e;simp
 ·have h:¬ (Sum.inl a:Key)=Sum.inl b:=fun q=>e (Sum.inl.inj q)
  rw[decide_eq_false h]
  exact (beq_eq_false_iff_ne.mpr e).symm
theorem w2n (a b:Str):decide ((Sum.inr a:Key)=Sum.inr b)=decide (a=b):=by
 by_cases e:a=b
 ·subst e;simp
 ·have h:¬ (Sum.inr a:Key)=Sum.inr b:=fun q=>e (Sum.inr.inj q)
  rw[decide_eq_false h,decide_eq_false e]
theorem w2p (a:Int)(b:Str):decide ((Sum.inl a:Key)=Sum.inr b)=false:=decide_eq_false (fun q=>nomatch q)
theorem w2o (a:Str)(b:Int):decide ((Sum.inr a:Key)=Sum.inl b)=false:=decide_eq_false (fun q=>nomatch q)
def z1q (prog:Program)(w:World):PySem.KeyKind prog w Key where
 is:=keyIs
 hash:=keyH w
 inj:=fun v a b ha hb=>by
  rcases z1s ha with ⟨i,t,rfl,rfl⟩|⟨x,t,rfl,rfl⟩
  ·rcases z1s hb with ⟨j,u,rfl,e⟩|⟨y,u,rfl,e⟩
   ·injection e with e1 _;rw[e1]
   ·exact nomatch e
  ·rcases z1s hb with ⟨j,u,rfl,e⟩|⟨y,u,rfl,e⟩
   ·exact nomatch e
   ·injection e with e1 _;rw[e1]
 byValue:=fun k v h=>by
  rcases z1s h with ⟨i,t,rfl,rfl⟩|⟨x,t,rfl,rfl⟩<;>rfl
 pyHash:=fun hv h=>by
  rcases z1s hv with ⟨i,t,rfl,rfl⟩|⟨x,t,rfl,rfl⟩
  ·exact wpAny_pyHash_int h
  ·exact wpAny_pyHash_str h
 eqBool:=fun hu hv h=>by
  rcases z1s hu with ⟨i,t,rfl,rfl⟩|⟨x,t,rfl,rfl⟩
  ·rcases z1s hv with ⟨j,u,rfl,rfl⟩|⟨y,u,rfl,rfl⟩
   ·rw[w2q]at h;exact wpAny_eqBool_int h
   ·rw[w2p]at h;exact SeqAt.EqAt.int_str i t y u _ _ _ _ h
  ·rcases z1s hv with ⟨j,u,rfl,rfl⟩|⟨y,u,rfl,rfl⟩
   ·rw[w2o]at h;exact SeqAt.EqAt.str_int x t j u _ _ _ _ h
   ·rw[w2n]at h;exact wpAny_eqBool_str h
 «strs»:=fun k x t v h=>by
  rcases z1s h with ⟨i,u,rfl,e⟩|⟨y,u,rfl,e⟩
  ·exact nomatch e
  ·injection e with e1 _
   subst e1
   cases v<;>rfl
theorem y9t (prog:Program)(w:World)(i:Int)(t:Tok):(z1q prog w).is (.inl i) (.int i t)=true:=x5z i t
theorem y9s (prog:Program)(w:World)(x:Str)(t:Tok):(z1q prog w).is (.inr x) (.str x t)=true:=x5y x t
end L2
namespace L2
open PySem PySem.Spec PyProof.Rows
inductive V where
 | non | bl (b:Bool) | int (i:Int) | str (x:Str) | byt (b:Array UInt8) | flt (b:UInt64) | ref (a:Addr) | ty (n:String)
 deriving DecidableEq
def RelV:V->Value->Prop
 | .non,u=>u=Value.none
 | .bl b,u=>u=Value.bool b
 | .int i,u=>∃ t,u=Value.int i t
 | .str x,u=>∃ t,u=Value.str x t
 | .byt b,u=>∃ t,u=Value.bytes b t
 | .flt b,u=>∃ t,u=Value.float b t
 | .ref a,u=>u=Value.ref a
 | .ty n,u=>u=Value.type n
abbrev Vals:List V->List Value->Prop:=Paired RelV
theorem Vals.length {xs:List V}{us:List Value}(r:Vals xs us):xs.length=us.length:=Paired.length r
theorem Vals.get:∀ {xs:List V}{us:List Value}{i:Nat}{x:V},Vals xs us->xs[i]?=some x->∃ u,us[i]?=some u/\RelV x u
 | _,_,_,_,.nil,e=>by simp at e
 | _,_,0,_,.cons r _,e=>by simp at e;subst e;exact⟨_,rfl,r⟩
 | _,_,i+1,x,.cons _ t,e=>by
  obtain⟨u,h1,h2⟩:=Vals.get (i:=i) (x:=x) t (by simpa using e)
  exact⟨u,by simpa using h1,h2⟩
theorem Vals.set {x:V}{u:Value}(r:RelV x u):∀ {xs:List V}{us:List Value}(i:Nat),Vals xs us->Vals (xs.set i x) (us.set i u)
 | _,_,_,.nil=>.nil
 | _,_,0,.cons _ t=>.cons r t
 | _,_,i+1,.cons q t=>.cons q (Vals.set r i t)
theorem Vals.append:∀ {xs ys:List V}{us ws:List Value},Vals xs us->Vals ys ws->Vals (xs++ys) (us++ws)
 | _,_,_,_,.nil,s=>s
 | _,_,_,_,.cons r t,s=>.cons r (Vals.append t s)
theorem Vals.take:∀ {xs:List V}{us:List Value}(n:Nat),Vals xs us->Vals (xs.take n) (us.take n)
 | _,_,0,_=>.nil
 | _,_,_+1,.nil=>.nil
 | _,_,n+1,.cons r t=>.cons r (Vals.take n t)
theorem Vals.drop:∀ {xs:List V}{us:List Value}(n:Nat),Vals xs us->Vals (xs.drop n) (us.drop n)
 | _,_,0,r=>r
 | _,_,_+1,.nil=>.nil
 | _,_,n+1,.cons _ t=>Vals.drop n t
def RelO:Option V->Option Value->Prop
 | some v,some u=>RelV v u
 | none,none=>True
 | _,_=>False
def KV {κ:Type}:List (κ×V)->List (κ×Value)->Prop:=Paired fun (p:κ×V) (q:κ×Value)=>p.1=q.1/\RelV p.2 q.2
def kV:Key->V
 | .inl i=>.int i
 | .inr x=>.str x
inductive HO where
 | lst (xs:List V)
 | tup (xs:List V)
 | dK (kvs:List (Key×V)) | dT (kvs:List (List Key×V))
 | set (S:Int->Bool) (n:Nat)
 | ins (C dx:Addr) (fs:List (Str×V))
 | own (x:Addr)
 | xd (fs:List (Str×V))
 | met (f x:Addr)
 | rng (lo hi:Int)
 | frz (o:Obj) (u:HO)
 | tbl (ps:Array Value)
 | ext (φ:Heap->Prop)
abbrev Hp:=Addr->Option HO
def upd (H:Hp)(a:Addr)(o:HO):Hp:=fun b=>if b=a then some o else H b
theorem z0c {H:Hp}{a:Addr}{o:HO}:upd H a o a=some o:=by unfold upd;rw[if_pos rfl]
theorem z0h {H:Hp}{a b:Addr}{o:HO}(h:b≠a):upd H a o b=H b:=by unfold upd;rw[if_neg h]
theorem ne_of {H:Hp}{a b:Addr}{o u:HO}(h:H a=some o)(h':H b=some u)(d:o≠u):a≠b:=by
 intro e;subst e;rw[h]at h';exact d (Option.some.inj h')
theorem z0f {H:Hp}{a b:Addr}{o:HO}(h:H a=some o)(h':H b=none):a≠b:=by
 intro e;subst e;rw[h]at h';cases h'
section
variable (P:Program)(w:World)
def ObjOk (H:Hp)(h:Heap)(a:Addr):HO->Prop
 | .lst xs=>xs.length<=sizeLine/\∃ (its:List Value) (n:Nat),Vals xs its/\h.get? a=some { cls:=.type "list",data:=.seq its.toArray n }
 | .tup xs=>xs.length<=sizeLine/\∃ its:List Value,Vals xs its/\IsTup h a its.toArray
 | .dK kvs=>kvs.length<=sizeLine/\(a==sysModules)=false/\∃ vs,KV kvs vs/\h.DictOf (z1q P w) a vs
 | .dT kvs=>kvs.length<=sizeLine/\(a==sysModules)=false/\∃ xs:List (List Key×Addr×Value),
  Paired (fun (p:List Key×V) (q:List Key×Addr×Value)=>p.1=q.1/\H q.2.1=some (.tup (p.1.map kV))/\RelV p.2 q.2.2) kvs xs /\
  ∃ o es ep,h.get? a=some o/\o.ExactDict/\o.data=.dict es ep/\es.toList=xs.map (entryOfKey (tupleKind (z1q P w)))/\(xs.map (·.1)).Nodup
 | .set S n=>h.SetOf (intKind P w) a S n
 | .ins C dx fs=>H dx=some (.own a)/\fs.length<=1000/\dx≠a/\h.get? a=some (PySem.W.instObj C dx) /\
  ∃ mA,h.Ns1 dx mA/\(∀ f,RelO (fs.lookup f) (mA f))/\PySem.Within mA (fs.map (·.1))
 | .own _=>∃ o,h.get? a=some o
 | .xd fs=>∃ mA,h.Ns1 a mA/\∀ f,RelO (fs.lookup f) (mA f)
 | .rng lo hi=>∃ t u v,h.get? a=some { cls:=.type "range",data:=.fields #[.int lo t,.int hi u,.int 1 v] }
 | .frz o u=>h.get? a=some o/\ObjOk H h a u
 | .tbl ps=>h.get? a=some { cls:=.none,data:=.fields ps }
 | .met f x=>h.get? a=some (PySem.W.methodObj (.ref f) (.ref x))
 | .ext φ=>φ h/\(∃ o,h.get? a=some o)/\∀ h1 h2:Heap,φ h1->(∀ o,h1.get? a=some o->h2.get? a=some o)->φ h2
def HOk (H:Hp)(h:Heap):Prop:=∀ a o,H a=some o->ObjOk P w H h a o
end
section
variable {P:Program}{w:World}{H H':Hp}{h h':Heap}{a:Addr}{o:HO}
theorem ObjOk.lt (x:ObjOk P w H h a o):a<h.objs.size:=by
 cases o with
 | lst xs=>obtain⟨_,_,_,_,e⟩:=x;exact Heap.lt_size e
 | tup xs=>obtain⟨_,_,_,p⟩:=x;exact p.lt
 | dK kvs=>obtain⟨_,_,_,_,o,_,_,e,_⟩:=x;exact Heap.lt_size e
 | dT kvs=>obtain⟨_,_,_,_,o,_,_,e,_⟩:=x;exact Heap.lt_size e
 | set S n=>obtain⟨o,_,_,_,e,_⟩:=x;exact Heap.lt_size e
 | ins C dx fs=>obtain⟨_,_,_,e,_⟩:=x;exact Heap.lt_size e
 | own y=>obtain⟨_,e⟩:=x;exact Heap.lt_size e
 | xd fs=>obtain⟨_,⟨_,_,_,e,_⟩,_⟩:=x;exact Heap.lt_size e
 | rng lo hi=>obtain⟨_,_,_,e⟩:=x;exact Heap.lt_size e
 | frz ob u=>obtain⟨e,_⟩:=x;exact Heap.lt_size e
 | tbl ps=>exact Heap.lt_size (show h.get? a=some _ from x)
 | met f y=>exact Heap.lt_size (show h.get? a=some _ from x)
 | ext φ=>obtain⟨_,⟨_,e⟩,_⟩:=x;exact Heap.lt_size e
theorem Paired.mapP {α β:Type}{F G:α->β->Prop}:∀ {l₁:List α}{l₂:List β},Paired F l₁ l₂->(∀ a b,F a b->G a b)->Paired G l₁ l₂
 | _,_,.nil,_=>.nil
 | _,_,.cons r t,f=>.cons (f _ _ r) (Paired.mapP t f)
theorem ObjOk.stay (x:ObjOk P w H h a o)(k:∀ b u,(b=a∨H b=some (.own a))->h.get? b=some u->h'.get? b=some u)
 (ho:∀ b,H b=some (.own a)->H' b=some (.own a)) (ht:∀ b xs,H b=some (.tup xs)->H' b=some (.tup xs)):ObjOk P w H' h' a o:=by
 induction o with
 | lst xs=>obtain⟨z,its,n,r,e⟩:=x;exact⟨z,its,n,r,k _ _ (.inl rfl) e⟩
 | tup xs=>obtain⟨z,its,r,ob,e,c⟩:=x;exact⟨z,its,r,ob,k _ _ (.inl rfl) e,c⟩
 | dK kvs=>obtain⟨z,y,vs,r,ob,es,ep,e,c⟩:=x;exact⟨z,y,vs,r,ob,es,ep,k _ _ (.inl rfl) e,c⟩
 | dT kvs =>
  obtain⟨z,y,xs,r,ob,es,ep,e,c⟩:=x
  exact⟨z,y,xs,Paired.mapP r fun p q z=>⟨z.1,ht _ _ z.2.1,z.2.2⟩,ob,es,ep,k _ _ (.inl rfl) e,c⟩
 | set S n=>obtain⟨ob,es,ep,t,e,c⟩:=x;exact⟨ob,es,ep,t,k _ _ (.inl rfl) e,c⟩
 | ins C dx fs =>
  obtain⟨d,z,ne,e,mA,⟨od,es,ep,e2,c⟩,r⟩:=x
  exact⟨ho _ d,z,ne,k _ _ (.inl rfl) e,mA,⟨od,es,ep,k _ _ (.inr d) e2,c⟩,r⟩
 | own y=>obtain⟨ob,e⟩:=x;exact⟨ob,k _ _ (.inl rfl) e⟩
 | xd fs=>obtain⟨mA,⟨od,es,ep,e,c⟩,r⟩:=x;exact⟨mA,⟨od,es,ep,k _ _ (.inl rfl) e,c⟩,r⟩
 | rng lo hi=>obtain⟨t,u,v,e⟩:=x;exact⟨t,u,v,k _ _ (.inl rfl) e⟩
 | frz ob u ih=>obtain⟨e,q⟩:=x;exact⟨k _ _ (.inl rfl) e,ih q⟩
 | tbl ps =>
  have e:h.get? a=some { cls:=.none,data:=.fields ps }:=x
  show h'.get? a=some { cls:=.none,data:=.fields ps }
  exact k a _ (.inl rfl) e
 | met f y =>
  have e:h.get? a=some (PySem.W.methodObj (.ref f) (.ref y)):=x
  show h'.get? a=some (PySem.W.methodObj (.ref f) (.ref y))
  exact k a _ (.inl rfl) e
 | ext φ=>obtain⟨p,⟨o,e⟩,st⟩:=x;exact⟨st _ _ p fun o q=>k _ _ (.inl rfl) q,⟨o,k _ _ (.inl rfl) e⟩,st⟩
theorem HOk.lt (x:HOk P w H h)(e:H a=some o):a<h.objs.size:=(x a o e).lt
theorem HOk.fresh (x:HOk P w H h)(e:h.objs.size<=a):H a=none:=by
 cases q:H a with
 | none=>rfl
 | some u=>exact absurd (Nat.lt_of_lt_of_le (x.lt q) e) (Nat.lt_irrefl _)
theorem HOk.kept (x:HOk P w H h)(k:∀ b u,h.get? b=some u->h'.get? b=some u):HOk P w H h':=fun a o e =>
 (x a o e).stay (fun b u _ q=>k b u q) (fun _ q=>q) fun _ _ q=>q
theorem HOk.laid (x:HOk P w H h)(k:∀ b u,h.get? b=some u->h'.get? b=some u)(hp:h.objs.size<=a)(new:ObjOk P w (upd H a o) h' a o):HOk P w (upd H a o) h':=fun b u e=>by
 have hn:=x.fresh hp
 by_cases hb:b=a
 ·subst hb;rw[z0c]at e;cases e;exact new
 ·rw[z0h hb]at e
  exact (x b u e).stay (fun c v _ q=>k c v q) (fun c q=>by rw[z0h (z0f q hn)];exact q) fun c xs q=>by rw[z0h (z0f q hn)];exact q
end
def Rd (H:Hp)(a:Addr)(u:HO):Prop:=H a=some u∨∃ o,H a=some (.frz o u)
theorem Rd.of {H:Hp}{a:Addr}{u:HO}(h:H a=some u):Rd H a u:=.inl h
theorem Rd.ok {P:Program}{w:World}{H:Hp}{h:Heap}{a:Addr}{u:HO}(r:Rd H a u)(x:HOk P w H h):ObjOk P w H h a u:=by
 rcases r with r|⟨o,r⟩
 ·exact x a u r
 ·obtain⟨_,q⟩:=x a _ r
  exact q
def Mut:Option HO->Prop
 | some (.lst _)=>True
 | some (.dK _)=>True
 | some (.dT _)=>True
 | some (.set _ _)=>True
 | some (.ins _ _ _)=>True
 | some (.ext _)=>True
 | _=>False
section
variable {P:Program}{w:World}{H:Hp}{h h':Heap}{x e:Addr}{o':HO}
theorem HOk.write (ok:HOk P w H h)(mu:Mut (H x))(he:e=x∨H e=some (.own x))(k:∀ b u,b≠e->h.get? b=some u->h'.get? b=some u)(heo:∃ u,h'.get? e=some u)
 (new:ObjOk P w (upd H x o') h' x o'):HOk P w (upd H x o') h':=fun b u q=>by
 have nown:∀ c y,H c=some (.own y)->c≠x:=fun c y r z=>by subst z;rw[r]at mu;exact mu
 have ntup:∀ c xs,H c=some (.tup xs)->c≠x:=fun c xs r z=>by subst z;rw[r]at mu;exact mu
 by_cases hb:b=x
 ·subst hb;rw[z0c]at q;cases q;exact new
 ·rw[z0h hb]at q
  by_cases hbe:b=e
  ·have q':H b=some (.own x):=by
    rcases he with z|z
    ·exact absurd (hbe.trans z) hb
    ·rw[hbe];exact z
   rw[q]at q';cases q'
   obtain⟨v,hv⟩:=heo
   exact⟨v,by rw[hbe];exact hv⟩
  ·refine (ok b u q).stay (fun c v hc r=>k c v ?_ r) (fun c r=>by rw[z0h (nown c b r)];exact r) fun c xs r=>by rw[z0h (ntup c xs r)];exact r
   rcases hc with rfl|hc
   ·exact hbe
   ·rintro rfl
    rcases he with z|z
    ·exact nown c b hc z
    ·rw[hc]at z;cases z;exact hb rfl
end
structure Un (fs ex:List Addr)(H H':Hp)(h h':Heap):Prop where
 keep:∀ b o,h.get? b=some o->H b=none->b ∉ fs->b ∉ ex->h'.get? b=some o
 slot:∀ b o,h.get? b=some o->H b=none->b∈fs->b ∉ ex->∃ sl,h'.get? b=some { o with slots:=sl }
 free:∀ b o,h.get? b=some o->H b=none->b ∉ ex->H' b=none
 there:∀ b o,h.get? b=some o->b ∉ ex->∃ o',h'.get? b=some o'
 tups:∀ b xs,H b=some (.tup xs)->H' b=some (.tup xs)
 frzs:∀ b o u,H b=some (.frz o u)->H' b=some (.frz o u)
 tbls:∀ b ps,H b=some (.tbl ps)->∃ more,H' b=some (.tbl (ps++more))
section
variable {fs fs' ex ex':List Addr}{H H1 H2:Hp}{h h1 h2 h':Heap}{a x e:Addr}{o:HO}
theorem Un.any (u:Un fs ex H H1 h h1){b:Addr}{ob:Obj}(q:h.get? b=some ob)(n:H b=none)(hx:b ∉ ex):∃ sl,h1.get? b=some { ob with slots:=sl }:=by
 by_cases hb:b∈fs
 ·exact u.slot b ob q n hb hx
 ·exact⟨ob.slots,u.keep b ob q n hb hx⟩
theorem Un.trans (a:Un fs ex H H1 h h1)(b:Un fs ex H1 H2 h1 h2):Un fs ex H H2 h h2 where
 keep:=fun c ob q n hc hx=>b.keep c ob (a.keep c ob q n hc hx) (a.free c ob q n hx) hc hx
 slot:=fun c ob q n hc hx=>by
  obtain⟨sl,e1⟩:=a.slot c ob q n hc hx
  obtain⟨sl',e2⟩:=b.slot c _ e1 (a.free c ob q n hx) hc hx
  exact⟨sl',e2⟩
 free:=fun c ob q n hx=>by
  obtain⟨o',e1⟩:=a.there c ob q hx
  exact b.free c o' e1 (a.free c ob q n hx) hx
 there:=fun c ob q hx=>by
  obtain⟨o',e1⟩:=a.there c ob q hx
  exact b.there c o' e1 hx
 tups:=fun c xs q=>b.tups c xs (a.tups c xs q)
 frzs:=fun c ob xs q=>b.frzs c ob xs (a.frzs c ob xs q)
 tbls:=fun c ps q=>by
  obtain⟨m1,e1⟩:=a.tbls c ps q
  obtain⟨m2,e2⟩:=b.tbls c _ e1
  exact⟨m1++m2,by rw[e2,Array.append_assoc]⟩
theorem Un.kept (k:∀ b u,h.get? b=some u->h'.get? b=some u):Un fs ex H H h h' :=
 ⟨fun b ob q _ _ _=>k b ob q,fun b ob q _ _ _=>⟨ob.slots,k b ob q⟩,fun _ _ _ n _=>n,fun b ob q _=>⟨ob,k b ob q⟩,fun _ _ q=>q,fun _ _ _ q=>q,fun _ ps q=>⟨#[],by rw[q];simp⟩⟩
theorem Un.refl:Un fs ex H H h h:=Un.kept fun _ _ q=>q
theorem Un.laid (k:∀ b u,h.get? b=some u->h'.get? b=some u)(hp:h.objs.size<=a)(hn:H a=none):Un fs ex H (upd H a o) h h' where
 keep:=fun b u q _ _ _=>k b u q
 slot:=fun b u q _ _ _=>⟨u.slots,k b u q⟩
 free:=fun b u q n _=>by rw[z0h (Nat.ne_of_lt (Nat.lt_of_lt_of_le (Heap.lt_size q) hp))];exact n
 there:=fun b u q _=>⟨u,k b u q⟩
 tups:=fun b xs q=>by rw[z0h (z0f q hn)];exact q
 frzs:=fun b u xs q=>by rw[z0h (z0f q hn)];exact q
 tbls:=fun b ps q=>⟨#[],by rw[z0h (z0f q hn),q];simp⟩
theorem Un.write (mu:Mut (H x))(he:e=x∨H e=some (.own x))(k:∀ b u,b≠e->h.get? b=some u->h'.get? b=some u)(heo:∃ u,h'.get? e=some u):Un fs ex H (upd H x o) h h':=by
 have hx:∀ b,H b=none->b≠x:=fun b n z=>by subst z;rw[n]at mu;exact mu
 have hb:∀ b,H b=none->b≠e:=fun b n z=>by
  subst z
  rcases he with r|r
  ·exact hx b n r
  ·rw[n]at r;cases r
 have hm:∀ b u,H b=some u->¬ Mut (some u)->b≠x:=fun b u q nm z=>by subst z;rw[q]at mu;exact nm mu
 refine⟨fun b u q n _ _=>k b u (hb b n) q,fun b u q n _ _=>⟨u.slots,k b u (hb b n) q⟩,fun b u q n _=>by rw[z0h (hx b n)];exact n,fun b u q _=>?_,
  fun b xs q=>by rw[z0h (hm b _ q fun z=>z)];exact q,fun b u xs q=>by rw[z0h (hm b _ q fun z=>z)];exact q,fun b ps q=>⟨#[],by rw[z0h (hm b _ q fun z=>z),q];simp⟩⟩
 by_cases hbe:b=e
 ·subst hbe;exact heo
 ·exact⟨u,k b u hbe q⟩
theorem Un.mono (u:Un fs ex H H1 h h1)(hs:∀ b∈fs,b∈fs')(hx:∀ b∈ex,b∈ex'):Un fs' ex' H H1 h h1 :=
 ⟨fun b ob q n hb he=>u.keep b ob q n (fun z=>hb (hs b z)) fun z=>he (hx b z),fun _ _ q n _ he=>u.any q n fun z=>he (hx _ z),fun b ob q n he=>u.free b ob q n fun z=>he (hx b z),fun b ob q he=>u.there b ob q fun z=>he (hx b z),u.tups,u.frzs,u.tbls⟩
end
def trk (h:Heap)(H:Hp):List Addr:=(List.range h.objs.size).filter fun a=>(H a).isSome
def hidT (h:Heap)(H:Hp):Heap:=PySem.W.hideAll h (trk h H)
theorem x6h (h:Heap)(H:Hp):(hidT h H).objs.size=h.objs.size:=PySem.W.hideAll_size _ _
theorem x8k {h:Heap}{H:Hp}{b:Addr}{o:Obj}(e:h.get? b=some o)(n:H b=none):(hidT h H).get? b=some o :=
 PySem.W.hideAll_get _ e fun hm=>by
  have q:(H b).isSome=true:=(List.mem_filter.mp hm).2
  rw[n]at q;simp at q
theorem w0r {h:Heap}{H:Hp}{b:Addr}{o:Obj}(e:(hidT h H).get? b=some o):h.get? b=some o/\H b=none:=by
 have e':h.get? b=some o:=PySem.W.of_hideAll (trk h H) e
 refine⟨e',?_⟩
 cases q:H b with
 | none=>rfl
 | some x =>
  have hm:b∈trk h H:=List.mem_filter.mpr ⟨List.mem_range.mpr (Heap.lt_size e'),by simp[q]⟩
  have z:(hidT h H).get? b=none:=PySem.W.hideAll_none (trk h H) hm
  rw[z]at e;cases e
def w1k (g h:Heap)(L:Addr):List (Addr×Obj):=(List.range h.objs.size).filterMap fun a=>if a=L∨(g.get? a).isSome=true then none else (h.get? a).map fun o=>(a,o)
def rest (g h:Heap)(L d:Addr):List (Addr×Obj):=(w1k g h L).filter fun p=>decide (p.1≠d)
end L2
namespace L2
open PySem PySem.Spec PyProof.Rows
structure Mod (K:W.Frag)(mg:Str->Option Value)(base:Heap):Prop where
 kin:K.In base
 glob:base.Ns mainGlobals mg
 blt:∃ mb,base.Ns builtinsNs mb/\∀ x:Str,x≠"__name__"->mb x=bootBuiltins x
 nolimit:base.NoLimit
structure Cx where
 prog:Program
 w:World
 K:W.Frag
 mg:Str->Option Value
 base:Heap
 A:Around
 N:List Str
 s₀:Shared
 H₀:Hp
 env:Env
 outer:List Env
 stack:List Env
 ex:List Addr
 fn:Str->Bool
 calm:Bool
 pn:List (Addr×Obj)
 xe:Value->Shared->Prop
def frs (l:List Env):List Addr:=l.filterMap (·.frame)
abbrev Cx.fs (X:Cx):List Addr:=frs X.outer
def Vis (sc:Scope)(x:Str):Prop:=sc.names.lookup x=some .local∨sc.names.lookup x=some .cell∨sc.names.lookup x=some .free
def Loc (sc:Scope)(x:Str):Prop:=sc.names.lookup x=some .local∨sc.names.lookup x=some .cell
def Look (env:Env)(h:Heap)(m:Str->Option Value)(x:Str)(u:Value):Prop :=
 (env.kindOf x=some .local/\m x=some u)∨((env.kindOf x=some .cell∨env.kindOf x=some .free)/\∃ c,env.cells.lookup x=some c/\h.IsCell c (some u))
structure Cx.Ok (X:Cx):Prop where
 mod:Mod X.K X.mg X.base
 kind:X.env.scope.kind=.function
 glob:X.env.globals=mainGlobals
 blt:X.env.builtins=builtinsNs
 above:X.s₀.heap.objs.size<=X.env.locals
 inj:∀ x y c,X.env.cells.lookup x=some c->X.env.cells.lookup y=some c->x=y
 has:∀ x,(X.env.kindOf x=some .cell∨X.env.kindOf x=some .free)->∃ c,X.env.cells.lookup x=some c
 cab:∀ x c,X.fn x=true->X.env.cells.lookup x=some c->X.s₀.heap.objs.size<=c
 hd:X.calm=true->X.A.handled=none
 frames:X.A.frames=some X.stack
 stk:X.stack=X.outer∨(X.stack=X.env::X.outer/\X.env.frame=some X.env.locals)
 exf:∀ b∈X.ex,b≠X.env.locals/\∀ x c,X.env.cells.lookup x=some c->c≠b
 bs:∀ b o,X.base.get? b=some o->X.s₀.heap.get? b=some o/\X.H₀ b=none
 bsz:X.base.objs.size<=X.s₀.heap.objs.size
 noex:∀ b o,X.base.get? b=some o->b ∉ X.ex
 exfs:∀ b∈X.ex,b ∉ X.fs
 funs:X.s₀.heap.FunFrames X.base X.outer
 frf:∀ b∈X.fs,X.H₀ b=none
structure Inv (X:Cx)(pins:List (Addr×Obj))(σ:List (Option V))(H:Hp)(s:Shared):Prop where
 ok:X.Ok
 os:s.os=X.s₀.os
 bare:AllBare s.gens
 base:Un X.fs X.ex X.H₀ H X.s₀.heap s.heap
 loc:∃ m,s.heap.Ns X.env.locals m/\∀ (i:Nat) (x:Str) (v:V),X.N[i]?=some x->σ[i]?=some (some v)->Vis X.env.scope x->∃ u,RelV v u/\Look X.env s.heap m x u
 cell:∀ x c,X.env.cells.lookup x=some c->∃ v,s.heap.IsCell c v
 free:H X.env.locals=none
 freeC:∀ x c,X.env.cells.lookup x=some c->H c=none
 pin:∀ p∈X.pn++pins,s.heap.get? p.1=some p.2/\H p.1=none/\p.1≠X.env.locals/\p.1 ∉ X.fs/\∀ v,p.2.data≠.cell v
 hok:HOk X.prog X.w H s.heap
 len:σ.length=X.N.length
section
variable {X:Cx}{pins:List (Addr×Obj)}{σ:List (Option V)}{H H':Hp}{s:Shared}{h':Heap}
theorem Cx.Ok.nofr (ok:X.Ok){b:Addr}{o:Obj}(e:X.base.get? b=some o):b ∉ X.fs:=fun hb=>by
 have:=(ok.funs.mem hb).1
 rw[e]at this;cases this
theorem Inv.bs (I:Inv X pins σ H s):∀ b o,X.base.get? b=some o->s.heap.get? b=some o/\H b=none:=fun b o e =>
 ⟨I.base.keep b o (I.ok.bs b o e).1 (I.ok.bs b o e).2 (I.ok.nofr e) (I.ok.noex b o e),I.base.free b o (I.ok.bs b o e).1 (I.ok.bs b o e).2 (I.ok.noex b o e)⟩
theorem Inv.bk (I:Inv X pins σ H s):∀ b o,X.base.get? b=some o->s.heap.get? b=some o:=fun b o e=>(I.bs b o e).1
theorem Inv.mod (I:Inv X pins σ H s):Mod X.K X.mg X.base:=I.ok.mod
theorem Inv.kIn (I:Inv X pins σ H s):X.K.In s.heap:=I.ok.mod.kin.keeps I.bk
theorem Inv.nolimit (I:Inv X pins σ H s):s.heap.NoLimit:=I.ok.mod.nolimit.keeps I.bk
theorem Inv.fr (I:Inv X pins σ H s):∃ m,Fr X.base X.env.locals s.heap m :=
 let ⟨m,hn,_⟩:=I.loc
 ⟨m,hn,I.bk,Nat.le_trans I.ok.bsz I.ok.above⟩
theorem Inv.lt (I:Inv X pins σ H s):X.env.locals<s.heap.objs.size:=let ⟨_,hn,_⟩:=I.loc;hn.lt
theorem Inv.sz (I:Inv X pins σ H s):X.s₀.heap.objs.size<=s.heap.objs.size:=Nat.le_trans I.ok.above (Nat.le_of_lt I.lt)
theorem Inv.nofs (I:Inv X pins σ H s){a:Addr}(h:s.heap.objs.size<=a):a ∉ X.fs:=fun hb=>by
 obtain⟨_,o,ho,_⟩:=I.ok.funs.mem hb
 exact absurd (Nat.lt_of_lt_of_le (Heap.lt_size ho) (Nat.le_trans I.sz h)) (Nat.lt_irrefl _)
theorem Inv.cne (I:Inv X pins σ H s):∀ x c,X.env.cells.lookup x=some c->c≠X.env.locals:=fun x c e z=>by
 obtain⟨v,o,ho,hd⟩:=I.cell x c e
 obtain⟨m,⟨o',es,ep,ho',hd',_⟩,_⟩:=I.loc
 rw[z,ho']at ho;cases ho;rw[hd']at hd;cases hd
theorem Inv.funs (I:Inv X pins σ H s):s.heap.FunFrames X.base X.outer:=by
 have all:∀ (l:List Env),(∀ b∈frs l,b∈X.fs)->X.s₀.heap.FunFrames X.base l->s.heap.FunFrames X.base l:=by
  intro l
  induction l with
  | nil=>intro _ _;trivial
  | cons env r ih =>
   intro hs hl
   obtain⟨hk,⟨L,o,hf,hn,ho,hd⟩,hr⟩:=hl
   have hL:L∈X.fs:=hs L (by unfold frs;rw[List.filterMap_cons,hf];exact List.mem_cons_self)
   obtain⟨sl,e⟩:=I.base.slot L o ho (I.ok.frf L hL) hL fun z=>I.ok.exfs L z hL
   exact⟨hk,⟨L,_,hf,hn,e,hd⟩,ih (fun b hb=>hs b (by unfold frs;rw[List.filterMap_cons,hf];exact List.mem_cons_of_mem _ hb)) hr⟩
 exact all X.outer (fun _ hb=>hb) I.ok.funs
theorem Inv.stack (I:Inv X pins σ H s):s.heap.FunFrames X.base X.stack:=by
 rcases I.ok.stk with e|⟨e,hf⟩
 ·rw[e];exact I.funs
 ·rw[e]
  obtain⟨m,hn,_⟩:=I.loc
  refine .cons (by rw[I.ok.kind];decide) hf hn ?_ I.funs
  exact Heap.get?_none_of_le (Nat.le_trans I.ok.bsz I.ok.above)
theorem Inv.stkSub (I:Inv X pins σ H s):∀ b∈frs X.stack,b∈X.env.locals::X.fs:=fun b hb=>by
 rcases I.ok.stk with e|⟨e,hf⟩
 ·rw[e]at hb;exact List.mem_cons_of_mem _ hb
 ·rw[e]at hb
  unfold frs at hb
  rw[List.filterMap_cons,hf]at hb
  exact hb
theorem Inv.stkFree (I:Inv X pins σ H s):∀ b∈frs X.stack,H b=none:=fun b hb=>by
 rcases List.mem_cons.mp (I.stkSub b hb) with e|hb
 ·rw[e];exact I.free
 ·obtain⟨_,o,ho,_⟩:=I.ok.funs.mem hb
  exact I.base.free b o ho (I.ok.frf b hb) fun z=>I.ok.exfs b z hb
theorem Inv.step {g':Array GenState}{t':Nat}{d':Drawn}{ch:List Addr}(I:Inv X pins σ H s)
 (hch:∀ b∈ch,(b∈X.ex∨X.s₀.heap.objs.size<=b)/\b≠X.env.locals/\(∀ x c,X.env.cells.lookup x=some c->c≠b)/\∀ p∈X.pn++pins,p.1≠b)
 (keep:∀ b o,b≠X.env.locals->b ∉ X.fs->b ∉ ch->s.heap.get? b=some o->H b=none->h'.get? b=some o)
 (slot:∀ b o,b≠X.env.locals->b∈X.fs->b ∉ ch->s.heap.get? b=some o->H b=none->∃ sl,h'.get? b=some { o with slots:=sl }) (free:∀ b o,b ∉ ch->s.heap.get? b=some o->H b=none->H' b=none)
 (there:∀ b o,b ∉ ch->s.heap.get? b=some o->∃ o',h'.get? b=some o')
 (tups:∀ b xs,H b=some (.tup xs)->H' b=some (.tup xs)) (frzs:∀ b o u,H b=some (.frz o u)->H' b=some (.frz o u)) (tbls:∀ b ps,H b=some (.tbl ps)->∃ more,H' b=some (.tbl (ps++more)))
 (ns:∀ m,s.heap.Ns X.env.locals m->h'.Ns X.env.locals m) (hok:HOk X.prog X.w H' h') (hg:AllBare g') :
 Inv X pins σ H' { s with heap:=h',gens:=g',drawn:=d',toks:=t' }:=by
 have neL:∀ b o,X.s₀.heap.get? b=some o->b≠X.env.locals:=fun b o e=>Nat.ne_of_lt (Nat.lt_of_lt_of_le (Heap.lt_size e) I.ok.above)
 have neC:∀ b o,X.s₀.heap.get? b=some o->b ∉ X.ex->b ∉ ch:=fun b o e hx hb=>by
  rcases (hch b hb).1 with z|z
  ·exact hx z
  ·exact absurd (Nat.lt_of_lt_of_le (Heap.lt_size e) z) (Nat.lt_irrefl _)
 have cellK:∀ x c,X.env.cells.lookup x=some c->∀ v,s.heap.IsCell c v->h'.IsCell c v:=fun x c e v ⟨o,ho,hd⟩=>by
  have nch:c ∉ ch:=fun z=>(hch c z).2.2.1 x c e rfl
  by_cases hc:c∈X.fs
  ·obtain⟨sl,q⟩:=slot c o (I.cne x c e) hc nch ho (I.freeC x c e)
   exact⟨_,q,hd⟩
  ·exact⟨o,keep c o (I.cne x c e) hc nch ho (I.freeC x c e),hd⟩
 refine⟨I.ok,I.os,hg,⟨fun b o e n hb hx=>?_,fun b o e n hb hx=>?_,fun b o e n hx=>?_,fun b o e hx=>?_,fun b xs e=>tups b xs (I.base.tups b xs e),fun b o xs e=>frzs b o xs (I.base.frzs b o xs e),fun b ps e=>?_⟩,?_,fun x c e=>?_,?_,fun x c e=>?_,fun p hp=>?_,hok,I.len⟩
 ·exact keep b o (neL b o e) hb (neC b o e hx) (I.base.keep b o e n hb hx) (I.base.free b o e n hx)
 ·obtain⟨sl,e1⟩:=I.base.slot b o e n hb hx
  obtain⟨sl',e2⟩:=slot b _ (neL b o e) hb (neC b o e hx) e1 (I.base.free b o e n hx)
  exact⟨sl',e2⟩
 ·obtain⟨o',e1⟩:=I.base.there b o e hx
  exact free b o' (neC b o e hx) e1 (I.base.free b o e n hx)
 ·obtain⟨o',e1⟩:=I.base.there b o e hx
  exact there b o' (neC b o e hx) e1
 ·obtain⟨m1,e1⟩:=I.base.tbls b ps e
  obtain⟨m2,e2⟩:=tbls b _ e1
  exact⟨m1++m2,by rw[e2,Array.append_assoc]⟩
 ·obtain⟨m,hn,hl⟩:=I.loc
  refine⟨m,ns m hn,fun i x v e1 e2 e3=>?_⟩
  obtain⟨u,r,l⟩:=hl i x v e1 e2 e3
  refine⟨u,r,?_⟩
  rcases l with l|⟨k,c,e,z⟩
  ·exact .inl l
  ·exact .inr ⟨k,c,e,cellK x c e _ z⟩
 ·obtain⟨v,z⟩:=I.cell x c e
  exact⟨v,cellK x c e v z⟩
 ·obtain⟨m,⟨o,_,_,ho,_⟩,_⟩:=I.loc
  exact free _ o (fun z=>(hch _ z).2.1 rfl) ho I.free
 ·obtain⟨v,o,ho,hd⟩:=I.cell x c e
  exact free c o (fun z=>(hch c z).2.2.1 x c e rfl) ho (I.freeC x c e)
 ·obtain⟨e,n,ne,nf,d⟩:=I.pin p hp
  have nch:p.1 ∉ ch:=fun z=>(hch p.1 z).2.2.2 p hp rfl
  exact⟨keep p.1 p.2 ne nf nch e n,free p.1 p.2 nch e n,ne,nf,d⟩
theorem Inv.un {t':Nat}(I:Inv X pins σ H s)(u:Un X.fs [] H H' s.heap h')(hok:HOk X.prog X.w H' h'):Inv X pins σ H' { s with heap:=h',toks:=t' }:=by
 obtain⟨m,⟨o,es,ep,ho,r⟩,_⟩:=id I.loc
 obtain⟨sl,hL⟩:=u.any ho I.free (by simp)
 exact I.step (g':=s.gens) (d':=s.drawn) (ch:=[]) (fun _ z=>nomatch z) (fun b o _ hb _ e n=>u.keep b o e n hb (by simp)) (fun b o _ hb _ e n=>u.slot b o e n hb (by simp)) (fun b o _ e n=>u.free b o e n (by simp)) (fun b o _ e=>u.there b o e (by simp)) u.tups u.frzs u.tbls (fun m' hm=>by
  obtain⟨o',es',ep',ho',r'⟩:=hm
  rw[ho]at ho';cases ho'
  exact⟨_,es',ep',hL,r'⟩) hok I.bare
theorem Inv.call {g':Array GenState}{t':Nat}{d':Drawn}{ch:List Addr}(I:Inv X pins σ H s)(u:Un (frs X.stack) ch H H' s.heap h')(hok:HOk X.prog X.w H' h')(hg:AllBare g')
 (hch:∀ b∈ch,(b∈X.ex∨X.s₀.heap.objs.size<=b)/\b≠X.env.locals/\(∀ x c,X.env.cells.lookup x=some c->c≠b)/\∀ p∈X.pn++pins,p.1≠b) :
 Inv X pins σ H' { s with heap:=h',gens:=g',drawn:=d',toks:=t' }:=by
 obtain⟨m,⟨o,es,ep,ho,r⟩,_⟩:=id I.loc
 obtain⟨sl,hL⟩:=u.any ho I.free fun z=>(hch _ z).2.1 rfl
 exact I.step (ch:=ch) hch (fun b o hL hb hc e n=>u.keep b o e n (fun z=>(List.mem_cons.mp (I.stkSub b z)).elim hL hb) hc) (fun b o _ _ hc e n=>u.any e n hc) (fun b o hc e n=>u.free b o e n hc) (fun b o hc e=>u.there b o e hc) u.tups u.frzs u.tbls (fun m' hm=>by
  obtain⟨o',es',ep',ho',r'⟩:=hm
  rw[ho]at ho';cases ho'
  exact⟨_,es',ep',hL,r'⟩) hok hg
theorem Inv.turned {t':Nat}{it:Addr}(I:Inv X pins σ H s)(k:∀ b o,b≠it->s.heap.get? b=some o->h'.get? b=some o)(hn:H it=none)(hL:it≠X.env.locals)
 (h1:it∈X.ex∨X.s₀.heap.objs.size<=it) (h2:∀ x c,X.env.cells.lookup x=some c->c≠it) (h3:∀ p∈X.pn++pins,p.1≠it):Inv X pins σ H { s with heap:=h',toks:=t' }:=by
 have nit:∀ b u,H b=some u->b≠it:=fun b u e z=>by rw[z,hn]at e;cases e
 refine I.step (g':=s.gens) (d':=s.drawn) (ch:=[it]) (fun b hb=>?_) (fun b o _ _ hc e _=>k b o (fun z=>hc (by simp[z])) e) (fun b o _ _ hc e _=>⟨o.slots,k b o (fun z=>hc (by simp[z])) e⟩) (fun _ _ _ _ n=>n)
  (fun b o hc e=>⟨o,k b o (fun z=>hc (by simp[z])) e⟩) (fun _ _ e=>e) (fun _ _ _ e=>e) (fun b ps e=>⟨#[],by rw[e];simp⟩) (fun m hm=>?_) (fun b u e=>?_) I.bare
 ·have e:b=it:=by simpa using hb
  subst e
  exact⟨h1,hL,h2,h3⟩
 ·obtain⟨o,es,ep,ho,r⟩:=hm
  exact⟨o,es,ep,k _ o (Ne.symm hL) ho,r⟩
 ·refine (I.hok b u e).stay (fun c v hc q=>k c v ?_ q) (fun _ q=>q) fun _ _ q=>q
  rcases hc with z|z
  ·rw[z];exact nit b u e
  ·exact nit c _ z
theorem Inv.tok (I:Inv X pins σ H s)(t:Nat):Inv X pins σ H { s with toks:=t }:=I.un (h':=s.heap) (t':=t) Un.refl I.hok
theorem Inv.kept {t':Nat}(I:Inv X pins σ H s)(k:∀ b u,s.heap.get? b=some u->h'.get? b=some u):Inv X pins σ H { s with heap:=h',toks:=t' }:=I.un (Un.kept k) (I.hok.kept k)
theorem Inv.laid {a:Addr}{o:HO}{t':Nat}(I:Inv X pins σ H s)(k:∀ b u,s.heap.get? b=some u->h'.get? b=some u)(hp:s.heap.objs.size<=a)(new:ObjOk X.prog X.w (upd H a o) h' a o) :
 Inv X pins σ (upd H a o) { s with heap:=h',toks:=t' }:=I.un (Un.laid k hp (I.hok.fresh hp)) (I.hok.laid k hp new)
theorem Inv.write {x e:Addr}{o:HO}{t':Nat}(I:Inv X pins σ H s)(mu:Mut (H x))(he:e=x∨H e=some (.own x))(k:∀ b u,b≠e->s.heap.get? b=some u->h'.get? b=some u)(heo:∃ u,h'.get? e=some u)
 (new:ObjOk X.prog X.w (upd H x o) h' x o):Inv X pins σ (upd H x o) { s with heap:=h',toks:=t' }:=I.un (Un.write mu he k heo) (I.hok.write mu he k heo new)
theorem Inv.weak {σ':List (Option V)}(I:Inv X pins σ H s)(hl:σ'.length=σ.length)(w:∀ (i:Nat) v,σ'[i]?=some (some v)->σ[i]?=some (some v)):Inv X pins σ' H s :=
 ⟨I.ok,I.os,I.bare,I.base,let ⟨m,hn,hl'⟩:=I.loc;⟨m,hn,fun i x v e1 e2 e3=>hl' i x v e1 (w i v e2) e3⟩,I.cell,I.free,I.freeC,I.pin,I.hok,hl.trans I.len⟩
theorem Inv.pins_of {pins':List (Addr×Obj)}(I:Inv X pins σ H s)(h:∀ p∈pins',s.heap.get? p.1=some p.2/\H p.1=none/\p.1≠X.env.locals/\p.1 ∉ X.fs/\∀ v,p.2.data≠.cell v):Inv X pins' σ H s :=
 ⟨I.ok,I.os,I.bare,I.base,I.loc,I.cell,I.free,I.freeC,fun p hp=>(List.mem_append.mp hp).elim (fun z=>I.pin p (List.mem_append_left _ z)) (h p),I.hok,I.len⟩
theorem x1f {N:List Str}(hN:N.Nodup){i j:Nat}{x:Str}(a:N[i]?=some x)(b:N[j]?=some x):i=j:=by
 obtain⟨h1,e1⟩:=List.getElem?_eq_some_iff.mp a
 obtain⟨h2,e2⟩:=List.getElem?_eq_some_iff.mp b
 exact (List.getElem_inj hN).mp (e1.trans e2.symm)
theorem y6e {M:Model}{A:Around}{E:Value->Shared->Prop}{i:Nat}{x:Str}{v:V}{u:Value}{Q:Unit->Shared->Prop}(I:Inv X pins σ H s)(hN:X.N.Nodup)(hi:X.N[i]?=some x)(hx:Loc X.env.scope x)(r:RelV v u)
 (h:∀ s',Inv X pins (σ.set i (some v)) H s'->(∃ a,Heap.SameBut a s.heap s'.heap/\(a=X.env.locals∨X.env.cells.lookup x=some a))->Q () s') (hf:X.fn x=true∨X.env.scope.names.lookup x=some .local:=by first | exact .inl rfl | exact .inr rfl | assumption):wpAny M A (storeName X.env x u) Q E s:=by
 obtain⟨m,hn,hl⟩:=id I.loc
 have hcls:(X.env.scope.kind == .class||(X.env.scope.kind == .module&&X.env.locals != X.env.globals))=false:=by rw[I.ok.kind];rfl
 have hiσ:i<σ.length:=by rw[I.len];exact (List.getElem?_eq_some_iff.mp hi).1
 have cne:=I.cne
 have tracked:∀ {a:Addr} {h':Heap},(∃ o,s.heap.get? a=some o/\H a=none)->Heap.SameBut a s.heap h'->HOk X.prog X.w H h':=fun {a h'} ha hs b ob e=>by
  obtain⟨_,_,hfree⟩:=ha
  refine (I.hok b ob e).stay (fun c w' hc q=>(hs.2 c ?_).trans q) (fun _ q=>q) fun _ _ q=>q
  rintro rfl
  rcases hc with rfl|hc
  ·rw[hfree]at e;cases e
  ·rw[hfree]at hc;cases hc
 rcases hx with hk|hk
 ·refine wpAny_storeName_local hk hn (fun h' hn' hs=>?_) hcls
  obtain⟨oL,_,_,hoL,_⟩:=id hn
  refine h _ ⟨I.ok,I.os,I.bare,⟨fun b o e n hb hx=>?_,fun b o e n hb hx=>?_,I.base.free,fun b o e hx=>?_,I.base.tups,I.base.frzs,I.base.tbls⟩,⟨_,hn',fun j y v' e1 e2 e3=>?_⟩,fun y c e=>?_,I.free,I.freeC,fun p hp=>?_,tracked ⟨oL,hoL,I.free⟩ hs,by simpa using I.len⟩ ⟨_,hs,.inl rfl⟩
  ·exact (hs.2 b (Nat.ne_of_lt (Nat.lt_of_lt_of_le (Heap.lt_size e) I.ok.above))).trans (I.base.keep b o e n hb hx)
  ·obtain⟨sl,e1⟩:=I.base.slot b o e n hb hx
   exact⟨sl,(hs.2 b (Nat.ne_of_lt (Nat.lt_of_lt_of_le (Heap.lt_size e) I.ok.above))).trans e1⟩
  ·obtain⟨o',e1⟩:=I.base.there b o e hx
   exact⟨o',(hs.2 b (Nat.ne_of_lt (Nat.lt_of_lt_of_le (Heap.lt_size e) I.ok.above))).trans e1⟩
  ·by_cases hj:j=i
   ·subst hj
    rw[hi]at e1;cases e1
    rw[List.getElem?_set_self hiσ]at e2
    cases e2
    exact⟨u,r,.inl ⟨hk,by simp⟩⟩
   ·rw[List.getElem?_set_ne (Ne.symm hj)]at e2
    obtain⟨u',r',q⟩:=hl j y v' e1 e2 e3
    refine⟨u',r',?_⟩
    rcases q with ⟨k,e⟩|⟨k,c,e,z⟩
    ·refine .inl ⟨k,?_⟩
     have:y≠x:=fun e=>hj (x1f hN e1 (e▸hi))
     simp[this,e]
    ·exact .inr ⟨k,c,e,z.sameBut hs (cne y c e)⟩
  ·obtain⟨w',z⟩:=I.cell y c e
   exact⟨w',z.sameBut hs (cne y c e)⟩
  ·obtain⟨e,n,ne,nf,d⟩:=I.pin p hp
   exact⟨(hs.2 p.1 ne).trans e,n,ne,nf,d⟩
 ·have hfn:X.fn x=true:=by
   rcases hf with z|z
   ·exact z
   ·rw[z]at hk;cases hk
  obtain⟨c,hc⟩:=I.ok.has x (.inl hk)
  obtain⟨w',z⟩:=I.cell x c hc
  refine wpAny_storeName_cell I.ok.kind hk hc z (fun h' hc' hs=>?_)
  obtain⟨oc,hoc,hocd⟩:=id z
  refine h { s with heap:=h' } ⟨I.ok,I.os,I.bare,⟨fun b o e n hb hx=>?_,fun b o e n hb hx=>?_,I.base.free,fun b o e hx=>?_,I.base.tups,I.base.frzs,I.base.tbls⟩,⟨m,hn.sameBut hs (Ne.symm (cne x c hc)),fun j y v' e1 e2 e3=>?_⟩,fun y c' e=>?_,I.free,I.freeC,fun p hp=>?_,tracked ⟨oc,hoc,I.freeC x c hc⟩ hs,by simpa using I.len⟩ ⟨c,hs,.inr hc⟩
  ·exact (hs.2 b (Nat.ne_of_lt (Nat.lt_of_lt_of_le (Heap.lt_size e) (I.ok.cab x c hfn hc)))).trans (I.base.keep b o e n hb hx)
  ·obtain⟨sl,e1⟩:=I.base.slot b o e n hb hx
   exact⟨sl,(hs.2 b (Nat.ne_of_lt (Nat.lt_of_lt_of_le (Heap.lt_size e) (I.ok.cab x c hfn hc)))).trans e1⟩
  ·obtain⟨o',e1⟩:=I.base.there b o e hx
   exact⟨o',(hs.2 b (Nat.ne_of_lt (Nat.lt_of_lt_of_le (Heap.lt_size e) (I.ok.cab x c hfn hc)))).trans e1⟩
  ·by_cases hj:j=i
   ·subst hj
    rw[hi]at e1;cases e1
    rw[List.getElem?_set_self hiσ]at e2
    cases e2
    exact⟨u,r,.inr ⟨.inl hk,c,hc,hc'⟩⟩
   ·rw[List.getElem?_set_ne (Ne.symm hj)]at e2
    obtain⟨u',r',q⟩:=hl j y v' e1 e2 e3
    refine⟨u',r',?_⟩
    rcases q with q|⟨k,c',e,z'⟩
    ·exact .inl q
    ·refine .inr ⟨k,c',e,z'.sameBut hs ?_⟩
     rintro rfl
     exact hj (x1f hN e1 (I.ok.inj _ _ _ e hc▸hi))
  ·by_cases hcc:c'=c
   ·subst hcc;exact⟨_,hc'⟩
   ·obtain⟨w2,z2⟩:=I.cell y c' e
    exact⟨w2,z2.sameBut hs hcc⟩
  ·obtain⟨e,n,ne,nf,d⟩:=I.pin p hp
   refine⟨(hs.2 p.1 ?_).trans e,n,ne,nf,d⟩
   intro q
   rw[q,hoc]at e
   have q':oc=p.2:=Option.some.inj e
   exact d w' (by rw[←q'];exact hocd)
theorem y4o {M:Model}{A:Around}{E:Value->Shared->Prop}{i:Nat}{x:Str}{v:V}{u:Value}{Q:Unit->Shared->Prop}(I:Inv X pins σ H s)(hN:X.N.Nodup)(hi:X.N[i]?=some x)(hx:Loc X.env.scope x)(r:RelV v u)
 (h:∀ s',Inv X pins (σ.set i (some v)) H s'->Q () s') (hf:X.fn x=true∨X.env.scope.names.lookup x=some .local:=by first | exact .inl rfl | exact .inr rfl | assumption):wpAny M A (storeName X.env x u) Q E s :=
 y6e I hN hi hx r (fun s' I' _=>h s' I') hf
theorem Inv.call' {s':Shared}{ch:List Addr}(I:Inv X pins σ H s)(ho:s'.os=s.os)(u:Un (frs X.stack) ch H H' s.heap s'.heap)(hok:HOk X.prog X.w H' s'.heap)(hg:AllBare s'.gens)
 (hch:∀ b∈ch,(b∈X.ex∨X.s₀.heap.objs.size<=b)/\b≠X.env.locals/\(∀ x c,X.env.cells.lookup x=some c->c≠b)/\∀ p∈X.pn++pins,p.1≠b):Inv X pins σ H' s':=by
 obtain⟨h',g',d',t',o'⟩:=s'
 have e:o'=s.os:=ho
 subst e
 exact I.call (g':=g') (t':=t') (d':=d') u hok hg hch
end
abbrev XK:=Value->Option Addr->Hp->Prop
abbrev St:=List (Option V)
abbrev VK:=V->Hp->Prop
abbrev TE:=St->Hp->VK->Prop
abbrev TT:=St->Hp->(Bool->Hp->Prop)->Prop
abbrev TA:=St->Hp->(List V->Hp->Prop)->Prop
structure Ends where
 nx:St->Hp->Prop
 rt:VK
 bk:St->Hp->Prop:=fun _ _=>False
 ct:St->Hp->Prop:=fun _ _=>False
abbrev TS:=Ends->St->Hp->Prop
def EP (X:Cx)(pins:List (Addr×Obj))(σ:St)(Q:VK)(u:Value)(s':Shared):Prop:=∃ v H',Inv X pins σ H' s'/\RelV v u/\Q v H'
def TP (X:Cx)(pins:List (Addr×Obj))(σ:St)(Q:Bool->Hp->Prop)(b:Bool)(s':Shared):Prop:=∃ H',Inv X pins σ H' s'/\Q b H'
def AP (X:Cx)(pins:List (Addr×Obj))(σ:St)(Q:List V->Hp->Prop)(us:List Value)(s':Shared):Prop:=∃ vs H',Inv X pins σ H' s'/\Vals vs us/\Q vs H'
def SP (X:Cx)(pins:List (Addr×Obj))(D:Ends)(f:Flow)(s':Shared):Prop :=
 match f with
 | .next=>∃ σ' H',Inv X pins σ' H' s'/\D.nx σ' H'
 | .brk=>∃ σ' H',Inv X pins σ' H' s'/\D.bk σ' H'
 | .cont=>∃ σ' H',Inv X pins σ' H' s'/\D.ct σ' H'
 | .ret u=>∃ v σ' H',Inv X pins σ' H' s'/\RelV v u/\D.rt v H'
def PE (X:Cx)(e:Expr)(t:TE):Prop :=
 ∀ (pins:List (Addr×Obj)) (s:Shared) (σ:St) (H:Hp) (Q:VK),Inv X pins σ H s->t σ H Q->wpAny (model X.prog X.w) X.A (eval e X.env) (EP X pins σ Q) X.xe s
def PT (X:Cx)(e:Expr)(t:TT):Prop :=
 ∀ (pins:List (Addr×Obj)) (s:Shared) (σ:St) (H:Hp) (Q:Bool->Hp->Prop),Inv X pins σ H s->t σ H Q->wpAny (model X.prog X.w) X.A (isTrue e X.env (eval e X.env)) (TP X pins σ Q) X.xe s
def PW (X:Cx)(e:Expr)(t:TT):Prop :=
 ∀ (whole:Sem Value) (pins:List (Addr×Obj)) (s:Shared) (σ:St) (H:Hp) (Q:Bool->Hp->Prop),Inv X pins σ H s->t σ H Q->wpAny (model X.prog X.w) X.A (isTrue e X.env whole) (TP X pins σ Q) X.xe s
theorem PW.pt {X:Cx}{e:Expr}{t:TT}(h:PW X e t):PT X e t:=h _
def PA (X:Cx)(es:List Expr)(t:TA):Prop :=
 ∀ (pos:Pos) (pins:List (Addr×Obj)) (s:Shared) (σ:St) (H:Hp) (Q:List V->Hp->Prop),Inv X pins σ H s->t σ H Q->wpAny (model X.prog X.w) X.A (spliced (backTo pos (starEach es X.env))) (AP X pins σ Q) X.xe s
def PS (X:Cx)(st:Stmt)(t:TS):Prop :=
 ∀ (pins:List (Addr×Obj)) (s:Shared) (σ:St) (H:Hp) (D:Ends),Inv X pins σ H s->t D σ H->wpAny (model X.prog X.w) X.A (exec st X.env) (SP X pins D) X.xe s
def PSs (X:Cx)(st:List Stmt)(t:TS):Prop :=
 ∀ (pins:List (Addr×Obj)) (s:Shared) (σ:St) (H:Hp) (D:Ends),Inv X pins σ H s->t D σ H->wpAny (model X.prog X.w) X.A (execs st X.env) (SP X pins D) X.xe s
theorem thn {α:Type}{t:Sem α}{Q Q':α->Shared->Prop}{M:Model}{A:Around}{E:Value->Shared->Prop}{s:Shared}(h:wpAny M A t Q E s)(hQ:∀ a s,Q a s->Q' a s):wpAny M A t Q' E s:=wpAny_mono h hQ fun _ _ x=>x
end L2
namespace L2
open PySem PySem.Spec PyProof.Rows
section
variable {X:Cx}
def tVar (i:Nat):TE:=fun σ H Q=>∃ v,σ[i]?=some (some v)/\Q v H
def tC (v:V):TE:=fun _ H Q=>Q v H
theorem w2c {i:Nat}{x:Str}{pos:Pos}(hN:X.N[i]?=some x)(hv:Vis X.env.scope x)(hd:(x==("__debug__" : Str))=false:=by decide) (hcd:(x==("__classdict__" : Str))=false:=by decide):PE X (.Name x pos) (tVar i):=by
 intro pins s σ H Q I h
 obtain⟨v,e,h⟩:=h
 obtain⟨m,hn,hl⟩:=I.loc
 obtain⟨u,r,l⟩:=hl i x v hN e hv
 have fin:EP X pins σ Q u s:=⟨v,H,I,r,h⟩
 rcases l with ⟨hk,hm⟩|⟨hk,c,hc,hcell⟩
 ·exact wpAny_Name (wpAny_loadName_local I.ok.kind hk hn hm fin) hd
 ·rcases hk with hk|hk
  ·exact wpAny_Name (wpAny_loadName_cell I.ok.kind hk hc hcell fin) hd
  ·exact wpAny_Name (wpAny_loadName_free I.ok.kind hk hc hcell fin hcd) hd
theorem z0i {i j pos}:PE X (.Constant (.int i) j pos) (tC (.int i)):=fun _ _ _ H _ I h=>wpAny_Constant_int ⟨.int i,H,I.tok _,⟨_,rfl⟩,h⟩
theorem pe_bl {b j pos}:PE X (.Constant (.bool b) j pos) (tC (.bl b)):=fun _ _ _ H _ I h=>Constant_bool ⟨.bl b,H,I,rfl,h⟩
theorem z3d {j pos}:PE X (.Constant .none j pos) (tC .non):=fun _ _ _ H _ I h=>Constant_none ⟨.non,H,I,rfl,h⟩
theorem y2d {x j pos}:PE X (.Constant (.str x) j pos) (tC (.str x)):=fun _ _ _ H _ I h=>Calls.Constant_str ⟨.str x,H,I.tok _,⟨_,rfl⟩,h⟩
def Gl (X:Cx)(x:Str):Prop:=X.env.kindOf x=some .globalImplicit
theorem y2r {E:Value->Shared->Prop}{pins:List (Addr×Obj)}{s:Shared}{σ:St}{H:Hp}{x:Str}{u:Value}{pos:Pos}{Q:Value->Shared->Prop}(I:Inv X pins σ H s)(hg:Gl X x)(hm:X.mg x=some u)(h:Q u s)
 (hd:(x==("__debug__" : Str))=false:=by decide):wpAny (model X.prog X.w) X.A (eval (.Name x pos) X.env) Q E s :=
 Calls.Name_function_global I.ok.kind hg (Calls.loadGlobal_global (by rw[I.ok.glob];exact I.mod.glob.keeps I.bk) hm h) hd
theorem y1a {E:Value->Shared->Prop}{pins:List (Addr×Obj)}{s:Shared}{σ:St}{H:Hp}{x:Str}{u:Value}{pos:Pos}{Q:Value->Shared->Prop}(I:Inv X pins σ H s)(hg:Gl X x)(hm:X.mg x=none)(hv:bootBuiltins x=some u)(h:Q u s)
 (hn:x≠"__name__":=by decide) (hd:(x==("__debug__" : Str))=false:=by decide):wpAny (model X.prog X.w) X.A (eval (.Name x pos) X.env) Q E s:=by
 obtain⟨mb,h1,h2⟩:=I.mod.blt
 exact Calls.Name_function_global I.ok.kind hg (Calls.loadGlobal_builtin (by rw[I.ok.glob];exact I.mod.glob.keeps I.bk) hm (by rw[I.ok.blt];exact h1.keeps I.bk) ((h2 x hn).trans hv) h) hd
theorem w0m {x:Str}{v:V}{u:Value}{pos:Pos}(hg:Gl X x)(hm:X.mg x=none)(hv:bootBuiltins x=some u)(r:RelV v u)(hn:x≠"__name__":=by decide) (hd:(x==("__debug__" : Str))=false:=by decide):PE X (.Name x pos) (tC v) :=
 fun _ _ _ H _ I h=>y1a I hg hm hv ⟨v,H,I,r,h⟩ hn hd
variable {a b:Expr}{ta tb:TE}{pos:Pos}
def PC (X:Cx)(op:CmpOp)(a b:Expr)(t:TE):Prop :=
 ∀ (pins:List (Addr×Obj)) (s:Shared) (σ:St) (H:Hp) (Q:VK),Inv X pins σ H s->t σ H Q ->
  wpAny (model X.prog X.w) X.A (eval a X.env) (fun v s₁=>wpAny (model X.prog X.w) X.A (eval b X.env) (fun u s₂=>wpAny (model X.prog X.w) X.A (compareOp op v u) (EP X pins σ Q) X.xe s₂) X.xe s₁) X.xe s
theorem x1g (b:Expr){op:CmpOp}(h:op≠.In)(h2:op≠.NotIn):behindInMarks op b=false:=by
 have e1:(op==CmpOp.In)=false:=by cases op<;>first | rfl | exact absurd rfl h
 have e2:(op==CmpOp.NotIn)=false:=by cases op<;>first | rfl | exact absurd rfl h2
 cases b<;>simp[behindInMarks,e1,e2]
def tB (t:TE):TT:=fun σ H Q=>t σ H fun x H1=>∃ c,x=.bl c/\Q c H1
theorem w2e {op:CmpOp}{t:TE}(h:PC X op a b t)(h1:behindInMarks op b=false:=by first | exact x1g _ (by decide) (by decide) | rfl):PE X (.Compare a [op] [b] pos) t:=fun pins s σ H Q I hw=>wpAny_Compare1 (h pins s σ H Q I hw) h1
theorem z9m {op:CmpOp}{t:TE}(h:PC X op a b t)(h1:behindInMarks op b=false:=by first | exact x1g _ (by decide) (by decide) | rfl):PT X (.Compare a [op] [b] pos) (tB t):=by
 intro pins s σ H Q I hw
 refine wpAny_isTrue_Compare1 (thn (h pins s σ H _ I hw) fun v s1 h1=>thn h1 fun u s2 h2=>thn h2 fun c s3 ⟨x,H1,I1,r1,q1⟩=>?_) h1
 obtain⟨d,rfl,q⟩:=q1
 cases r1
 exact wpAny_truthy_bool ⟨H1,I1,q⟩
theorem z2a {e:Expr}{t:TE}(h:PE X e t)(he:∀ whole,isTrue e X.env whole=(do let v ←whole;standAt e.pos;holding [v] (truthy v)):=by intro _;rfl):PT X e (tB t):=by
 intro pins s σ H Q I hw
 refine isTrue_plain (thn (h pins s σ H _ I hw) fun v s1 ⟨x,H1,I1,r1,q1⟩=>?_) (he _)
 obtain⟨d,rfl,q⟩:=q1
 cases r1
 exact wpAny_truthy_bool ⟨H1,I1,q⟩
variable {tA tB':TT}{rest:List Expr}
def tAnd (t u:TT):TT:=fun σ H Q=>t σ H fun c H1=>if c=true then u σ H1 Q else Q false H1
def tOr (t u:TT):TT:=fun σ H Q=>t σ H fun c H1=>if c=true then Q true H1 else u σ H1 Q
def tNot (t:TT):TT:=fun σ H Q=>t σ H fun c H1=>Q (!c) H1
theorem z7v (ha:PT X a tA):PW X (.BoolOp .And [a] pos) tA:=by
 intro wh pins s σ H Q I h
 refine isTrue_and (thn (ha pins s σ H Q I h) fun c s1 e=>?_)
 cases c with
 | true=>exact isTrue_and_nil e
 | false=>exact e
theorem z5a (ha:PT X a tA):PW X (.BoolOp .Or [a] pos) tA:=by
 intro wh pins s σ H Q I h
 refine isTrue_or (thn (ha pins s σ H Q I h) fun c s1 e=>?_)
 cases c with
 | false=>exact isTrue_or_nil e
 | true=>exact e
theorem y0t (ha:PT X a tA)(hb:PW X (.BoolOp .And (b::rest) pos) tB'):PW X (.BoolOp .And (a::b::rest) pos) (tAnd tA tB'):=by
 intro wh pins s σ H Q I h
 refine isTrue_and (thn (ha pins s σ H _ I h) fun c s1 ⟨H1,I1,q1⟩=>?_)
 cases c with
 | true=>exact hb wh pins s1 σ H1 Q I1 q1
 | false=>exact⟨H1,I1,q1⟩
theorem pw_or (ha:PT X a tA)(hb:PW X (.BoolOp .Or (b::rest) pos) tB'):PW X (.BoolOp .Or (a::b::rest) pos) (tOr tA tB'):=by
 intro wh pins s σ H Q I h
 refine isTrue_or (thn (ha pins s σ H _ I h) fun c s1 ⟨H1,I1,q1⟩=>?_)
 cases c with
 | true=>exact⟨H1,I1,q1⟩
 | false=>exact hb wh pins s1 σ H1 Q I1 q1
theorem z2y (ha:PT X a tA):PT X (.UnaryOp .Not a pos) (tNot tA):=by
 intro pins s σ H Q I h
 exact isTrue_not (ha pins s σ H (fun c H1=>Q (!c) H1) I h)
def tAndV (ta tb:TE):TE:=fun σ H Q=>ta σ H fun x H1=>∃ c,x=.bl c/\if c=true then tb σ H1 Q else Q (.bl false) H1
def tOrV (ta tb:TE):TE:=fun σ H Q=>ta σ H fun x H1=>∃ c,x=.bl c/\if c=true then Q (.bl true) H1 else tb σ H1 Q
def tNotV (ta:TE):TE:=fun σ H Q=>ta σ H fun x H1=>∃ c,x=.bl c/\Q (.bl (!c)) H1
theorem x0y {op}{t:TE}(h:PE X a t):PE X (.BoolOp op [a] pos) t:=fun pins s σ H Q I hw=>BoolOp_one (h pins s σ H Q I hw)
theorem x9i (ha:PE X a ta)(hb:PE X (.BoolOp .And (b::rest) pos) tb):PE X (.BoolOp .And (a::b::rest) pos) (tAndV ta tb):=by
 intro pins s σ H Q I h
 refine BoolOp_and (thn (ha pins s σ H _ I h) fun v s1 ⟨x,H1,I1,r1,q1⟩=>?_)
 obtain⟨c,rfl,q1⟩:=q1
 cases r1
 refine wpAny_truthy_bool ?_
 cases c with
 | true=>exact hb pins s1 σ H1 Q I1 q1
 | false=>exact⟨.bl false,H1,I1,rfl,q1⟩
theorem pe_or (ha:PE X a ta)(hb:PE X (.BoolOp .Or (b::rest) pos) tb):PE X (.BoolOp .Or (a::b::rest) pos) (tOrV ta tb):=by
 intro pins s σ H Q I h
 refine BoolOp_or (thn (ha pins s σ H _ I h) fun v s1 ⟨x,H1,I1,r1,q1⟩=>?_)
 obtain⟨c,rfl,q1⟩:=q1
 cases r1
 refine wpAny_truthy_bool ?_
 cases c with
 | false=>exact hb pins s1 σ H1 Q I1 q1
 | true=>exact⟨.bl true,H1,I1,rfl,q1⟩
theorem w2d (ha:PE X a ta):PE X (.UnaryOp .Not a pos) (tNotV ta):=by
 intro pins s σ H Q I h
 refine UnaryOp_ (thn (ha pins s σ H _ I h) fun v s1 ⟨x,H1,I1,r1,q1⟩=>?_)
 obtain⟨c,rfl,q1⟩:=q1
 cases r1
 exact not_of (wpAny_truthy_bool ⟨.bl (!c),H1,I1,rfl,q1⟩)
def tIf (t:TT)(ta tb:TE):TE:=fun σ H Q=>t σ H fun c H1=>if c=true then ta σ H1 Q else tb σ H1 Q
theorem x7t {c:Expr}(hc:PT X c tA)(ha:PE X a ta)(hb:PE X b tb):PE X (.IfExp c a b pos) (tIf tA ta tb):=by
 intro pins s σ H Q I h
 refine wpAny_IfExp (thn (hc pins s σ H _ I h) fun d s1 ⟨H1,I1,q1⟩=>?_)
 cases d with
 | true=>exact ha pins s1 σ H1 Q I1 q1
 | false=>exact hb pins s1 σ H1 Q I1 q1
end
end L2
namespace L2
open PySem PySem.Spec PyProof.Rows
def SqL (K:W.Frag)(H:Hp)(a:Addr)(xs:List V):Prop :=
 Rd H a (.lst xs) ∨
  ∃ (o:Obj) (its:Array Value) (n:Nat),K.lookup a=some o/\o.cls=.type "list"/\o.dict=none/\o.data=.seq its n/\its.size<=sizeLine/\Vals xs its.toList
def SqT (K:W.Frag)(H:Hp)(a:Addr)(xs:List V):Prop :=
 Rd H a (.tup xs) ∨
  ∃ (o:Obj) (its:Array Value) (n:Nat),K.lookup a=some o/\o.cls=.type "tuple"/\o.data=.seq its n/\its.size<=sizeLine/\Vals xs its.toList
def absV:Value->Option V
 | .none=>some .non
 | .bool b=>some (.bl b)
 | .int i _=>some (.int i)
 | .str x _=>some (.str x)
 | .bytes b _=>some (.byt b)
 | .float b _=>some (.flt b)
 | .ref a=>some (.ref a)
 | .type n=>some (.ty n)
 | _=>none
theorem RelV.abs {x:V}{u:Value}(r:RelV x u):absV u=some x:=by
 cases x with
 | non=>cases r;rfl
 | bl _=>cases r;rfl
 | int _=>obtain⟨t,rfl⟩:=r;rfl
 | str _=>obtain⟨t,rfl⟩:=r;rfl
 | byt _=>obtain⟨t,rfl⟩:=r;rfl
 | flt _=>obtain⟨t,rfl⟩:=r;rfl
 | ref _=>cases r;rfl
 | ty _=>cases r;rfl
theorem RelV.inj {x y:V}{u:Value}(r:RelV x u)(q:RelV y u):x=y:=Option.some.inj (r.abs.symm.trans q.abs)
theorem Vals.inj:∀ {xs ys:List V}{us:List Value},Vals xs us->Vals ys us->xs=ys
 | _,_,_,.nil,.nil=>rfl
 | _,_,_,.cons r t,.cons r' t'=>by rw[r.inj r',Vals.inj t t']
section
variable {X:Cx}{pins:List (Addr×Obj)}{σ:St}{H:Hp}{s:Shared}{a:Addr}{xs ys:List V}
theorem qLo {K:W.Frag}(h:H a=some (.lst xs)):SqL K H a xs:=.inl (.inl h)
theorem qTo {K:W.Frag}(h:H a=some (.tup xs)):SqT K H a xs:=.inl (.inl h)
theorem Inv.list (I:Inv X pins σ H s)(h:SqL X.K H a xs):∃ its:List Value,Vals xs its/\PlainL s.heap a its.toArray/\xs.length<=sizeLine:=by
 rcases h with h|⟨o,its,n,hk,hc,hd,hs,hz,r⟩
 ·obtain⟨z,its,n,r,e⟩:=h.ok I.hok
  exact⟨its,r,⟨_,n,e,rfl,rfl,rfl⟩,z⟩
 ·refine⟨its.toList,r,⟨o,n,I.kIn a o hk,hc,hd,by simpa using hs⟩,?_⟩
  have e:=r.length
  simp only[Array.length_toList]at e
  omega
theorem Inv.tuple (I:Inv X pins σ H s)(h:SqT X.K H a xs):∃ its:List Value,Vals xs its/\IsTup s.heap a its.toArray/\xs.length<=sizeLine:=by
 rcases h with h|⟨o,its,n,hk,hc,hs,hz,r⟩
 ·obtain⟨z,its,r,p⟩:=h.ok I.hok
  exact⟨its,r,p,z⟩
 ·refine⟨its.toList,r,⟨o,I.kIn a o hk,hc,n,by simpa using hs⟩,?_⟩
  have e:=r.length
  simp only[Array.length_toList]at e
  omega
theorem Inv.list_inj (I:Inv X pins σ H s)(h:SqL X.K H a xs)(h':SqL X.K H a ys):xs=ys:=by
 obtain⟨its,r,⟨o,n,e,_,_,d⟩,_⟩:=I.list h
 obtain⟨its',r',⟨o',n',e',_,_,d'⟩,_⟩:=I.list h'
 rw[e]at e';cases e'
 rw[d]at d'
 injection d' with d1 _
 have:its=its':=by simpa using congrArg Array.toList d1
 subst this
 exact r.inj r'
end
abbrev Cx.wish (X:Cx)(E:Value->Shared->Prop):Cx:={ X with xe:=E }
abbrev Cx.nox (X:Cx):Cx:=X.wish fun _ _=>False
theorem Cx.Ok.wish {X:Cx}(ok:X.Ok)(E:Value->Shared->Prop):(X.wish E).Ok :=
 ⟨ok.mod,ok.kind,ok.glob,ok.blt,ok.above,ok.inj,ok.has,ok.cab,ok.hd,ok.frames,ok.stk,ok.exf,ok.bs,ok.bsz,ok.noex,ok.exfs,ok.funs,ok.frf⟩
theorem Cx.Ok.unwish {X:Cx}{E:Value->Shared->Prop}(ok:(X.wish E).Ok):X.Ok :=
 ⟨ok.mod,ok.kind,ok.glob,ok.blt,ok.above,ok.inj,ok.has,ok.cab,ok.hd,ok.frames,ok.stk,ok.exf,ok.bs,ok.bsz,ok.noex,ok.exfs,ok.funs,ok.frf⟩
section
variable {X:Cx}{pins:List (Addr×Obj)}{σ:St}{H:Hp}{s:Shared}{E:Value->Shared->Prop}
theorem Inv.wish (I:Inv X pins σ H s)(E:Value->Shared->Prop):Inv (X.wish E) pins σ H s:=⟨I.ok.wish E,I.os,I.bare,I.base,I.loc,I.cell,I.free,I.freeC,I.pin,I.hok,I.len⟩
theorem Inv.unwish (I:Inv (X.wish E) pins σ H s):Inv X pins σ H s:=⟨I.ok.unwish,I.os,I.bare,I.base,I.loc,I.cell,I.free,I.freeC,I.pin,I.hok,I.len⟩
theorem SP.unwish {D:Ends}{f:Flow}{s':Shared}(h:SP (X.wish E) pins D f s'):SP X pins D f s':=by
 cases f with
 | next=>obtain⟨σ',H',I,q⟩:=h;exact⟨σ',H',I.unwish,q⟩
 | brk=>obtain⟨σ',H',I,q⟩:=h;exact⟨σ',H',I.unwish,q⟩
 | cont=>obtain⟨σ',H',I,q⟩:=h;exact⟨σ',H',I.unwish,q⟩
 | ret u=>obtain⟨v,σ',H',I,r,q⟩:=h;exact⟨v,σ',H',I.unwish,r,q⟩
theorem PE.nox {e:Expr}{t:TE}(h:PE X.nox e t):PE X e t:=fun pins s σ H Q I hw =>
 wpAny_mono (h pins s σ H Q (I.wish _) hw) (fun _ _ ⟨v,H',I',r,q⟩=>⟨v,H',I'.unwish,r,q⟩) fun _ _ z=>False.elim z
theorem PT.nox {e:Expr}{t:TT}(h:PT X.nox e t):PT X e t:=fun pins s σ H Q I hw =>
 wpAny_mono (h pins s σ H Q (I.wish _) hw) (fun _ _ ⟨H',I',q⟩=>⟨H',I'.unwish,q⟩) fun _ _ z=>False.elim z
theorem PSs.nox {st:List Stmt}{t:TS}(h:PSs X.nox st t):PSs X st t:=fun pins s σ H D I hw =>
 wpAny_mono (h pins s σ H D (I.wish _) hw) (fun _ _ q=>q.unwish) fun _ _ z=>False.elim z
end
section
variable {X:Cx}{st:Stmt}{rest:List Stmt}{t u:TS}{e:Expr}{te:TE}{pos:Pos}
def tNext:TS:=fun D σ H=>D.nx σ H
def tSeq (t u:TS):TS:=fun D σ H=>t { D with nx:=u D } σ H
theorem z0o:PSs X [] tNext:=fun _ _ σ H _ I h=>wpAny_execs_nil ⟨σ,H,I,h⟩
theorem z0b (h1:PS X st t)(h2:PSs X rest u):PSs X (st::rest) (tSeq t u):=by
 intro pins s σ H D I h
 refine wpAny_execs_cons (thn (h1 pins s σ H { D with nx:=u D } I h) fun f s1 q=>?_)
 cases f with
 | next =>
  obtain⟨σ',H',I',q⟩:=q
  exact h2 pins s1 σ' H' D I' q
 | ret v=>exact q
 | brk=>exact q
 | cont=>exact q
theorem z0e (h1:PS X st t):PSs X [st] t:=by
 intro pins s σ H D I h
 refine wpAny_execs_cons (thn (h1 pins s σ H D I h) fun f s1 q=>?_)
 cases f with
 | next=>exact wpAny_execs_nil q
 | ret v=>exact q
 | brk=>exact q
 | cont=>exact q
def w1x:TS:=fun D σ H=>D.bk σ H
theorem x7q:PS X (.Break pos) w1x:=fun _ _ σ H _ I h=>wpAny_Break ⟨σ,H,I,h⟩
theorem Inv.quiet {pins:List (Addr×Obj)}{σ:St}{H:Hp}{s:Shared}(I:Inv X pins σ H s):interactive X.env=false:=by simp[interactive,I.ok.kind]
def tDrop (te:TE):TS:=fun D σ H=>te σ H fun _ H1=>D.nx σ H1
theorem z0z (he:PE X e te)(hs:swapsWith e none pos.line X.env=pure false:=by rfl):PS X (.Expr e pos) (tDrop te):=by
 intro pins s σ H D I h
 exact wpAny_Expr_any (thn (he pins s σ H _ I h) fun v s1 ⟨x,H1,I1,r1,q1⟩=>⟨σ,H1,I1,q1⟩) I.quiet hs
def tRet (te:TE):TS:=fun D σ H=>te σ H D.rt
theorem z0p (he:PE X e te):PS X (.Return (some e) pos) (tRet te):=by
 intro pins s σ H D I h
 exact wpAny_Return_some (thn (he pins s σ H _ I h) fun v s1 ⟨x,H1,I1,r1,q1⟩=>⟨x,σ,H1,I1,r1,q1⟩)
def tIfS (c:TT)(t u:TS):TS:=fun D σ H=>c σ H fun b H1=>if b=true then t D σ H1 else u D σ H1
theorem ps_if {c:Expr}{a b:List Stmt}{tc:TT}(hc:PT X c tc)(ha:PSs X a t)(hb:PSs X b u):PS X (.If c a b pos) (tIfS tc t u):=by
 intro pins s σ H D I h
 refine wpAny_If (thn (hc pins s σ H _ I h) fun d s1 ⟨H1,I1,q1⟩=>?_)
 cases d with
 | true=>exact ha pins s1 σ H1 D I1 q1
 | false=>exact hb pins s1 σ H1 D I1 q1
def w1r:TS:=fun _ _ _=>False
theorem x0x:PS X st w1r:=fun _ _ _ _ _ _ h=>h.elim
end
abbrev TG:=V->St->Hp->(St->Hp->Prop)->Prop
abbrev TGs:=List V->St->Hp->(St->Hp->Prop)->Prop
def PG (X:Cx)(target:Expr)(t:TG):Prop :=
 ∀ (pins:List (Addr×Obj)) (s:Shared) (σ:St) (H:Hp) (v:V) (u:Value) (Q:St->Hp->Prop),Inv X pins σ H s->RelV v u->t v σ H Q ->
  wpAny (model X.prog X.w) X.A (assign target X.env u) (fun _ s'=>∃ σ' H',Inv X pins σ' H' s'/\Q σ' H') X.xe s
def PGs (X:Cx)(ts:List Expr)(t:TGs):Prop :=
 ∀ (pins:List (Addr×Obj)) (s:Shared) (σ:St) (H:Hp) (vs:List V) (us:List Value) (Q:St->Hp->Prop),Inv X pins σ H s->Vals vs us->t vs σ H Q ->
  wpAny (model X.prog X.w) X.A (assignInOrder ((assignEach ts X.env).map (·.2)) us) (fun _ s'=>∃ σ' H',Inv X pins σ' H' s'/\Q σ' H') X.xe s
abbrev TSet:=V->V->V->Hp->(Hp->Prop)->Prop
def PSet (X:Cx)(t:TSet):Prop :=
 ∀ (pins:List (Addr×Obj)) (s:Shared) (σ:St) (H:Hp) (o i v:V) (ov iv u:Value) (Q:Hp->Prop),Inv X pins σ H s->RelV o ov->RelV i iv->RelV v u->t o i v H Q ->
  wpAny (model X.prog X.w) X.A (setItem ov iv u) (fun _ s'=>∃ H',Inv X pins σ H' s'/\Q H') X.xe s
abbrev TIp:=V->V->Hp->VK->Prop
def PIp (X:Cx)(op:Operator)(t:TIp):Prop :=
 ∀ (pins:List (Addr×Obj)) (s:Shared) (σ:St) (H:Hp) (x y:V) (v u:Value) (Q:VK),Inv X pins σ H s->RelV x v->RelV y u->t x y H Q ->
  wpAny (model X.prog X.w) X.A (inplaceOp op v u) (EP X pins σ Q) X.xe s
section
variable {X:Cx}{pos:Pos}
def gName (i:Nat):TG:=fun v σ H Q=>Q (σ.set i (some v)) H
theorem z1c {i:Nat}{x:Str}(hN:X.N.Nodup)(hi:X.N[i]?=some x)(hx:Loc X.env.scope x)(hf:X.fn x=true∨X.env.scope.names.lookup x=some .local:=by first | exact .inl rfl | exact .inr rfl | assumption):PG X (.Name x pos) (gName i):=by
 intro pins s σ H v u Q I r h
 exact wpAny_assign_Name (y4o I hN hi hx r (fun s' I'=>⟨_,H,I',h⟩) hf)
def gNil:TGs:=fun vs σ H Q=>vs=[]/\Q σ H
def gCons (t:TG)(u:TGs):TGs:=fun vs σ H Q=>∃ v r,vs=v::r/\t v σ H fun σ' H'=>u r σ' H' Q
theorem y8z:PGs X [] gNil:=by
 intro pins s σ H vs us Q I r h
 obtain⟨e,h⟩:=h
 subst e
 cases r
 exact assignInOrder_nil ⟨σ,H,I,h⟩
theorem z6l {e:Expr}{es:List Expr}{t:TG}{u:TGs}(h1:PG X e t)(h2:PGs X es u)
 (hs:(assignEach (e::es) X.env).map (·.2)=assign e X.env::(assignEach es X.env).map (·.2):=by rfl):PGs X (e::es) (gCons t u):=by
 intro pins s σ H vs us Q I r h
 obtain⟨v,vr,e1,h⟩:=h
 subst e1
 cases r with
 | cons r rr =>
  rw[hs]
  refine assignInOrder_cons (thn (h1 pins s σ H _ _ _ I r h) fun _ s1 ⟨σ1,H1,I1,q1⟩=>?_)
  exact h2 pins s1 σ1 H1 _ _ Q I1 rr q1
def gTup (K:W.Frag)(n:Nat)(t:TGs):TG:=fun v σ H Q=>∃ a xs,v=.ref a/\SqT K H a xs/\xs.length=n/\t xs σ H Q
theorem x4q {es:List Expr}{k:Nat}{t:TGs}{n:Nat}(hc:X.calm=true)(h:PGs X es t)
 (hn:(assignEach es X.env).length=n:=by rfl) (hst:(assignEach es X.env).findIdx? (·.1)=none:=by rfl):PG X (.Tuple es k pos) (gTup X.K n t):=by
 intro pins s σ H v u Q I r hw
 obtain⟨a,xs,e1,hq,hl,hw⟩:=hw
 subst e1
 cases r
 obtain⟨its,rv,ht,hz⟩:=I.tuple hq
 refine assign_Tuple_tuple (I.ok.hd hc) ht (by simp[hn,←hl,rv.length]) hst fun h' hx=>?_
 have I1:Inv X pins σ H { s with heap:=h' }:=I.kept (t':=s.toks) fun b o e=>hx b o (Nat.ne_of_lt (Heap.lt_size e)) e
 exact h pins _ σ H xs _ Q I1 (by simpa using rv) hw
def tAsg (te:TE)(g:TG):TS:=fun D σ H=>te σ H fun x H1=>g x σ H1 D.nx
theorem x4l {tg e:Expr}{te:TE}{g:TG}(he:PE X e te)(hg:PG X tg g)(hs:swapsWithSole [tg] e pos.line X.env=pure false:=by rfl) (hw:swappedStores [tg] e X.env=pure none:=by rfl)
 (h1:(assignEach [tg] X.env).map (·.2)=[assign tg X.env]:=by rfl):PS X (.Assign [tg] e pos) (tAsg te g):=by
 intro pins s σ H D I h
 refine wpAny_Assign_stores (thn (he pins s σ H _ I h) fun v s1 ⟨x,H1,I1,r1,q1⟩=>?_) hs hw
 rw[h1]
 exact thn (hg pins s1 σ H1 x v _ I1 r1 q1) fun _ s2 q=>q
theorem z0t {i:Nat}{x:Str}{e:Expr}{te:TE}{pos':Pos}(hN:X.N.Nodup)(hi:X.N[i]?=some x)(hx:Loc X.env.scope x)(he:PE X e te)(hs:swapsWith e (some (.Name x pos')) pos.line X.env=pure false:=by rfl) (hf:X.fn x=true∨X.env.scope.names.lookup x=some .local:=by first | exact .inl rfl | exact .inr rfl | assumption) :
 PS X (.Assign [.Name x pos'] e pos) (tAsg te (gName i)):=by
 intro pins s σ H D I h
 refine wpAny_Assign_Name (thn (he pins s σ H _ I h) fun v s1 ⟨y,H1,I1,r1,q1⟩=>?_) hs
 exact y4o I1 hN hi hx r1 (fun s2 I2=>⟨_,H1,I2,q1⟩) hf
def tAugS (to ti te:TE)(tget:V->V->Hp->VK->Prop)(tip:TIp)(tset:TSet):TS:=fun D σ H=>to σ H fun o H1=>ti σ H1 fun i H2=>tget o i H2 fun x H3=>te σ H3 fun y H4=>tip x y H4 fun z H5=>tset o i z H5 fun H6=>D.nx σ H6
def PGet (X:Cx)(t:V->V->Hp->VK->Prop):Prop :=
 ∀ (pins:List (Addr×Obj)) (s:Shared) (σ:St) (H:Hp) (o i:V) (ov iv:Value) (Q:VK),Inv X pins σ H s->RelV o ov->RelV i iv->t o i H Q ->
  wpAny (model X.prog X.w) X.A (getItem ov iv) (EP X pins σ Q) X.xe s
theorem x4k {o i e:Expr}{to ti te:TE}{tget:V->V->Hp->VK->Prop}{tip:TIp}{tset:TSet}{op:Operator}{tpos:Pos}(ho:PE X o to)(hi:PE X i ti)(hg:PGet X tget)(he:PE X e te)(hp:PIp X op tip)(hs:PSet X tset)
 (ha:∀ ov iv new,augStore i ov iv new=(do holding [new,ov,iv] (setItem ov iv new);release [new,ov,iv] [];pure .next):=by intros;rfl):PS X (.AugAssign (.Subscript o i tpos) op e pos) (tAugS to ti te tget tip tset):=by
 intro pins s σ H D I h
 refine wpAny_AugAssign_SubscriptAny (thn (ho pins s σ H _ I h) fun ov s1 ⟨x1,H1,I1,r1,q1⟩=>?_) ha
 refine thn (hi pins s1 σ H1 _ I1 q1) fun iv s2 ⟨x2,H2,I2,r2,q2⟩=>?_
 refine thn (hg pins s2 σ H2 x1 x2 ov iv _ I2 r1 r2 q2) fun old s3 ⟨x3,H3,I3,r3,q3⟩=>?_
 refine thn (he pins s3 σ H3 _ I3 q3) fun v s4 ⟨x4,H4,I4,r4,q4⟩=>?_
 refine thn (hp pins s4 σ H4 x3 x4 old v _ I4 r3 r4 q4) fun new s5 ⟨x5,H5,I5,r5,q5⟩=>?_
 exact thn (hs pins s5 σ H5 x1 x2 x5 ov iv new _ I5 r1 r2 r5 q5) fun _ s6 ⟨H6,I6,q6⟩=>⟨σ,H6,I6,q6⟩
def ipI (f:Int->Int->Int):TIp:=fun x y H Q=>∃ i j,x=.int i/\y=.int j/\Q (.int (f i j)) H
theorem w2u:PIp X .Add (ipI fun i j=>i+j):=by
 intro pins s σ H x y v u Q I r1 r2 h
 obtain⟨i,j,e1,e2,q⟩:=h
 subst e1;subst e2
 obtain⟨t,rfl⟩:=r1
 obtain⟨t',rfl⟩:=r2
 exact iadd_int ⟨.int _,H,I.tok _,⟨_,rfl⟩,q⟩
theorem w2t:PIp X .Sub (ipI fun i j=>i-j):=by
 intro pins s σ H x y v u Q I r1 r2 h
 obtain⟨i,j,e1,e2,q⟩:=h
 subst e1;subst e2
 obtain⟨t,rfl⟩:=r1
 obtain⟨t',rfl⟩:=r2
 exact isub_int ⟨.int _,H,I.tok _,⟨_,rfl⟩,q⟩
end
section
variable {X:Cx}{pos:Pos}
def x9g (c:TT)(tb:TS):TS:=fun D σ H=>∃ W:Nat->St->Hp->Prop,(∃ m,W m σ H)/\∀ m σ H,W m σ H ->
 c σ H fun b H1=>if b=true then ∃ N:St->Hp->Prop,(∀ σ' H',N σ' H'->∃ m',m'<m/\W m' σ' H')/\tb { D with nx:=N,ct:=N,bk:=D.nx } σ H1 else D.nx σ H1
theorem z7a {c:Expr}{body:List Stmt}{tc:TT}{tb:TS}(hp:PassesOwn (model X.prog X.w) X.A X.env X.xe)(hc:PT X c tc)(hb:PSs X body tb):PS X (.While c body [] pos) (x9g tc tb):=by
 intro pins s σ H D I h
 obtain⟨W,⟨m0,w0⟩,turn⟩:=h
 refine wpAny_While (codeAny_whileLoop (fun n s'=>∃ σ' H',Inv X pins σ' H' s'/\W n σ' H') ?_ m0 ⟨σ,H,I,w0⟩)
 rintro n s1 ⟨σ1,H1,I1,w1⟩
 refine wpAny_passesOwn hp (thn (hc pins s1 σ1 H1 _ I1 (turn n σ1 H1 w1)) fun b s2 ⟨H2,I2,q2⟩=>?_)
 cases b with
 | true =>
  obtain⟨N,hN,q2⟩:=q2
  rw[if_pos rfl]
  refine wpAny_passesOwn hp (thn (hb pins s2 σ1 H2 _ I2 q2) fun f s3 q3=>?_)
  cases f with
  | next =>
   obtain⟨σ3,H3,I3,n3⟩:=q3
   obtain⟨m',hm,w3⟩:=hN σ3 H3 n3
   exact⟨m',hm,σ3,H3,I3,w3⟩
  | cont =>
   obtain⟨σ3,H3,I3,n3⟩:=q3
   obtain⟨m',hm,w3⟩:=hN σ3 H3 n3
   exact⟨m',hm,σ3,H3,I3,w3⟩
  | brk=>exact q3
  | ret v=>exact q3
 | false =>
  rw[if_neg Bool.false_ne_true]
  exact wpAny_execs_nil ⟨σ1,H2,I2,q2⟩
end
structure It where
 go:Nat->Hp->Prop
 yld:Nat->Hp->V->Hp->Prop
 stop:Nat->Hp->Prop
def FpOk (X:Cx)(pins:List (Addr×Obj))(H:Hp)(b:Addr):Prop :=
 H b=none/\b≠X.env.locals/\b ∉ X.fs/\(b∈X.ex∨X.s₀.heap.objs.size<=b)/\(∀ x c,X.env.cells.lookup x=some c->c≠b)/\∀ p∈X.pn++pins,p.1≠b
theorem Inv.fpOk {X:Cx}{pins:List (Addr×Obj)}{σ:St}{H H':Hp}{s:Shared}{b:Addr}(I:Inv X pins σ H s)(hb:s.heap.objs.size<=b)(hn:H' b=none):FpOk X pins H' b:=by
 refine⟨hn,Nat.ne_of_gt (Nat.lt_of_lt_of_le I.lt hb),I.nofs hb,.inr (Nat.le_trans I.sz hb),fun x c e z=>?_,fun p hp z=>?_⟩
 ·obtain⟨v,q⟩:=I.cell x c e
  exact absurd (Nat.lt_of_lt_of_le q.lt (by rw[z];exact hb)) (Nat.lt_irrefl _)
 ·exact absurd (Nat.lt_of_lt_of_le (Heap.lt_size (I.pin p hp).1) (by rw[z];exact hb)) (Nat.lt_irrefl _)
structure Turn (P:Program)(w:World)(K:W.Frag)(tg:Expr)(J:It)(fp:List Addr)(it:Addr)(tn:Nat->Heap->Prop):Prop where
 mem:it∈fp
 obj:∀ i h,tn i h->∀ b∈fp,∃ o,h.get? b=some o/\∀ v,o.data≠.cell v
 keep:∀ i h h',tn i h->(∀ b∈fp,∀ o,h.get? b=some o->h'.get? b=some o)->tn i h'
 item:∀ (X:Cx),X.prog=P->X.w=w->X.K=K->X.calm=true->∀ (i:Nat) (pins:List (Addr×Obj)) (s:Shared) (σ:St) (H:Hp) (E:Value->Shared->Prop),Inv X pins σ H s->(∀ b∈fp,FpOk X pins H b)->tn i s.heap->J.go i H ->
  wpAny (model P w) X.A (pyNext (.ref it)) (fun r s1=>∃ u,r=some u /\
   wpAny (model P w) X.A (letOwnedTupleGo tg (.ref it) u) (fun _ s2=>∃ x H',Inv X pins σ H' s2/\RelV x u/\J.yld i H x H'/\tn (i+1) s2.heap/\∀ b∈fp,H' b=none) E s1) E s
 done:∀ (X:Cx),X.prog=P->X.w=w->X.K=K->X.calm=true->∀ (i:Nat) (pins:List (Addr×Obj)) (s:Shared) (σ:St) (H:Hp) (E:Value->Shared->Prop),Inv X pins σ H s->(∀ b∈fp,FpOk X pins H b)->tn i s.heap->J.stop i H ->
  wpAny (model P w) X.A (pyNext (.ref it)) (fun r s1=>r=none/\Inv X pins σ H s1) E s
 self:∀ (A:Around) (i:Nat) (s:Shared) (Q:Value->Shared->Prop) (E:Value->Shared->Prop),tn i s.heap->Q (.ref it) s->wpAny (model P w) A (pyIter (.ref it)) Q E s
abbrev TI:=St->Hp->(It->Hp->Prop)->Prop
def PIE (X:Cx)(pins:List (Addr×Obj))(σ:St)(tg:Expr)(R:It->Hp->Prop)(itv:Value)(s2:Shared):Prop :=
 ∃ (it:Addr) (fp:List Addr) (tn:Nat->Heap->Prop) (J:It) (H':Hp),itv=.ref it/\Inv X pins σ H' s2/\Turn X.prog X.w X.K tg J fp it tn/\tn 0 s2.heap/\(∀ b∈fp,FpOk X pins H' b)/\R J H'
def PI (X:Cx)(tg iter:Expr)(wi:TI):Prop :=
 ∀ (pins:List (Addr×Obj)) (s:Shared) (σ:St) (H:Hp) (R:It->Hp->Prop),Inv X pins σ H s->wi σ H R ->
  wpAny (model X.prog X.w) X.A (eval iter X.env) (fun v s1=>wpAny (model X.prog X.w) X.A (pyIter v) (PIE X pins σ tg R) X.xe s1) X.xe s
theorem go_of {M:Model}{A:Around}{E:Value->Shared->Prop}{s:Shared}{tg:Expr}{it:Addr}{u:Value}{o:Obj}{n:String}{vs:Array Value}{Q:Unit->Shared->Prop}(ho:s.heap.get? it=some o)(hc:o.cls=.type n)(hd:o.data=.fields vs)
 (hn:["enumerate","zip","dict_itemiterator","dict_reverseitemiterator","odict_iterator","itertools.zip_longest","itertools.pairwise"].contains n=false) (hQ:Q () s):wpAny M A (letOwnedTupleGo tg (.ref it) u) Q E s:=by
 unfold letOwnedTupleGo
 cases tg<;>first
  | exact wpAny_pure hQ
  | (cases u<;>first
   | exact wpAny_pure hQ
   | (refine wpAny_bind (wpAny_load ho ?_)
      rw[hc,hd]
      show wpAny M A (if (["enumerate","zip","dict_itemiterator","dict_reverseitemiterator","odict_iterator","itertools.zip_longest","itertools.pairwise"].contains n&&vs[0]? == some (rawInt _))=true then _ else _) Q E s
      rw[if_neg (by intro h;rw[hn,Bool.false_and]at h;cases h)]
      exact wpAny_pure hQ))
def Itl (K:W.Frag)(a:Addr):It :=
 ⟨fun i H=>∃ xs x,SqL K H a xs/\xs[i]?=some x,fun i H x H'=>H'=H/\∀ xs,SqL K H a xs->xs[i]?=some x,fun i H=>∃ xs,SqL K H a xs/\xs.length<=i⟩
def Itr (lo:Int)(n:Nat):It:=⟨fun i _=>i<n,fun i H x H'=>H'=H/\x=.int (lo+i),fun i _=>n<=i⟩
theorem x3p {P:Program}{w:World}{K:W.Frag}{tg:Expr}(a it:Addr):Turn P w K tg (Itl K a) [it] it (fun i h=>h.IsListIter it a i) where
 mem:=by simp
 obj:=fun i h st b hb=>by
  have e:b=it:=by simpa using hb
  subst e
  obtain⟨o,e,c,d⟩:=st
  exact⟨o,e,fun v z=>by rw[d]at z;cases z⟩
 keep:=fun i h h' st k=>st.at fun o e=>k it (by simp) o e
 item:=by
  intro X hP hw hK hc i pins s σ H E I hf st hg
  subst hP hw hK
  obtain⟨xs,x,hq,hx⟩:=hg
  obtain⟨its,rv,p,hz⟩:=I.list hq
  obtain⟨u,hu,ru⟩:=rv.get hx
  obtain⟨f0,f1,f2,f3,f4,f5⟩:=hf it (by simp)
  refine wpAny_pyNext_list_item st p.isList (x:=u) (by simpa using hu) fun h' st' sb=>?_
  have I1:Inv X pins σ H { s with heap:=h' }:=I.turned (t':=s.toks) (fun b o hb e=>(sb.2 b hb).trans e) f0 f1 f3 f4 f5
  obtain⟨o,e,c,d⟩:=id st'
  exact⟨u,rfl,go_of (s:={ s with heap:=h' }) e c d (by decide) ⟨x,H,I1,ru,⟨rfl,fun ys hy=>by rw[I.list_inj hy hq];exact hx⟩,st',fun b hb=>(hf b hb).1⟩⟩
 done:=by
  intro X hP hw hK hc i pins s σ H E I hf st hg
  subst hP hw hK
  obtain⟨xs,hq,hx⟩:=hg
  obtain⟨its,rv,p,hz⟩:=I.list hq
  obtain⟨f0,f1,f2,f3,f4,f5⟩:=hf it (by simp)
  have hl:=rv.length
  exact wpAny_pyNext_list_end (I.ok.hd hc) st p.isList (by simp;omega) fun h' eb=>⟨rfl,I.turned (t':=s.toks) (fun b o hb e=>eb b o hb e) f0 f1 f3 f4 f5⟩
 self:=fun _ _ _ _ _ st h=>wpAny_pyIter_listiter st h
theorem x2d {P:Program}{w:World}{K:W.Frag}{tg:Expr}(it:Addr)(lo:Int)(n:Nat):Turn P w K tg (Itr lo n) [it] it (fun i h=>IsRangeIter h it (lo+(i:Nat)*1) ((n:Int)-(i:Nat)) 1) where
 mem:=by simp
 obj:=fun i h st b hb=>by
  have e:b=it:=by simpa using hb
  subst e
  exact⟨_,st,fun v z=>by
   have z':Data.fields _=Data.cell v:=z
   cases z'⟩
 keep:=fun i h h' st k=>k it (by simp) _ st
 item:=by
  intro X hP hw hK hc i pins s σ H E I hf st hg
  subst hP hw hK
  obtain⟨f0,f1,f2,f3,f4,f5⟩:=hf it (by simp)
  have W:=Walks.range (prog:=X.prog) (w:=X.w) (I.ok.hd hc) it lo 1 n
  refine W.item i s _ _ hg st fun v h' tk hv st' kk=>?_
  obtain⟨t,rfl⟩:=hv
  have I1:Inv X pins σ H { s with heap:=h',toks:=tk }:=I.turned (fun b o hb e=>kk b o (by simpa using hb) e) f0 f1 f3 f4 f5
  refine⟨_,rfl,go_of (s:={ s with heap:=h',toks:=tk }) (n:="range_iterator") st' rfl rfl (by decide) ⟨.int (lo+i),H,I1,⟨t,?_⟩,⟨rfl,rfl⟩,st',fun b hb=>(hf b hb).1⟩⟩
  rw[Int.mul_one]
 done:=by
  intro X hP hw hK hc i pins s σ H E I hf st hg
  subst hP hw hK
  obtain⟨f0,f1,f2,f3,f4,f5⟩:=hf it (by simp)
  exact wpAny_pyNext_range_end (I.ok.hd hc) st (by have:n<=i:=hg;omega) fun h' eb=>⟨rfl,I.turned (t':=s.toks) (fun b o hb e=>eb b o hb e) f0 f1 f3 f4 f5⟩
 self:=fun _ _ _ _ _ st h=>wpAny_pyIter_rangeiter st h
end L2
namespace L2
open PySem PySem.Spec PyProof.Rows
section
variable {X:Cx}{tg:Expr}
def iList (K:W.Frag)(tl:TE):TI:=fun σ H R=>tl σ H fun x H1=>∃ a,x=.ref a/\(∃ xs,SqL K H1 a xs)/\R (Itl K a) H1
theorem z1d {l:Expr}{tl:TE}(hl:PE X l tl):PI X tg l (iList X.K tl):=by
 intro pins s σ H R I h
 refine thn (hl pins s σ H _ I h) fun v s1 ⟨x,H1,I1,r1,q1⟩=>?_
 obtain⟨a,e,⟨xs,hq⟩,q⟩:=q1
 subst e
 cases r1
 obtain⟨its,rv,p,hz⟩:=I1.list hq
 refine wpAny_pyIter_list p.isList ?_
 refine⟨s1.heap.objs.size,[s1.heap.objs.size],_,_,H1,rfl,I1.kept (t':=s1.toks) fun b o e=>Heap.get?_push_of_some _ e,x3p a _,⟨_,Heap.get?_push_size _ rfl,rfl,rfl⟩,fun b hb=>?_,q⟩
 have e:b=s1.heap.objs.size:=by simpa using hb
 subst e
 exact I1.fpOk (Nat.le_refl _) (I1.hok.fresh (Nat.le_refl _))
theorem x0u {pins:List (Addr×Obj)}{σ:St}{H:Hp}{s:Shared}{R:It->Hp->Prop}{E:Value->Shared->Prop}{lo hi:Int}{t u v:Tok}{tk:Nat}(I:Inv X pins σ H s)(h1:-(2 ^ 62)<=lo)(h2:lo<2 ^ 62)(h3:-(2 ^ 62)<=hi)(h4:hi<2 ^ 62)
 (q:R (Itr lo (hi-lo).toNat) H):wpAny (model X.prog X.w) X.A (pyIter (.ref s.heap.objs.size)) (PIE X pins σ tg R) E { s with heap:=s.heap.push { cls:=.type "range",data:=.fields #[.int lo t,.int hi u,.int 1 v] },toks:=tk }:=by
 refine wpAny_pyIter_range (IsRange.new ..) (small_one h1 h2 h3 h4) ?_
 have I1:Inv X pins σ H { s with heap:=s.heap.push { cls:=.type "range",data:=.fields #[.int lo t,.int hi u,.int 1 v] },toks:=tk }:=I.kept fun b o e=>Heap.get?_push_of_some _ e
 refine⟨(s.heap.push { cls:=.type "range",data:=.fields #[.int lo t,.int hi u,.int 1 v] }).objs.size,[(s.heap.push { cls:=.type "range",data:=.fields #[.int lo t,.int hi u,.int 1 v] }).objs.size],_,_,H,rfl,
  I1.kept (t':=tk) fun b o e=>Heap.get?_push_of_some _ e,x2d _ lo (hi-lo).toNat,?_,fun b hb=>?_,q⟩
 ·have e1:lo+((0:Nat):Int)*1=lo:=by simp
  have e2:(((hi-lo).toNat:Nat):Int)-((0:Nat):Int)=Builtin.Range.rangeSize lo hi 1:=by rw[rangeSize_one];split<;>omega
  show IsRangeIter _ _ (lo+((0:Nat):Int)*1) ((((hi-lo).toNat:Nat):Int)-((0:Nat):Int)) 1
  rw[e1,e2]
  exact Heap.get?_push_size _ rfl
 ·have e:b=(s.heap.push { cls:=.type "range",data:=.fields #[.int lo t,.int hi u,.int 1 v] }).objs.size:=by simpa using hb
  subst e
  exact I1.fpOk (Nat.le_refl _) (I1.hok.fresh (Nat.le_refl _))
def iRng1 (ta:TA):TI:=fun σ H R=>ta σ H fun vs H1=>∃ j:Int,vs=[.int j]/\-(2 ^ 62)<=j/\j<2 ^ 62/\R (Itr 0 j.toNat) H1
def iRng2 (ta:TA):TI:=fun σ H R=>ta σ H fun vs H1=>∃ i j:Int,vs=[.int i,.int j]/\(-(2 ^ 62)<=i/\i<2 ^ 62/\-(2 ^ 62)<=j/\j<2 ^ 62)/\R (Itr i (j-i).toNat) H1
theorem z5b {a:Expr}{ta:TA}{p pos:Pos}(hg:Gl X "range")(hm:X.mg "range" = none)(ha:PA X [a] ta)(hs:starEach [a] X.env=[(false,eval a X.env)]:=by rfl):PI X tg (.Call (.Name "range" p) [a] [] pos) (iRng1 ta):=by
 intro pins s σ H R I h
 refine Call_ (y1a I hg hm boot_range (PyProof.Rows.callWith_type1 (thn (ha pos pins s σ H _ I h) fun us s1 ⟨vs,H1,I1,r1,q1⟩=>?_) hs rfl))
 obtain⟨j,e,q1,q2,q⟩:=q1
 subst e
 cases r1 with
 | cons r rr =>
  cases rr
  obtain⟨t,rfl⟩:=r
  exact call_range_1 (x0u I1 (by omega) (by omega) q1 q2 (by simpa using q))
theorem z7y {a b:Expr}{ta:TA}{p pos:Pos}(hg:Gl X "range")(hm:X.mg "range" = none)(ha:PA X [a,b] ta)(hs:starEach [a,b] X.env=[(false,eval a X.env),(false,eval b X.env)]:=by rfl) (hs2:starEach [b] X.env=[(false,eval b X.env)]:=by rfl) :
 PI X tg (.Call (.Name "range" p) [a,b] [] pos) (iRng2 ta):=by
 intro pins s σ H R I h
 refine Call_ (y1a I hg hm boot_range (PyProof.Rows.callWith_type1 (thn (ha pos pins s σ H _ I h) fun us s1 ⟨vs,H1,I1,r1,q1⟩=>?_) (by rw[hs,hs2]) (by rw[hs2];rfl)))
 obtain⟨i,j,e,⟨q1,q2,q3,q4⟩,q⟩:=q1
 subst e
 cases r1 with
 | cons r rr =>
  cases rr with
  | cons r' rr =>
   cases rr
   obtain⟨t,rfl⟩:=r
   obtain⟨t',rfl⟩:=r'
   exact call_range_2 (x0u I1 q1 q2 q3 q4 q)
def tFor (wi:TI)(g:TG)(tb:TS):TS:=fun D σ H=>wi σ H fun J H1=>∃ W:Nat->Nat->St->Hp->Prop,(∃ m,W 0 m σ H1)/\∀ i m σ H,W i m σ H ->
 (J.stop i H/\D.nx σ H)∨(J.go i H/\∃ N:St->Hp->Prop,(∀ σ' H',N σ' H'->∃ m',m'<m/\W (i+1) m' σ' H')/\∀ x H',J.yld i H x H'->g x σ H' fun σ2 H2=>tb { D with nx:=N,ct:=N,bk:=D.nx } σ2 H2)
def y6r (fp:List Addr)(h:Heap):List (Addr×Obj):=fp.filterMap fun b=>(h.get? b).map fun o=>(b,o)
theorem z8o {fp:List Addr}{h:Heap}{b:Addr}{o:Obj}(hb:b∈fp)(e:h.get? b=some o):(b,o)∈y6r fp h:=List.mem_filterMap.mpr ⟨b,hb,by rw[e];rfl⟩
theorem x5e {fp:List Addr}{h:Heap}{p:Addr×Obj}(hp:p∈y6r fp h):p.1∈fp/\h.get? p.1=some p.2:=by
 obtain⟨b,hb,e⟩:=List.mem_filterMap.mp hp
 cases q:h.get? b with
 | none=>rw[q]at e;cases e
 | some o =>
  rw[q]at e
  have e':(b,o)=p:=Option.some.inj e
  subst e'
  exact⟨hb,q⟩
theorem Inv.pinned {pins:List (Addr×Obj)}{σ:St}{H:Hp}{s:Shared}{fp:List Addr}(I:Inv X pins σ H s)(hf:∀ b∈fp,FpOk X pins H b)(ho:∀ b∈fp,∃ o,s.heap.get? b=some o/\∀ v,o.data≠.cell v):Inv X (pins++y6r fp s.heap) σ H s :=
 I.pins_of fun p hp=>(List.mem_append.mp hp).elim (fun z=>I.pin p (List.mem_append_right _ z)) fun z=>by
  obtain⟨hb,e⟩:=x5e z
  obtain⟨f0,f1,f2,_⟩:=hf p.1 hb
  obtain⟨o,e',d⟩:=ho p.1 hb
  rw[e]at e';cases e'
  exact⟨e,f0,f1,f2,d⟩
theorem Inv.unpinned {pins pl:List (Addr×Obj)}{σ:St}{H:Hp}{s:Shared}(I:Inv X (pins++pl) σ H s):Inv X pins σ H s:=I.pins_of fun p hp=>I.pin p (List.mem_append_right _ (List.mem_append_left _ hp))
theorem z3a {iter:Expr}{body:List Stmt}{wi:TI}{g:TG}{tb:TS}{pos:Pos}(hp:PassesOwn (model X.prog X.w) X.A X.env X.xe)(hc:X.calm=true)(hi:PI X tg iter wi)(hg:PG X tg g)(hb:PSs X body tb)
 (hs:∀ x,foldedSetIterable iter X.env x=pure x:=by intro _;rfl):PS X (.For tg iter body [] pos) (tFor wi g tb):=by
 intro pins s σ H D I h
 refine wpAny_For (thn (hi pins s σ H _ I h) fun v s1 h1=>thn h1 fun itv s2 h2=>?_) hs
 obtain⟨it,fp,tn,J,H2,e,I2,T,st2,f2,W,⟨m0,w0⟩,turn⟩:=h2
 subst e
 have stat:∀ {H':Hp},(∀ b∈fp,H' b=none)->∀ b∈fp,FpOk X pins H' b:=fun hn b hb=>⟨hn b hb,(f2 b hb).2⟩
 refine codeAny_forLoop_any (fun n s'=>∃ i σ' H',Inv X pins σ' H' s'/\tn i s'.heap/\(∀ b∈fp,H' b=none)/\W i n σ' H') ?_ m0 ⟨0,σ,H2,I2,st2,fun b hb=>(f2 b hb).1,w0⟩
 rintro n s3 ⟨i,σ3,H3,I3,st3,fr3,w3⟩
 rcases turn i n σ3 H3 w3 with ⟨stop,qn⟩|⟨go,N,hN,step⟩
 ·refine wpAny_passesOwn hp (thn (T.done X rfl rfl rfl hc i pins s3 σ3 H3 X.xe I3 (stat fr3) st3 stop) fun r s4 ⟨hr,I4⟩=>?_)
  subst hr
  exact wpAny_execs_nil ⟨σ3,H3,I4,qn⟩
 ·refine wpAny_passesOwn hp (thn (T.item X rfl rfl rfl hc i pins s3 σ3 H3 X.xe I3 (stat fr3) st3 go) fun r s4 ⟨u,hr,h4⟩=>?_)
  subst hr
  refine wpAny_passesOwn hp (thn h4 fun _ s5 ⟨x,H5,I5,r5,y5,st5,fr5⟩=>?_)
  have I5':=I5.pinned (stat fr5) (T.obj _ _ st5)
  refine wpAny_passesOwn hp (thn (hg _ s5 σ3 H5 x u _ I5' r5 (step x H5 y5)) fun _ s6 ⟨σ6,H6,I6,q6⟩=>?_)
  refine wpAny_passesOwn hp (thn (hb _ s6 σ6 H6 _ I6 q6) fun f s7 q7=>?_)
  have again:∀ {σ7:St} {H7:Hp},Inv X (pins++y6r fp s5.heap) σ7 H7 s7->N σ7 H7->∃ m,m<n/\∃ i σ' H',Inv X pins σ' H' s7/\tn i s7.heap/\(∀ b∈fp,H' b=none)/\W i m σ' H':=fun {σ7 H7} I7 n7=>by
   obtain⟨m',hm,w7⟩:=hN σ7 H7 n7
   refine⟨m',hm,i+1,σ7,H7,I7.unpinned,T.keep _ _ _ st5 fun b hb o e=>(I7.pin (b,o) (List.mem_append_right _ (List.mem_append_right _ (z8o hb e)))).1,fun b hb=>?_,w7⟩
   obtain⟨o,e,d⟩:=T.obj _ _ st5 b hb
   exact (I7.pin (b,o) (List.mem_append_right _ (List.mem_append_right _ (z8o hb e)))).2.1
  cases f with
  | next=>obtain⟨σ7,H7,I7,n7⟩:=q7;exact again I7 n7
  | cont=>obtain⟨σ7,H7,I7,n7⟩:=q7;exact again I7 n7
  | brk=>obtain⟨σ7,H7,I7,q7⟩:=q7;exact⟨σ7,H7,I7.unpinned,q7⟩
  | ret v=>obtain⟨x7,σ7,H7,I7,r7,q7⟩:=q7;exact⟨x7,σ7,H7,I7.unpinned,r7,q7⟩
end
theorem z2z {K:W.Frag}{a:Addr}{xs:List V}{g:TG}{tb:TS}{D:Ends}{σ:St}{H:Hp}(Pv:Nat->St->Hp->Prop)(h0:Pv 0 σ H)(hl:∀ i σ H,i<=xs.length->Pv i σ H->SqL K H a xs)
 (hs:∀ i x σ H,xs[i]?=some x->Pv i σ H->g x σ H fun σ2 H2=>tb { D with nx:=Pv (i+1),ct:=Pv (i+1),bk:=D.nx } σ2 H2) (hd:∀ σ H,Pv xs.length σ H->D.nx σ H) :
 ∃ W:Nat->Nat->St->Hp->Prop,(∃ m,W 0 m σ H)/\∀ i m σ H,W i m σ H ->
  ((Itl K a).stop i H/\D.nx σ H)∨((Itl K a).go i H/\∃ N:St->Hp->Prop,(∀ σ' H',N σ' H'->∃ m',m'<m/\W (i+1) m' σ' H')/\∀ x H',(Itl K a).yld i H x H'->g x σ H' fun σ2 H2=>tb { D with nx:=N,ct:=N,bk:=D.nx } σ2 H2):=by
 refine⟨fun i m σ H=>m=xs.length-i/\i<=xs.length/\Pv i σ H,⟨xs.length,by simp,Nat.zero_le _,h0⟩,?_⟩
 rintro i m σ H ⟨rfl,hi,p⟩
 have q:=hl i σ H hi p
 by_cases hlt:i<xs.length
 ·refine .inr ⟨⟨xs,xs[i],q,by simp[hlt]⟩,Pv (i+1),fun σ' H' p'=>⟨xs.length-(i+1),by omega,rfl,hlt,p'⟩,fun x H' y=>?_⟩
  obtain⟨e,y⟩:=y
  subst e
  exact hs i x σ _ (y xs q) p
 ·have e:i=xs.length:=by omega
  subst e
  exact .inl ⟨⟨xs,q,Nat.le_refl _⟩,hd σ H p⟩
theorem z5h {lo:Int}{n:Nat}{g:TG}{tb:TS}{D:Ends}{σ:St}{H:Hp}(Pv:Nat->St->Hp->Prop)(h0:Pv 0 σ H)
 (hs:∀ i σ H,i<n->Pv i σ H->g (.int (lo+i)) σ H fun σ2 H2=>tb { D with nx:=Pv (i+1),ct:=Pv (i+1),bk:=D.nx } σ2 H2) (hd:∀ σ H,Pv n σ H->D.nx σ H) :
 ∃ W:Nat->Nat->St->Hp->Prop,(∃ m,W 0 m σ H)/\∀ i m σ H,W i m σ H ->
  ((Itr lo n).stop i H/\D.nx σ H)∨((Itr lo n).go i H/\∃ N:St->Hp->Prop,(∀ σ' H',N σ' H'->∃ m',m'<m/\W (i+1) m' σ' H')/\∀ x H',(Itr lo n).yld i H x H'->g x σ H' fun σ2 H2=>tb { D with nx:=N,ct:=N,bk:=D.nx } σ2 H2):=by
 refine⟨fun i m σ H=>m=n-i/\i<=n/\Pv i σ H,⟨n,by simp,Nat.zero_le _,h0⟩,?_⟩
 rintro i m σ H ⟨rfl,hi,p⟩
 by_cases hlt:i<n
 ·refine .inr ⟨hlt,Pv (i+1),fun σ' H' p'=>⟨n-(i+1),by omega,rfl,hlt,p'⟩,fun x H' y=>?_⟩
  obtain⟨e,y⟩:=y
  subst e y
  exact hs i σ _ hlt p
 ·have e:i=n:=by omega
  subst e
  exact .inl ⟨Nat.le_refl _,hd σ H p⟩
end L2
namespace L2
open PySem PySem.Spec PyProof.Rows
abbrev R2:=V->V->Hp->VK->Prop
def OpR (X:Cx)(f:Value->Value->Sem Value)(r:R2):Prop :=
 ∀ (pins:List (Addr×Obj)) (s:Shared) (σ:St) (H:Hp) (x y:V) (v u:Value) (Q:VK),Inv X pins σ H s->RelV x v->RelV y u->r x y H Q ->
  wpAny (model X.prog X.w) X.A (f v u) (EP X pins σ Q) X.xe s
def UnR (X:Cx)(f:Value->Sem Value)(r:V->Hp->VK->Prop):Prop :=
 ∀ (pins:List (Addr×Obj)) (s:Shared) (σ:St) (H:Hp) (x:V) (v:Value) (Q:VK),Inv X pins σ H s->RelV x v->r x H Q ->
  wpAny (model X.prog X.w) X.A (f v) (EP X pins σ Q) X.xe s
def CallR (X:Cx)(f:Value)(r:List V->Hp->VK->Prop):Prop :=
 ∀ (pins:List (Addr×Obj)) (s:Shared) (σ:St) (H:Hp) (xs:List V) (us:List Value) (Q:VK),Inv X pins σ H s->Vals xs us->r xs H Q ->
  wpAny (model X.prog X.w) X.A (call f us) (EP X pins σ Q) X.xe s
def TruR (X:Cx)(r:V->Hp->(Bool->Hp->Prop)->Prop):Prop :=
 ∀ (pins:List (Addr×Obj)) (s:Shared) (σ:St) (H:Hp) (x:V) (v:Value) (Q:Bool->Hp->Prop),Inv X pins σ H s->RelV x v->r x H Q ->
  wpAny (model X.prog X.w) X.A (truthy v) (TP X pins σ Q) X.xe s
def tOp (r:R2)(ta tb:TE):TE:=fun σ H Q=>ta σ H fun x H1=>tb σ H1 fun y H2=>r x y H2 Q
def tUn (r:V->Hp->VK->Prop)(ta:TE):TE:=fun σ H Q=>ta σ H fun x H1=>r x H1 Q
def rI (C:Int->Int->Prop)(g:Int->Int->V):R2:=fun x y H Q=>∃ i j,x=.int i/\y=.int j/\C i j/\Q (g i j) H
def rI0 (g:Int->Int->V):R2:=fun x y H Q=>∃ i j,x=.int i/\y=.int j/\Q (g i j) H
def rU (g:Int->V):V->Hp->VK->Prop:=fun x H Q=>∃ i,x=.int i/\Q (g i) H
section
variable {X:Cx}{a b c:Expr}{ta tb tc:TE}{pos:Pos}
theorem binT (ha:PE X a ta)(hb:PE X b tb){pins:List (Addr×Obj)}{s:Shared}{σ:St}{H:Hp}{R:V->V->Hp->Prop}(I:Inv X pins σ H s)
 (h:ta σ H fun x H1=>tb σ H1 fun y H2=>R x y H2) {Q:Value->Shared->Prop} {f:Value->Value->Sem Value}
 (hf:∀ v u s2 x y H2,Inv X pins σ H2 s2->RelV x v->RelV y u->R x y H2->wpAny (model X.prog X.w) X.A (f v u) Q X.xe s2) :
 wpAny (model X.prog X.w) X.A (eval a X.env) (fun v s₁=>wpAny (model X.prog X.w) X.A (eval b X.env) (fun u s₂=>wpAny (model X.prog X.w) X.A (f v u) Q X.xe s₂) X.xe s₁) X.xe s:=by
 refine thn (ha pins s σ H _ I h) fun v s1 ⟨x,H1,I1,r1,q1⟩=>?_
 refine thn (hb pins s1 σ H1 _ I1 q1) fun u s2 ⟨y,H2,I2,r2,q2⟩=>?_
 exact hf v u s2 x y H2 I2 r1 r2 q2
theorem pe_op {op:Operator}{r:R2}(ho:OpR X (binaryOp op) r)(ha:PE X a ta)(hb:PE X b tb):PE X (.BinOp a op b pos) (tOp r ta tb):=by
 intro pins s σ H Q I h
 exact wpAny_BinOp (binT ha hb I h fun v u s2 x y H2 I2 rx ry q=>ho pins s2 σ H2 x y v u Q I2 rx ry q)
theorem pe_un {op:UnaryOp}{r:V->Hp->VK->Prop}(ho:UnR X (unaryOp op) r)(ha:PE X a ta):PE X (.UnaryOp op a pos) (tUn r ta):=by
 intro pins s σ H Q I h
 exact UnaryOp_ (thn (ha pins s σ H _ I h) fun v s1 ⟨x,H1,I1,r1,q1⟩=>ho pins s1 σ H1 x v Q I1 r1 q1)
theorem opI {f:Value->Value->Sem Value}{C:Int->Int->Prop}{g:Int->Int->Int}
 (rule:∀ (i j:Int) (t u:Tok) (s:Shared) (Q:Value->Shared->Prop) (E:Value->Shared->Prop),C i j->Q (.int (g i j) s.toks) { s with toks:=s.toks+1 }->wpAny (model X.prog X.w) X.A (f (.int i t) (.int j u)) Q E s) :
 OpR X f (rI C fun i j=>.int (g i j)):=by
 intro pins s σ H x y v u Q I rx ry h
 obtain⟨i,j,rfl,rfl,hc,q⟩:=h
 obtain⟨t,rfl⟩:=rx
 obtain⟨t',rfl⟩:=ry
 exact rule i j t t' s _ _ hc ⟨.int (g i j),H,I.tok _,⟨_,rfl⟩,q⟩
theorem opI0 {f:Value->Value->Sem Value}{g:Int->Int->Int}
 (rule:∀ (i j:Int) (t u:Tok) (s:Shared) (Q:Value->Shared->Prop) (E:Value->Shared->Prop),Q (.int (g i j) s.toks) { s with toks:=s.toks+1 }->wpAny (model X.prog X.w) X.A (f (.int i t) (.int j u)) Q E s) :
 OpR X f (rI0 fun i j=>.int (g i j)):=by
 intro pins s σ H x y v u Q I rx ry h
 obtain⟨i,j,rfl,rfl,q⟩:=h
 obtain⟨t,rfl⟩:=rx
 obtain⟨t',rfl⟩:=ry
 exact rule i j t t' s _ _ ⟨.int (g i j),H,I.tok _,⟨_,rfl⟩,q⟩
theorem opB0 {f:Value->Value->Sem Value}{g:Int->Int->Bool}
 (rule:∀ (i j:Int) (t u:Tok) (s:Shared) (Q:Value->Shared->Prop) (E:Value->Shared->Prop),Q (.bool (g i j)) s->wpAny (model X.prog X.w) X.A (f (.int i t) (.int j u)) Q E s) :
 OpR X f (rI0 fun i j=>.bl (g i j)):=by
 intro pins s σ H x y v u Q I rx ry h
 obtain⟨i,j,rfl,rfl,q⟩:=h
 obtain⟨t,rfl⟩:=rx
 obtain⟨t',rfl⟩:=ry
 exact rule i j t t' s _ _ ⟨.bl (g i j),H,I,rfl,q⟩
def CDiv (i j:Int):Prop:=0<j/\j<1073741824
def CMul (i j:Int):Prop:=(-(2 ^ 64)<i/\i<2 ^ 64)∨(-(2 ^ 64)<j/\j<2 ^ 64)
theorem CMul.ok {i j:Int}(h:CMul i j):IntMulOk i j:=by
 rcases h with ⟨h1,h2⟩|⟨h1,h2⟩
 ·exact .of_left (intBits_le_64 h1 h2)
 ·exact .of_right (intBits_le_64 h1 h2)
theorem z6o:OpR X (binaryOp .Add) (rI0 fun i j=>.int (i+j)):=opI0 fun _ _ _ _ _ _ _ q=>add_int q
theorem y2e:OpR X (binaryOp .Sub) (rI0 fun i j=>.int (i-j)):=opI0 fun _ _ _ _ _ _ _ q=>sub_int q
theorem y0w:OpR X (binaryOp .Mult) (rI CMul fun i j=>.int (i*j)):=opI fun _ _ _ _ _ _ _ hc q=>mul_int q hc.ok
theorem z5t:OpR X (binaryOp .FloorDiv) (rI CDiv fun i j=>.int (i / j)):=opI fun i j _ _ _ _ _ hc q=>by
 have h1:(0:Int)<j:=hc.1
 have h2:j<1073741824:=hc.2
 exact floordiv_int (by omega) (by rw[Int.fdiv_eq_ediv_of_nonneg i (by omega)];exact q) (.inl (PyProof.noPylong_small (by omega)))
theorem z4k:OpR X (binaryOp .Mod) (rI (fun _ j=>0<j) fun i j=>.int (i % j)):=opI fun i j _ _ _ _ _ hc q=>by
 have h1:(0:Int)<j:=hc
 exact mod_int' (by omega) (by rw[Int.fmod_eq_emod_of_nonneg i (by omega)];exact q)
theorem unI {f:Value->Sem Value}{g:Int->Int}
 (rule:∀ (i:Int) (t:Tok) (s:Shared) (Q:Value->Shared->Prop) (E:Value->Shared->Prop),Q (.int (g i) s.toks) { s with toks:=s.toks+1 }->wpAny (model X.prog X.w) X.A (f (.int i t)) Q E s) :
 UnR X f (rU fun i=>.int (g i)):=by
 intro pins s σ H x v Q I rx h
 obtain⟨i,rfl,q⟩:=h
 obtain⟨t,rfl⟩:=rx
 exact rule i t s _ _ ⟨.int (g i),H,I.tok _,⟨_,rfl⟩,q⟩
theorem z1z:UnR X (unaryOp .USub) (rU fun i=>.int (-i)):=unI fun _ _ _ _ _ q=>neg_int q
end
def scal:V->V->Bool
 | .non,.non=>true | .non,.int _=>true | .int _,.non=>true | .non,.bl _=>true | .bl _,.non=>true | .non,.str _=>true | .str _,.non=>true
 | .int _,.int _=>true | .bl _,.bl _=>true | .str _,.str _=>true | .byt _,.byt _=>true
 | .int _,.str _=>true | .str _,.int _=>true | .bl _,.str _=>true | .str _,.bl _=>true
 | _,_=>false
def rEq:R2:=fun x y H Q=>scal x y=true/\Q (.bl (decide (x=y))) H
def rNe:R2:=fun x y H Q=>scal x y=true/\Q (.bl (!decide (x=y))) H
theorem x6v {i j:Int}:decide (V.int i=V.int j)=(i==j):=by
 rw[Bool.eq_iff_iff]
 simp
theorem x9s {i j:Bool}:decide (V.bl i=V.bl j)=(i==j):=by
 rw[Bool.eq_iff_iff]
 simp
theorem x6u {i j:Str}:decide (V.str i=V.str j)=(i==j):=by
 rw[Bool.eq_iff_iff]
 simp
theorem x6w {i j:Array UInt8}:decide (V.byt i=V.byt j)=(i.toList==j.toList):=by
 rw[Bool.eq_iff_iff]
 cases i
 cases j
 simp
section
variable {X:Cx}{a b c:Expr}{ta tb tc:TE}{pos:Pos}
theorem z1u {pins:List (Addr×Obj)}{σ:St}{H:Hp}{s:Shared}{Q:VK}{k k':Bool}(I:Inv X pins σ H s)(q:Q (.bl k) H)(e:k=k'):EP X pins σ Q (.bool k') s:=by
 subst e
 exact⟨.bl k,H,I,rfl,q⟩
theorem op_eq:OpR X (compareOp .Eq) rEq:=by
 intro pins s σ H x y v u Q I rx ry h
 obtain⟨hs,q⟩:=h
 cases x with
 | non =>
  cases rx
  cases y with
  | non=>cases ry;exact PySem.EqNone.eq_none_none (z1u I q (by simp))
  | bl j=>cases ry;exact PySem.EqNone.eq_none_bool (z1u I q (by simp))
  | int j=>obtain⟨t',rfl⟩:=ry;exact PySem.EqNone.eq_none_int (z1u I q (by simp))
  | str j=>obtain⟨t',rfl⟩:=ry;exact PySem.EqNone.eq_none_str (z1u I q (by simp))
  | _=>exact absurd (show false=true from hs) Bool.false_ne_true
 | bl i =>
  cases rx
  cases y with
  | non=>cases ry;exact PySem.EqNone.eq_bool_none (z1u I q (by simp))
  | bl j=>cases ry;exact eq_bool (z1u I q x9s)
  | str j=>obtain⟨t',rfl⟩:=ry;exact PySem.EqMixed.eq_bool_str (z1u I q (by simp))
  | _=>exact absurd (show false=true from hs) Bool.false_ne_true
 | int i =>
  obtain⟨t,rfl⟩:=rx
  cases y with
  | non=>cases ry;exact PySem.EqNone.eq_int_none (z1u I q (by simp))
  | int j=>obtain⟨t',rfl⟩:=ry;exact eq_int (z1u I q x6v)
  | str j=>obtain⟨t',rfl⟩:=ry;exact PySem.EqMixed.eq_int_str (z1u I q (by simp))
  | _=>exact absurd (show false=true from hs) Bool.false_ne_true
 | str i =>
  obtain⟨t,rfl⟩:=rx
  cases y with
  | non=>cases ry;exact PySem.EqNone.eq_str_none (z1u I q (by simp))
  | bl j=>cases ry;exact PySem.EqMixed.eq_str_bool (z1u I q (by simp))
  | int j=>obtain⟨t',rfl⟩:=ry;exact PySem.EqMixed.eq_str_int (z1u I q (by simp))
  | str j=>obtain⟨t',rfl⟩:=ry;exact eq_str (z1u I q x6u)
  | _=>exact absurd (show false=true from hs) Bool.false_ne_true
 | byt i =>
  obtain⟨t,rfl⟩:=rx
  cases y with
  | byt j=>obtain⟨t',rfl⟩:=ry;exact PySem.W.eq_bytes (z1u I q x6w)
  | _=>exact absurd (show false=true from hs) Bool.false_ne_true
 | _=>cases y<;>exact absurd (show false=true from hs) Bool.false_ne_true
theorem op_ne:OpR X (compareOp .NotEq) rNe:=by
 intro pins s σ H x y v u Q I rx ry h
 obtain⟨hs,q⟩:=h
 cases x with
 | non =>
  cases rx
  cases y with
  | non=>cases ry;exact PySem.EqNone.ne_none_none (z1u I q (by simp))
  | bl j=>cases ry;exact PySem.EqNone.ne_none_bool (z1u I q (by simp))
  | int j=>obtain⟨t',rfl⟩:=ry;exact PySem.EqNone.ne_none_int (z1u I q (by simp))
  | str j=>obtain⟨t',rfl⟩:=ry;exact PySem.EqNone.ne_none_str (z1u I q (by simp))
  | _=>exact absurd (show false=true from hs) Bool.false_ne_true
 | bl i =>
  cases rx
  cases y with
  | non=>cases ry;exact PySem.EqNone.ne_bool_none (z1u I q (by simp))
  | bl j=>cases ry;exact ne_bool (z1u I q (congrArg not x9s))
  | str j=>obtain⟨t',rfl⟩:=ry;exact PySem.EqMixed.ne_bool_str (z1u I q (by simp))
  | _=>exact absurd (show false=true from hs) Bool.false_ne_true
 | int i =>
  obtain⟨t,rfl⟩:=rx
  cases y with
  | non=>cases ry;exact PySem.EqNone.ne_int_none (z1u I q (by simp))
  | int j=>obtain⟨t',rfl⟩:=ry;exact ne_int (z1u I q (congrArg not x6v))
  | str j=>obtain⟨t',rfl⟩:=ry;exact PySem.EqMixed.ne_int_str (z1u I q (by simp))
  | _=>exact absurd (show false=true from hs) Bool.false_ne_true
 | str i =>
  obtain⟨t,rfl⟩:=rx
  cases y with
  | non=>cases ry;exact PySem.EqNone.ne_str_none (z1u I q (by simp))
  | bl j=>cases ry;exact PySem.EqMixed.ne_str_bool (z1u I q (by simp))
  | int j=>obtain⟨t',rfl⟩:=ry;exact PySem.EqMixed.ne_str_int (z1u I q (by simp))
  | str j=>obtain⟨t',rfl⟩:=ry;exact ne_str (z1u I q (congrArg not x6u))
  | _=>exact absurd (show false=true from hs) Bool.false_ne_true
 | byt i =>
  obtain⟨t,rfl⟩:=rx
  cases y with
  | byt j=>obtain⟨t',rfl⟩:=ry;exact PySem.W.ne_bytes (z1u I q (congrArg not x6w))
  | _=>exact absurd (show false=true from hs) Bool.false_ne_true
 | _=>cases y<;>exact absurd (show false=true from hs) Bool.false_ne_true
theorem op_lt:OpR X (compareOp .Lt) (rI0 fun i j=>.bl (decide (i<j))):=opB0 fun _ _ _ _ _ _ _ q=>lt_int q
theorem op_le:OpR X (compareOp .LtE) (rI0 fun i j=>.bl (decide (i<=j))):=opB0 fun _ _ _ _ _ _ _ q=>le_int q
theorem op_gt:OpR X (compareOp .Gt) (rI0 fun i j=>.bl (decide (j<i))):=opB0 fun _ _ _ _ _ _ _ q=>gt_int q
theorem op_ge:OpR X (compareOp .GtE) (rI0 fun i j=>.bl (decide (j<=i))):=opB0 fun _ _ _ _ _ _ _ q=>ge_int q
theorem y3w:OpR X (compareOp .Is) (fun x y H Q=>y=.non/\Q (.bl (decide (x=.non))) H):=by
 intro pins s σ H x y v u Q I rx ry h
 obtain⟨rfl,q⟩:=h
 cases ry
 refine is_none_gen (z1u I q ?_)
 cases x<;>first
  | (cases rx;rfl)
  | (obtain⟨t,rfl⟩:=rx;rfl)
theorem y2f:OpR X (compareOp .IsNot) (fun x y H Q=>y=.non/\Q (.bl (!decide (x=.non))) H):=by
 intro pins s σ H x y v u Q I rx ry h
 obtain⟨rfl,q⟩:=h
 cases ry
 refine isnot_none_gen (z1u I q ?_)
 cases x<;>first
  | (cases rx;rfl)
  | (obtain⟨t,rfl⟩:=rx;rfl)
theorem z0q (b:Expr){op:CmpOp}(h:op≠.In:=by decide) (h2:op≠.NotIn:=by decide):behindInMarks op b=false:=by
 have e1:(op==CmpOp.In)=false:=by cases op<;>first | rfl | exact absurd rfl h
 have e2:(op==CmpOp.NotIn)=false:=by cases op<;>first | rfl | exact absurd rfl h2
 cases b<;>simp[behindInMarks,e1,e2]
theorem z4m {op:CmpOp}{r:R2}(ho:OpR X (compareOp op) r)(ha:PE X a ta)(hb:PE X b tb)(hm:behindInMarks op b=false):PE X (.Compare a [op] [b] pos) (tOp r ta tb):=by
 intro pins s σ H Q I h
 exact wpAny_Compare1 (binT ha hb I h fun v u s2 x y H2 I2 rx ry q=>ho pins s2 σ H2 x y v u Q I2 rx ry q) hm
def tTest (t:TE):TT:=fun σ H Q=>t σ H fun x H'=>∃ k,x=.bl k/\Q k H'
theorem z0k {op:CmpOp}{r:R2}(ho:OpR X (compareOp op) r)(ha:PE X a ta)(hb:PE X b tb)(hm:behindInMarks op b=false):PT X (.Compare a [op] [b] pos) (tTest (tOp r ta tb)):=by
 intro pins s σ H Q I h
 refine wpAny_isTrue_Compare1 (thn (ha pins s σ H _ I h) fun v s1 ⟨x,H1,I1,r1,q1⟩=>thn (hb pins s1 σ H1 _ I1 q1) fun u s2 ⟨y,H2,I2,r2,q2⟩ =>
  thn (ho pins s2 σ H2 x y v u _ I2 r1 r2 q2) fun c s3 ⟨z,H3,I3,r3,k,e,q3⟩=>?_) hm
 subst e
 cases r3
 exact wpAny_truthy_bool ⟨H3,I3,q3⟩
def TruV (K:W.Frag)(x:V)(H:Hp)(k:Bool):Prop :=
 match x with
 | .non=>k=false
 | .bl b=>k=b
 | .int i=>k=(i != 0)
 | .str y=>y.length<=sizeLine/\k=((y.length:Int) != 0)
 | .byt y=>y.size<=sizeLine/\k=((y.size:Int) != 0)
 | .ref p=>(∃ xs,SqL K H p xs/\k=!xs.isEmpty)∨(∃ xs,SqT K H p xs/\k=!xs.isEmpty)∨∃ kvs,H p=some (.dK kvs)/\k=!kvs.isEmpty
 | _=>False
theorem x3e {κ:Type}{kvs:List (κ×V)}{vs:List (κ×Value)}(r:KV kvs vs):(!vs.isEmpty)=!kvs.isEmpty:=by
 cases r<;>rfl
theorem y4c {xs:List V}{its:List Value}(r:Vals xs its):(!its.toArray.isEmpty)=!xs.isEmpty:=by
 cases r<;>simp
theorem y2q:(sizeLine:Nat)<2 ^ 63:=by rw[sizeLine_eq];decide
theorem w1p:TruR X (fun x H Q=>∃ k,TruV X.K x H k/\Q k H):=by
 intro pins s σ H x v Q I rx h
 obtain⟨k,e,q⟩:=h
 have hl:=y2q
 have hs:sizeLine=16777216:=sizeLine_eq
 cases x with
 | non =>
  cases rx
  have e':k=false:=e
  subst e'
  exact truthy_none ⟨H,I,q⟩
 | bl b =>
  cases rx
  have e':k=b:=e
  subst e'
  exact wpAny_truthy_bool ⟨H,I,q⟩
 | int i =>
  obtain⟨t,rfl⟩:=rx
  have e':k=(i != 0):=e
  subst e'
  exact PySem.P.truthy_int ⟨H,I,q⟩
 | str y =>
  obtain⟨t,rfl⟩:=rx
  obtain⟨hy,e'⟩:y.length<=sizeLine/\k=((y.length:Int) != 0):=e
  subst e'
  exact PySem.P.truthy_str (by omega) ⟨H,I.tok _,q⟩
 | byt y =>
  obtain⟨t,rfl⟩:=rx
  obtain⟨hy,e'⟩:y.size<=sizeLine/\k=((y.size:Int) != 0):=e
  subst e'
  exact PySem.W.truthy_bytes (by omega) ⟨H,I.tok _,q⟩
 | ref p =>
  cases rx
  have e':(∃ xs,SqL X.K H p xs/\k=!xs.isEmpty)∨(∃ xs,SqT X.K H p xs/\k=!xs.isEmpty)∨∃ kvs,H p=some (.dK kvs)/\k=!kvs.isEmpty:=e
  rcases e' with ⟨xs,hx,e'⟩|⟨xs,hx,e'⟩ | ⟨kvs,hx,e'⟩
  ·subst e'
   obtain⟨its,r,pl,hz⟩:=I.list hx
   have hlen:=r.length
   exact wpAny_truthy_list pl.isList (by simp only[List.size_toArray];omega) ⟨H,I.tok _,by rw[y4c r];exact q⟩
  ·subst e'
   obtain⟨its,r,pl,hz⟩:=I.tuple hx
   have hlen:=r.length
   exact truthy_tuple pl (by simp only[List.size_toArray];omega) ⟨H,I.tok _,by rw[y4c r];exact q⟩
  ·subst e'
   obtain⟨hz,hS,vs,r,m⟩:kvs.length<=sizeLine/\(p==sysModules)=false/\∃ vs,KV kvs vs/\s.heap.DictOf (z1q X.prog X.w) p vs:=I.hok p _ hx
   have hlen:kvs.length=vs.length:=Paired.length r
   exact wpAny_truthy_dict hS m (by omega) ⟨H,I.tok _,by rw[x3e r];exact q⟩
 | _=>exact (show False from e).elim
theorem z6k (ha:PE X a ta)(he:∀ whole,isTrue a X.env whole=(do let v ←whole;standAt a.pos;holding [v] (truthy v))) :
 PT X a (fun σ H Q=>ta σ H fun x H'=>∃ k,TruV X.K x H' k/\Q k H'):=by
 intro pins s σ H Q I h
 exact isTrue_plain (thn (ha pins s σ H _ I h) fun v s1 ⟨x,H1,I1,r1,q1⟩=>w1p pins s1 σ H1 x v Q I1 r1 q1) (he _)
theorem vals1 {x:V}{us:List Value}(r:Vals [x] us):∃ u,us=[u]/\RelV x u:=by
 cases r with
 | cons r1 r2=>cases r2;exact⟨_,rfl,r1⟩
theorem vals2 {x y:V}{us:List Value}(r:Vals [x,y] us):∃ u w',us=[u,w']/\RelV x u/\RelV y w':=by
 cases r with
 | cons r1 r2 =>
  cases r2 with
  | cons r3 r4=>cases r4;exact⟨_,_,rfl,r1,r3⟩
theorem x1z:CallR X (.builtin "abs") (fun xs H Q=>∃ i,xs=[.int i]/\Q (.int (if i<0 then -i else i)) H):=by
 intro pins s σ H xs us Q I r h
 obtain⟨i,rfl,q⟩:=h
 obtain⟨u,rfl,t,rfl⟩:=vals1 r
 exact call_abs_int fun u tk=>⟨.int (if i<0 then -i else i),H,I.tok _,⟨_,rfl⟩,q⟩
theorem y8h (hc:X.calm=true):CallR X (.builtin "max") (fun xs H Q=>∃ i j,xs=[.int i,.int j]/\Q (.int (if j > i then j else i)) H):=by
 intro pins s σ H xs us Q I r h
 obtain⟨i,j,rfl,q⟩:=h
 obtain⟨u,w',rfl,⟨t,rfl⟩,⟨t',rfl⟩⟩:=vals2 r
 refine max_two_ints (I.ok.hd hc) fun h' tk k=>⟨_,H,I.kept k,?_,q⟩
 by_cases hj:j > i
 ·rw[if_pos hj,if_pos hj];exact⟨_,rfl⟩
 ·rw[if_neg hj,if_neg hj];exact⟨_,rfl⟩
theorem x7e (hc:X.calm=true):CallR X (.builtin "min") (fun xs H Q=>∃ i j,xs=[.int i,.int j]/\Q (.int (if j<i then j else i)) H):=by
 intro pins s σ H xs us Q I r h
 obtain⟨i,j,rfl,q⟩:=h
 obtain⟨u,w',rfl,⟨t,rfl⟩,⟨t',rfl⟩⟩:=vals2 r
 refine min_two_ints (I.ok.hd hc) fun h' tk k=>⟨_,H,I.kept k,?_,q⟩
 by_cases hj:j<i
 ·rw[if_pos hj,if_pos hj];exact⟨_,rfl⟩
 ·rw[if_neg hj,if_neg hj];exact⟨_,rfl⟩
end
end L2
namespace L2
open PySem PySem.Spec PyProof.Rows
structure ObjM (h:Heap)(x dx C:Addr)(mA:Str->Option Value):Prop where
 obj:h.get? x=some (PySem.W.instObj C dx)
 ns:h.Ns1 dx mA
 ne:dx≠x
theorem x5u {h:Heap}{dx:Addr}{mA:Str->Option Value}(n:h.Ns1 dx mA):∃ od,h.get? dx=some od/\∀ name,PySem.W.lookIn name od=some (mA name):=by
 obtain⟨o,es,ep,ho,hd,hk,_,hm⟩:=n
 refine⟨o,ho,fun name=>?_⟩
 have e:=hm name
 unfold nsFind findBy at e
 rw[←Array.find?_toList]at e
 unfold PySem.W.lookIn
 rw[hd]
 dsimp only
 split
 ·rename_i y q
  rw[q]at e
  exact congrArg some e
 ·rename_i q
  rw[q]at e
  have a:es.toList.any (·.refKey)=false:=by
   rw[List.any_eq_false]
   intro y hy
   obtain⟨z,t,hkey⟩:=hk y (Array.mem_toList_iff.mp hy)
   simp[DictEntry.refKey,hkey]
  have a':¬ es.toList.any (·.refKey)=true:=by rw[a];exact Bool.false_ne_true
  rw[if_neg a']
  exact congrArg some e
theorem ObjM.look {h:Heap}{x dx C:Addr}{mA:Str->Option Value}(I:ObjM h x dx C mA):∃ od,PySem.W.InstAt h x (PySem.W.instObj C dx) C (some od)/\∀ name,PySem.W.lookIn name od=some (mA name) :=
 let ⟨od,ho,hl⟩:=x5u I.ns
 ⟨od,⟨I.obj,rfl,rfl,ho⟩,hl⟩
section
variable {prog:Program}{w:World}{A:Around}{E:Value->Shared->Prop}{s:Shared}{K:W.Frag}{x dx C f:Addr}{mA:Str->Option Value}{name:Str}{v:Value}
theorem w1a {expr:Bool}{Q:Value->Shared->Prop}(X:K.In s.heap)(I:ObjM s.heap x dx C mA)(hg:PySem.W.plainGet K C name=true)(hh:PySem.W.hasDictIn K C=true)
 (ha:PySem.W.findIn K (.ref C) name=some none) (hv:mA name=some v) (hv':PySem.W.handedIn v=true) (h:Q v { s with toks:=s.toks+1 }) :
 wpAny (model prog w) A (getAttr (.ref x) name expr) Q E s:=by
 obtain⟨od,J,hl⟩:=I.look
 exact PySem.W.get_value X J (PySem.W.plainGet_of hg).1 (PySem.W.findObj_own hh ha rfl (by rw[hl,hv])) hv' h
theorem x8l {pl:Sem Bool}{Q:Value×List Value->Shared->Prop}(X:K.In s.heap)(I:ObjM s.heap x dx C mA)(hg:PySem.W.plainGet K C name=true)
 (hf:PySem.W.findIn K (.ref C) name=some (some (.ref f))) (ht:PySem.W.isFn K (.ref f)=true) (hv:mA name=none) (h:Q (.ref f,[.ref x]) s) :
 wpAny (model prog w) A (getMethod (.ref x) name pl) Q E s:=by
 obtain⟨od,J,hl⟩:=I.look
 exact PySem.W.method_fn X J (PySem.W.plainGet_of hg).1 (PySem.W.plainGet_of hg).2 hf (beq_iff_eq.mp ht) (by show (PySem.W.lookIn name od).map (·.isSome)=some false;rw[hl,hv];rfl) h
theorem w0b {ns:List Str}{Q:Unit->Shared->Prop}(X:K.In s.heap)(I:ObjM s.heap x dx C mA)
 (hs:PySem.W.findIn K (.ref C) "__setattr__" = some (some (.builtin "object.__setattr__"))) (hp:PySem.W.plainOver K C=true) (ht:PySem.W.takerIn K C name=some none) (hh:PySem.W.hasDictIn K C=true)
 (hw:PySem.Within mA ns) (hsz:ns.length<=sizeLine)
 (h:∀ h',ObjM h' x dx C (fun y=>if y=name then some v else mA y)->Heap.SameBut dx s.heap h'->Q () { s with heap:=h',toks:=s.toks+2 }) :
 wpAny (model prog w) A (setAttr (.ref x) name v) Q E s:=by
 obtain⟨od,J,hl⟩:=I.look
 refine PySem.W.set_plain X J hs (PySem.W.osa_open (s:={ s with toks:=s.toks+1 }) (r:=none) X J hp ht fun b=>?_)
 obtain⟨cd,hc,hd'⟩:=PySem.W.any_some hh
 have hx:s.heap.get? x=some ⟨.ref C,some dx,.plain,#[]⟩:=I.obj
 refine wpAny_bind (wpAny_pure (wpAny_bind (wpAny_bind (wpAny_loadPart hx (wpAny_bind (PySem.W.Looks.here (s:={ s with toks:=s.toks+1 }) (PySem.W.looks_clsIn X hc) ?_))))))
 rw[hd']
 refine wpAny_pure (a:=some dx) (wpAny_bind (wpAny_pure (wpAny_bind ?_)))
 refine wpAny_nsSet1 (s:={ s with toks:=s.toks+1 }) I.ns fun h' hn2 hs2=>?_
 obtain⟨oD,esD,epD,hoD,hdD,hcD⟩:=hn2.count (PySem.Within.cons name v hw)
 refine wpAny_bind (wpAny_lookBehind hoD (by rw[hdD];exact pastItsLine_dict (Nat.le_trans hcD (by rw[List.length_cons];omega))) ?_)
 exact wpAny_pure (h _ ⟨(hs2.2 _ (Ne.symm I.ne)).trans I.obj,hn2,I.ne⟩ hs2)
theorem x8h {R:Result->Shared->Prop}{vs:List Value}{kw:List (Str×Value)}(X:K.In s.heap)(hm:PySem.W.makesIn K C=true)
 (hi:PySem.W.findIn K (.ref C) "__init__" = some (some (.ref f))) (hf:PySem.W.typeIn K (.ref f)=some (.type "function"))
 (h:codeAny (model prog w) (A.under (.builtin "type.__call__" ⟨.ref C::vs,kw⟩)) (.call (.ref f) ⟨.ref (s.heap.objs.size+1)::vs,kw⟩) (PySem.W.InitBack (s.heap.objs.size+1) R)
  { s with heap:=(s.heap.push PySem.W.emptyDict).push (PySem.W.instObj C s.heap.objs.size) }) :
 codeAny (model prog w) A (.call (.ref C) ⟨vs,kw⟩) R s:=by
 obtain⟨hh,g,d,t,os⟩:=s
 exact PySem.W.make_core (PySem.W.makes_of X hm) (PySem.W.looks_findIn X hi) (fun self=>PySem.W.bind_fn X self hf) (.inl rfl) h
end
def putF (f:Str)(v:V):List (Str×V)->List (Str×V)
 | []=>[(f,v)]
 | (g,x)::r=>if g=f then (g,v)::r else (g,x)::putF f v r
theorem z0j (f g:Str)(v:V):∀ fs:List (Str×V),(putF f v fs).lookup g=if g=f then some v else fs.lookup g
 | []=>by
  show List.lookup g [(f,v)]=_
  by_cases h:g=f
  ·have hb:(g==f)=true:=beq_iff_eq.mpr h
   simp only[List.lookup,hb,if_pos h]
  ·have hb:(g==f)=false:=beq_eq_false_iff_ne.mpr h
   simp only[List.lookup,hb,if_neg h]
 | (k,x)::r=>by
  have ih:=z0j f g v r
  rw[show putF f v ((k,x)::r)=(if k=f then (k,v)::r else (k,x)::putF f v r) from rfl]
  by_cases hk:k=f
  ·rw[if_pos hk]
   by_cases h:g=k
   ·have hb:(g==k)=true:=beq_iff_eq.mpr h
    simp only[List.lookup,hb,if_pos (h.trans hk)]
   ·have hb:(g==k)=false:=beq_eq_false_iff_ne.mpr h
    simp only[List.lookup,hb,if_neg (fun e:g=f=>h (e.trans hk.symm))]
  ·rw[if_neg hk]
   by_cases h:g=k
   ·have hb:(g==k)=true:=beq_iff_eq.mpr h
    simp only[List.lookup,hb,if_neg (fun e:g=f=>hk (h.symm.trans e))]
   ·have hb:(g==k)=false:=beq_eq_false_iff_ne.mpr h
    simp only[List.lookup,hb]
    exact ih
theorem y2s (f:Str)(v:V):∀ fs:List (Str×V),f∈(putF f v fs).map (·.1)/\∀ g,g∈fs.map (·.1)->g∈(putF f v fs).map (·.1)
 | []=>⟨by simp[putF],fun g h=>by simp at h⟩
 | (k,x)::r=>by
  obtain⟨i1,i2⟩:=y2s f v r
  rw[show putF f v ((k,x)::r)=(if k=f then (k,v)::r else (k,x)::putF f v r) from rfl]
  by_cases hk:k=f
  ·rw[if_pos hk]
   subst hk
   exact⟨by simp,fun g h=>by simpa using h⟩
  ·rw[if_neg hk]
   refine⟨?_,fun g h=>?_⟩
   ·rw[List.map_cons]
    exact List.mem_cons_of_mem _ i1
   ·rw[List.map_cons]at h ⊢
    rcases List.mem_cons.mp h with e|e
    ·exact List.mem_cons.mpr (.inl e)
    ·exact List.mem_cons_of_mem _ (i2 g e)
theorem z9g (f:Str)(v:V):∀ fs:List (Str×V),(putF f v fs).length<=fs.length+1
 | []=>by simp[putF]
 | (k,x)::r=>by
  have ih:=z9g f v r
  rw[show putF f v ((k,x)::r)=(if k=f then (k,v)::r else (k,x)::putF f v r) from rfl]
  by_cases hk:k=f
  ·rw[if_pos hk,List.length_cons,List.length_cons];omega
  ·rw[if_neg hk,List.length_cons,List.length_cons];omega
theorem RelO.some_of {v:V}{o:Option Value}(r:RelO (some v) o):∃ u,o=some u/\RelV v u:=by
 cases o with
 | none=>exact (show False from r).elim
 | some u=>exact⟨u,rfl,r⟩
theorem RelO.none_of {o:Option Value}(r:RelO none o):o=none:=by
 cases o with
 | none=>rfl
 | some u=>exact (show False from r).elim
theorem x6i {v:V}{u:Value}(r:RelV v u):PySem.W.handedIn u=true:=by
 cases v with
 | non=>cases (show u=Value.none from r);rfl
 | bl b=>cases (show u=Value.bool b from r);rfl
 | int i=>obtain⟨t,e⟩:=(show ∃ t,u=Value.int i t from r);cases e;rfl
 | str x=>obtain⟨t,e⟩:=(show ∃ t,u=Value.str x t from r);cases e;rfl
 | byt b=>obtain⟨t,e⟩:=(show ∃ t,u=Value.bytes b t from r);cases e;rfl
 | flt b=>obtain⟨t,e⟩:=(show ∃ t,u=Value.float b t from r);cases e;rfl
 | ref a=>cases (show u=Value.ref a from r);rfl
 | ty n=>cases (show u=Value.type n from r);rfl
section
variable {P:Program}{w:World}{H H':Hp}{h h':Heap}{a C dx:Addr}{fs fs':List (Str×V)}
theorem y9v (hok:HOk P w H h)(e:H a=some (.ins C dx fs)):∃ mA,ObjM h a dx C mA/\(∀ f,RelO (fs.lookup f) (mA f))/\PySem.Within mA (fs.map (·.1))/\fs.length<=1000/\H dx=some (.own a):=by
 obtain⟨d,z,ne,ob,mA,n,r,q⟩:=(show ObjOk P w H h a (.ins C dx fs) from hok a _ e)
 exact⟨mA,⟨ob,n,ne⟩,r,q,z,d⟩
end
structure Cls (K:W.Frag)(C:Addr):Prop where
 pg:PySem.W.plainGet K C Str.empty=true
 hd:PySem.W.hasDictIn K C=true
 po:PySem.W.plainOver K C=true
 sa:PySem.W.findIn K (.ref C) "__setattr__" = some (some (.builtin "object.__setattr__"))
theorem Cls.get {K:W.Frag}{C:Addr}(c:Cls K C)(f:Str):PySem.W.plainGet K C f=true:=c.pg
def NoAttr (K:W.Frag)(C:Addr)(f:Str):Prop:=PySem.W.findIn K (.ref C) f=some none
theorem NoAttr.taker {K:W.Frag}{C:Addr}{f:Str}(n:NoAttr K C f):PySem.W.takerIn K C f=some none:=by
 unfold PySem.W.takerIn
 rw[show PySem.W.findIn K (.ref C) f=some none from n]
 rfl
structure Con (K:W.Frag)(C:Addr)(f:Str)(v:V)(u:Value):Prop where
 at_:PySem.W.findIn K (.ref C) f=some (some u)
 rel:RelV v u
 get:PySem.W.specialIn K u "__get__" = some none
 cp:PySem.W.copiedNames.contains f=false
structure Meth (K:W.Frag)(C:Addr)(m:Str)(f:Addr):Prop where
 at_:PySem.W.findIn K (.ref C) m=some (some (.ref f))
 fn:PySem.W.isFn K (.ref f)=true
 kp:PySem.W.keepIn K (.ref f)=true
section
variable {X:Cx}{pins:List (Addr×Obj)}{σ:St}{H:Hp}{s:Shared}{a C dx:Addr}{fs:List (Str×V)}{f:Str}{v:V}{A:Around}{E:Value->Shared->Prop}
theorem x3g {b:Bool}{Q:Value->Shared->Prop}(I:Inv X pins σ H s)(e:H a=some (.ins C dx fs))(c:Cls X.K C)(n:NoAttr X.K C f)(l:fs.lookup f=some v)
 (h:∀ u s',Inv X pins σ H s'->RelV v u->Q u s'):wpAny (model X.prog X.w) A (getAttr (.ref a) f b) Q E s:=by
 obtain⟨mA,O,r,_,_,_⟩:=y9v I.hok e
 obtain⟨u,hu,ru⟩:=RelO.some_of (v:=v) (o:=mA f) (by rw[←l];exact r f)
 exact w1a I.kIn O (c.get f) c.hd n hu (x6i ru) (h u _ (I.tok _) ru)
theorem y4d {m:Str}{g:Addr}{pl:Sem Bool}{Q:Value×List Value->Shared->Prop}(I:Inv X pins σ H s)(e:H a=some (.ins C dx fs))(c:Cls X.K C)(k:Meth X.K C m g)(l:fs.lookup m=none)
 (h:Q (.ref g,[.ref a]) s):wpAny (model X.prog X.w) A (getMethod (.ref a) m pl) Q E s:=by
 obtain⟨mA,O,r,_,_,_⟩:=y9v I.hok e
 have hn:mA m=none:=RelO.none_of (by rw[←l];exact r m)
 exact x8l I.kIn O (c.get m) k.at_ k.fn hn h
theorem x2i {y:V}{u:Value}{Q:Unit->Shared->Prop}(I:Inv X pins σ H s)(e:H a=some (.ins C dx fs))(c:Cls X.K C)(n:NoAttr X.K C f)(hl:fs.length<1000)(ry:RelV y u)
 (h:∀ s',Inv X pins σ (upd H a (.ins C dx (putF f y fs))) s'->Q () s'):wpAny (model X.prog X.w) A (setAttr (.ref a) f u) Q E s:=by
 obtain⟨mA,O,r,wi,_,ho⟩:=y9v I.hok e
 have hz:(fs.map (·.1)).length<=sizeLine:=by rw[List.length_map,sizeLine_eq];omega
 refine w0b I.kIn O c.sa c.po n.taker c.hd wi hz fun h' O' sb=>h _ ?_
 have hd:∃ o,h'.get? dx=some o:=let ⟨o,_,_,e',_⟩:=O'.ns;⟨o,e'⟩
 refine I.write (x:=a) (e:=dx) (by rw[e];exact True.intro) (.inr ho) (fun b q hb z=>(sb.2 b hb).trans z) hd ?_
 refine⟨by rw[z0h O.ne];exact ho,?_,O.ne,O'.obj,_,O'.ns,fun g=>?_,fun g hg=>?_⟩
 ·have:=z9g f y fs;omega
 ·show RelO ((putF f y fs).lookup g) (if g=f then some u else mA g)
  rw[z0j]
  by_cases q:g=f
  ·rw[if_pos q,if_pos q];exact ry
  ·rw[if_neg q,if_neg q];exact r g
 ·by_cases q:g=f
  ·rw[q];exact (y2s f y fs).1
  ·refine (y2s f y fs).2 g (wi g fun z=>hg ?_)
   show (if g=f then some u else mA g)=none
   rw[if_neg q];exact z
theorem Inv.made (I:Inv X pins σ H s):Inv X pins σ (upd (upd H s.heap.objs.size (.own (s.heap.objs.size+1))) (s.heap.objs.size+1) (.ins C s.heap.objs.size []))
 { s with heap:=(s.heap.push PySem.W.emptyDict).push (PySem.W.instObj C s.heap.objs.size) }:=by
 have e1:(s.heap.push PySem.W.emptyDict).get? s.heap.objs.size=some PySem.W.emptyDict:=Heap.get?_push_size s.heap rfl
 have e2:((s.heap.push PySem.W.emptyDict).push (PySem.W.instObj C s.heap.objs.size)).get? (s.heap.objs.size+1)=some (PySem.W.instObj C s.heap.objs.size):=by
  have:=Heap.get?_push_size (s.heap.push PySem.W.emptyDict) (o:=PySem.W.instObj C s.heap.objs.size) rfl
  rwa [Heap.size_push]at this
 have e3:(s.heap.push PySem.W.emptyDict).Ns s.heap.objs.size (fun _=>none):=⟨PySem.W.emptyDict,#[],_,e1,rfl,(fun e he=>absurd he (by simp)),fun _=>rfl⟩
 have I1:=I.laid (a:=s.heap.objs.size) (o:=.own (s.heap.objs.size+1)) (h':=s.heap.push PySem.W.emptyDict) (t':=s.toks) (fun b u q=>Heap.get?_push_of_some _ q) (Nat.le_refl _) ⟨_,e1⟩
 refine I1.laid (a:=s.heap.objs.size+1) (o:=.ins C s.heap.objs.size []) (t':=s.toks) (fun b u q=>Heap.get?_push_of_some _ q) (Nat.le_of_eq (Heap.size_push _ _)) ?_
 have ne:s.heap.objs.size≠s.heap.objs.size+1:=Nat.ne_of_lt (Nat.lt_succ_self _)
 refine⟨by rw[z0h ne,z0c],Nat.zero_le _,ne,e2,fun _=>none,(Heap.Ns1.of_empty e3).at fun o q=>Heap.get?_push_of_some _ q,fun _=>True.intro,fun y hy=>absurd rfl hy⟩
theorem w1i {prog:Program}{w:World}{env:Env}{e:Expr}{f:Str}{pos:Pos}{s:Shared}{Q:Value->Shared->Prop}(hb:attributeBase e f env (eval e env)=eval e env)
 (h:wpAny (model prog w) A (eval e env) (fun o s₁=>wpAny (model prog w) A (getAttr o f true) Q E s₁) E s):wpAny (model prog w) A (eval (.Attribute e f pos) env) Q E s :=
 Attribute_any_ h (by rw[arm_eval_Attribute,hb])
end
def tFld (K:W.Frag)(ta:TE)(f:Str):TE:=fun σ H Q=>ta σ H fun x H1=>∃ a C dx fs v,x=.ref a/\H1 a=some (.ins C dx fs)/\Cls K C/\NoAttr K C f/\fs.lookup f=some v/\Q v H1
def sFld (K:W.Frag)(ta tv:TE)(f:Str):TS:=fun D σ H=>tv σ H fun y H1=>ta σ H1 fun x H2=>∃ a C dx fs,x=.ref a/\H2 a=some (.ins C dx fs)/\Cls K C/\NoAttr K C f/\fs.length<1000 /\
 D.nx σ (upd H2 a (.ins C dx (putF f y fs)))
section
variable {X:Cx}{o e value:Expr}{f:Str}{pos pos' tpos:Pos}{ta tv:TE}
theorem z1n (he:PE X e ta)(hb:attributeBase e f X.env (eval e X.env)=eval e X.env):PE X (.Attribute e f pos) (tFld X.K ta f):=by
 intro pins s σ H Q I h
 refine w1i hb (thn (he pins s σ H _ I h) fun u s1 ⟨x,H1,I1,rx,a,C,dx,fs,v,ex,ea,c,n,l,q⟩=>?_)
 subst ex
 obtain rfl:u=Value.ref a:=rx
 exact x3g I1 ea c n l fun u' s2 I2 ru=>⟨v,H1,I2,ru,q⟩
theorem y0u (ha:PE X o ta)(hv:PE X value tv)(hs:swapsWith value (some (.Attribute o f pos')) pos.line X.env=pure false):PS X (.Assign [.Attribute o f pos'] value pos) (sFld X.K ta tv f):=by
 intro pins s σ H D I h
 refine plainObj_wpAny_Assign_Attribute (thn (hv pins s σ H _ I h) fun u s1 ⟨y,H1,I1,ry,q⟩=>thn (ha pins s1 σ H1 _ I1 q) fun ov s2 ⟨x,H2,I2,rx,a,C,dx,fs,ex,ea,c,n,l,q2⟩=>?_) hs
 subst ex
 obtain rfl:ov=Value.ref a:=rx
 exact x2i I2 ea c n l ry fun s3 I3=>⟨σ,_,I3,q2⟩
end
section
variable {X:Cx}{pins:List (Addr×Obj)}{σ:St}{H:Hp}{s:Shared}{A:Around}{E:Value->Shared->Prop}{Q:Value->Shared->Prop}{c:Value}{b:Bool}
inductive TyOf (K:W.Frag)(H:Hp):V->Value->Prop where
 | non:TyOf K H .non (.type "NoneType")
 | bl (x:Bool):TyOf K H (.bl x) (.type "bool")
 | int (i:Int):TyOf K H (.int i) (.type "int")
 | str (x:Str):TyOf K H (.str x) (.type "str")
 | flt (x:UInt64):TyOf K H (.flt x) (.type "float")
 | lst {a:Addr} {xs:List V} (e:H a=some (.lst xs)):TyOf K H (.ref a) (.type "list")
 | frz {a:Addr} {o:Obj} {xs:List V} (e:H a=some (.frz o (.lst xs))):TyOf K H (.ref a) (.type "list")
 | tup {a:Addr} {xs:List V} (e:H a=some (.tup xs)):TyOf K H (.ref a) (.type "tuple")
 | dK {a:Addr} {kvs:List (Key×V)} (e:H a=some (.dK kvs)):TyOf K H (.ref a) (.type "dict")
 | dT {a:Addr} {kvs:List (List Key×V)} (e:H a=some (.dT kvs)):TyOf K H (.ref a) (.type "dict")
 | ins {a C dx:Addr} {fs:List (Str×V)} (e:H a=some (.ins C dx fs)) (cl:Cls K C) (ha:PySem.W.findIn K (.ref C) "__class__" = some (some (.builtin "object.__class__")))
  (hn:PySem.W.specialIn K (.builtin "object.__class__") "__get__" = some (some (.builtin "getset_descriptor.__get__"))) (htk:PySem.W.takesIn K (.builtin "object.__class__")=some true)
  (hm:PySem.W.mroIn K C (.type "object")=some true):TyOf K H (.ref a) (.ref C)
end
end L2
namespace L2
open PySem PySem.Spec PyProof.Rows
structure Room (k:Nat)(A:Around):Prop where
 hd:A.handled=none
 dp:A.depth+3*k+5<recursionLimit
 un:A.units+16*k+200<cLine
theorem Room.mono {j k:Nat}{A:Around}(r:Room k A)(h:j<=k):Room j A:=⟨r.hd,by have:=r.dp;omega,by have:=r.un;omega⟩
theorem Room.deeper {k:Nat}{A:Around}(r:Room (k+1) A)(env:Env):Room k (A.deeper env) :=
 ⟨r.hd,by have:=r.dp;show A.depth+1+3*k+5<_;omega,by have:=r.un;show A.units+3+16*k+200<_;omega⟩
theorem Room.in1 {k:Nat}{A:Around}(r:Room (k+1) A):Room k A.in1 :=
 ⟨r.hd,by have:=r.dp;show A.depth+3*k+5<_;omega,by have:=r.un;show A.units+1+16*k+200<_;omega⟩
theorem x3c {A:Around}{C:Addr}{us:List Value}{kw:List (Str×Value)}:(A.under (.builtin "type.__call__" ⟨.ref C::us,kw⟩)).depth=A.depth+1:=by
 first | rfl | simp[Around.under,Code.weight,Code.isCreation,Code.isGuard,Code.isCaller,Code.frames,Code.isFrame,guardIds]
theorem x3b {A:Around}{C:Addr}{us:List Value}{kw:List (Str×Value)}:(A.under (.builtin "type.__call__" ⟨.ref C::us,kw⟩)).units=A.units+1:=by
 first | rfl | simp[Around.under,Code.cUnits,Code.frames,Code.isFrame]
theorem Room.make {k:Nat}{A:Around}(r:Room (k+1) A)(C:Addr)(us:List Value)(kw:List (Str×Value)):Room k (A.under (.builtin "type.__call__" ⟨.ref C::us,kw⟩)) :=
 ⟨r.hd,by have:=r.dp;rw[x3c];omega,by have:=r.un;rw[x3b];omega⟩
theorem Room.depth {k:Nat}{A:Around}(r:Room k A):A.depth<recursionLimit:=by have:=r.dp;omega
theorem Room.units {k:Nat}{A:Around}(r:Room k A):A.units+64<cLine:=by have:=r.un;omega
theorem Room.units0 {k:Nat}{A:Around}(r:Room k A):A.units<cLine:=by have:=r.un;omega
def tNil:TA:=fun _ H Q=>Q [] H
def tCons (ta:TE)(tr:TA):TA:=fun σ H Q=>ta σ H fun x H1=>tr σ H1 fun xs H2=>Q (x::xs) H2
section
variable {X:Cx}{e:Expr}{es:List Expr}{te:TE}{t:TA}{pos:Pos}
theorem z0d:PA X [] tNil:=fun _ _ _ _ H Q I h=>Calls.spliced_nil ⟨[],H,I,.nil,h⟩
theorem z0a (ha:PE X e te)(hr:PA X es t)(hs:starEach (e::es) X.env=(false,eval e X.env)::starEach es X.env:=by rfl):PA X (e::es) (tCons te t):=by
 intro pos pins s σ H Q I h
 rw[hs]
 show wpAny _ _ (spliced ((false,eval e X.env)::backTo pos (starEach es X.env))) _ _ s
 refine Calls.spliced_cons (thn (ha pins s σ H _ I h) fun u s1 ⟨x,H1,I1,r1,q1⟩=>?_)
 exact thn (hr pos pins s1 σ H1 _ I1 q1) fun us s2 ⟨xs,H2,I2,r2,q2⟩=>⟨x::xs,H2,I2,.cons r1 r2,q2⟩
def tTup (t:TA):TE:=fun σ H Q=>t σ H fun xs H1=>xs.length<=sizeLine/\∀ p,H1 p=none->Q (.ref p) (upd H1 p (.tup xs))
def tLst (t:TA):TE:=fun σ H Q=>t σ H fun xs H1=>xs.length<=sizeLine/\∀ p,H1 p=none->Q (.ref p) (upd H1 p (.lst xs))
theorem z5c {x1}(h:PA X es t):PE X (.Tuple es x1 pos) (tTup t):=by
 intro pins s σ H Q I hq
 refine wpAny_Tuple_spliced (thn (h pos pins s σ H _ I hq) fun us s1 ⟨xs,H1,I1,r,z,q⟩=>⟨by rw[←r.length];exact z,?_⟩)
 have hf:H1 s1.heap.objs.size=none:=I1.hok.fresh (Nat.le_refl _)
 refine⟨.ref s1.heap.objs.size,upd H1 s1.heap.objs.size (.tup xs),I1.laid (t':=s1.toks) (fun b u e=>Heap.get?_push_of_some _ e) (Nat.le_refl _) ?_,rfl,q _ hf⟩
 exact⟨z,us,r,⟨_,Heap.get?_push_size _ rfl,rfl,_,rfl⟩⟩
theorem z1g (h:PA X es t):PE X (.List es pos) (tLst t):=by
 intro pins s σ H Q I hq
 refine wpAny_List_spliced (thn (h pos pins s σ H _ I hq) fun us s1 ⟨xs,H1,I1,r,z,q⟩=>⟨by rw[←r.length];exact z,?_⟩)
 have hf:H1 s1.heap.objs.size=none:=I1.hok.fresh (Nat.le_refl _)
 refine⟨.ref s1.heap.objs.size,upd H1 s1.heap.objs.size (.lst xs),I1.laid (t':=s1.toks) (fun b u e=>Heap.get?_push_of_some _ e) (Nat.le_refl _) ?_,rfl,q _ hf⟩
 exact⟨z,us,0,r,Heap.get?_push_size _ rfl⟩
end
abbrev Sp:=List V->Hp->VK->XK->Prop
abbrev CXT:=List Env->Hp->Shared->XK->Value->Shared->Prop
structure Env0 (P:Program)(w:World)(K:W.Frag)(mg:Str->Option Value)(base:Heap)(A:Around)(outer:List Env)(s:Shared)(H:Hp):Prop where
 frames:A.frames=some outer
 mod:Mod K mg base
 bs:∀ b o,base.get? b=some o->s.heap.get? b=some o/\H b=none
 bsz:base.objs.size<=s.heap.objs.size
 funs:s.heap.FunFrames base outer
 frf:∀ b∈frs outer,H b=none
 hok:HOk P w H s.heap
 bare:AllBare s.gens
def CE (outer:List Env)(P:Program)(w:World)(H:Hp)(s:Shared)(Q:VK)(u:Value)(s':Shared):Prop :=
 ∃ v H',s'.os=s.os/\AllBare s'.gens/\Un (frs outer) [] H H' s.heap s'.heap/\HOk P w H' s'.heap/\RelV v u/\Q v H'
def CR (CX:CXT)(outer:List Env)(P:Program)(w:World)(H:Hp)(s:Shared)(Q:VK)(E:XK)(r:Result)(s':Shared):Prop :=
 match r with
 | .ok (.ret u)=>CE outer P w H s Q u s'
 | .ok _=>False
 | .error e=>CX outer H s E e s'
structure FnOk (P:Program)(w:World)(K:W.Frag)(mg:Str->Option Value)(base:Heap)(CX:CXT)(k:Nat)(f:Addr)(fd:FuncData)(ps:List Str)(sp:Sp):Prop where
 len:∀ vs H Q E,sp vs H Q E->vs.length=ps.length
 run:∀ (A:Around) (outer:List Env) (s:Shared) (H:Hp) (args:Args) (us:List Value) (vs:List V) (Q:VK) (E:XK),Room k A->Env0 P w K mg base A outer s H->BindsTo s fd args (ps.zip us)->Vals vs us->sp vs H Q E ->
  codeAny (model P w) A (.call (.ref f) args) (CR CX outer P w H s Q E) s
theorem FnOk.mono {P:Program}{w:World}{K:W.Frag}{mg:Str->Option Value}{base:Heap}{CX:CXT}{j k:Nat}{f:Addr}{fd:FuncData}{ps:List Str}{sp:Sp}(F:FnOk P w K mg base CX j f fd ps sp)(h:j<=k) :
 FnOk P w K mg base CX k f fd ps sp:=⟨F.len,fun A outer s H args us vs Q E hr=>F.run A outer s H args us vs Q E (hr.mono h)⟩
theorem FnOk.imp {P:Program}{w:World}{K:W.Frag}{mg:Str->Option Value}{base:Heap}{CX:CXT}{k:Nat}{f:Addr}{fd:FuncData}{ps:List Str}{sp sp':Sp}(F:FnOk P w K mg base CX k f fd ps sp)
 (h:∀ vs H Q E,sp' vs H Q E->sp vs H Q E):FnOk P w K mg base CX k f fd ps sp' :=
 ⟨fun vs H Q E q=>F.len vs H Q E (h _ _ _ _ q),fun A outer s H args us vs Q E hr he hb hv hs=>F.run A outer s H args us vs Q E hr he hb hv (h _ _ _ _ hs)⟩
theorem Env0.make {P:Program}{w:World}{K:W.Frag}{mg:Str->Option Value}{base:Heap}{A:Around}{outer:List Env}{s:Shared}{H:Hp}(e:Env0 P w K mg base A outer s H)(C:Addr)(us:List Value)(kw:List (Str×Value)) :
 Env0 P w K mg base (A.under (.builtin "type.__call__" ⟨.ref C::us,kw⟩)) outer s H:=⟨by first | exact e.frames | (simpa[Around.under,Code.envs,Code.isFrame,pushEnvs] using e.frames),e.mod,e.bs,e.bsz,e.funs,e.frf,e.hok,e.bare⟩
theorem Env0.in1 {P:Program}{w:World}{K:W.Frag}{mg:Str->Option Value}{base:Heap}{A:Around}{outer:List Env}{s:Shared}{H:Hp}(e:Env0 P w K mg base A outer s H) :
 Env0 P w K mg base A.in1 outer s H:=⟨e.frames,e.mod,e.bs,e.bsz,e.funs,e.frf,e.hok,e.bare⟩
section
variable {X:Cx}{pins:List (Addr×Obj)}{σ:St}{H:Hp}{s s':Shared}
theorem Inv.env0 (I:Inv X pins σ H s):Env0 X.prog X.w X.K X.mg X.base X.A X.stack s H :=
 ⟨I.ok.frames,I.ok.mod,I.bs,Nat.le_trans I.ok.bsz I.sz,I.stack,I.stkFree,I.hok,I.bare⟩
theorem Inv.after {Q:VK}{u:Value}(I:Inv X pins σ H s)(h:CE X.stack X.prog X.w H s Q u s'):EP X pins σ Q u s':=by
 obtain⟨v,H',os,bare,un,hok,r,q⟩:=h
 obtain⟨hh,g,d,t,os'⟩:=s'
 obtain rfl:os'=s.os:=os
 exact⟨v,H',I.call (h':=hh) (g':=g) (d':=d) (t':=t) (ch:=[]) un hok bare (fun b z=>absurd z (by simp)),r,q⟩
end
def tCall (sp:Sp)(dvs:List V)(E:XK)(t:TA):TE:=fun σ H Q=>t σ H fun vs H1=>sp (vs++dvs) H1 Q E
def tMeth (C:Addr)(m:Str)(sp:Sp)(dvs:List V)(E:XK)(ta:TE)(t:TA):TE:=fun σ H Q=>ta σ H fun x H1=>∃ a dx fs,x=.ref a/\H1 a=some (.ins C dx fs)/\fs.lookup m=none /\
 t σ H1 fun vs H2=>sp (x::(vs++dvs)) H2 Q E
def tMake (C:Addr)(sp:Sp)(dvs:List V)(E:XK)(t:TA):TE:=fun σ H Q=>t σ H fun vs H1=>∀ x dx,H1 x=none->H1 dx=none->dx≠x ->
 sp (.ref x::(vs++dvs)) (upd (upd H1 dx (.own x)) x (.ins C dx [])) (fun v H2=>v=.non/\Q (.ref x) H2) E
def Binds (K:W.Frag)(fd:FuncData)(ps:List Str)(ds:List Value):Prop :=
 ∀ (s:Shared) (us:List Value),K.In s.heap->(us++ds).length=ps.length->BindsTo s fd ⟨us,[]⟩ (ps.zip (us++ds))
theorem Binds.all {K:W.Frag}{fd:FuncData}{ps:List Str}(h:∀ us:List Value,us.length=ps.length->bindArgs fd ⟨us,[]⟩=pure (ps.zip us)):Binds K fd ps []:=fun s us _ hl=>by
 rw[List.append_nil]at hl ⊢
 exact .of_eq (h us hl)
def y3m (CX:CXT)(X:Cx)(E:XK):Prop:=∀ (pins:List (Addr×Obj)) (σ:St) (H:Hp) (s:Shared) (e:Value) (s':Shared),Inv X pins σ H s->CX X.stack H s E e s'->X.xe e s'
section
variable {X:Cx}{CX:CXT}{k:Nat}{f C:Addr}{fd:FuncData}{ps:List Str}{sp:Sp}{dvs:List V}{ds:List Value}{E:XK}{x m:Str}{p pos apos:Pos}{e o:Expr}{es:List Expr}{ta:TE}{t:TA}
theorem x4f {pins:List (Addr×Obj)}{σ:St}{H:Hp}{s:Shared}{Q:VK}{us:List Value}{vs:List V}(F:FnOk X.prog X.w X.K X.mg X.base CX k f fd ps sp)(hr:Room k X.A)(hb:Binds X.K fd ps ds)(hd:Vals dvs ds)(hx:y3m CX X E)
 (I:Inv X pins σ H s) (r:Vals vs us) (h:sp (vs++dvs) H Q E):wpAny (model X.prog X.w) X.A (call (.ref f) us) (EP X pins σ Q) X.xe s:=by
 have r2:Vals (vs++dvs) (us++ds):=r.append hd
 have hl:(us++ds).length=ps.length:=by rw[←r2.length];exact F.len _ _ _ _ h
 refine wpAny_call (codeAny_mono (F.run X.A X.stack s H ⟨us,[]⟩ (us++ds) (vs++dvs) Q E hr I.env0 (hb s us I.kIn hl) r2 h) fun r s' hq=>?_)
 cases r with
 | error e=>exact hx pins σ H s e s' I hq
 | ok fl =>
  cases fl with
  | ret u=>exact I.after hq
  | next=>exact False.elim hq
  | brk=>exact False.elim hq
  | cont=>exact False.elim hq
theorem w0l (F:FnOk X.prog X.w X.K X.mg X.base CX k f fd ps sp)(hr:Room k X.A)(hg:Gl X x)(hm:X.mg x=some (.ref f))(hk:PySem.W.keepIn X.K (.ref f)=true)(hb:Binds X.K fd ps ds)(hd:Vals dvs ds)(hx:y3m CX X E)
 (ha:PA X (e::es) t) (hdb:(x==("__debug__" : Str))=false:=by decide) (he:starEach (e::es) X.env=(false,eval e X.env)::starEach es X.env:=by rfl) (hpl:(backTo pos (starEach es X.env)).any (·.1)=false:=by rfl) :
 PE X (.Call (.Name x p) (e::es) [] pos) (tCall sp dvs E t):=by
 intro pins s σ H Q I h
 refine wpAny_Call_Name_kw (y2r I hg hm ?_ hdb)
 refine PySem.W.callWith_K (h₀:=X.base) I.ok.mod.kin hk (thn (ha pos pins s σ H _ I h) fun us s1 ⟨vs,H1,I1,r,q⟩=>⟨I1.kIn,?_⟩) he hpl
 exact x4f F hr hb hd hx I1 r q
theorem w0i {pl:Sem Bool}(he:PE X o ta)(c:Cls X.K C)(hm:Meth X.K C m f)(F:FnOk X.prog X.w X.K X.mg X.base CX k f fd ps sp)(hr:Room k X.A)(hb:Binds X.K fd ps ds)(hd:Vals dvs ds)(hx:y3m CX X E)(ha:PA X (e::es) t)
 (hst:starEach (e::es) X.env=(false,eval e X.env)::starEach es X.env:=by rfl) (hpl:(backTo pos (starEach es X.env)).any (·.1)=false:=by rfl)
 (ht:eval (.Call (.Attribute o m apos) (e::es) [] pos) X.env=(do
  let ov ←eval o X.env
  standAt apos.atName
  let (f,first) ←holding [ov] (getMethod ov m pl)
  callWith pos f first (backTo pos (starEach (e::es) X.env)) (backToKw pos (keywordEach [] X.env))):=by rfl) :
 PE X (.Call (.Attribute o m apos) (e::es) [] pos) (tMeth C m sp dvs E ta t):=by
 intro pins s σ H Q I h
 refine PySem.W.methodCall_KW (pl:=pl) (thn (he pins s σ H _ I h) fun u s1 ⟨x,H1,I1,rx,a,dx,fs,ex,ea,l,q⟩=>?_) ht
 subst ex
 obtain rfl:u=Value.ref a:=rx
 refine y4d I1 ea c hm l ?_
 refine PySem.W.callWith_K (first:=[.ref a]) (h₀:=X.base) I.ok.mod.kin hm.kp (thn (ha pos pins s1 σ H1 _ I1 q) fun us s2 ⟨vs,H2,I2,r,q2⟩=>⟨I2.kIn,?_⟩) hst hpl
 exact x4f (us:=.ref a::us) (vs:=.ref a::vs) F hr hb hd hx I2 (.cons rfl r) q2
theorem x7s {pl:Sem Bool}(he:PE X o ta)(c:Cls X.K C)(hm:Meth X.K C m f)(F:FnOk X.prog X.w X.K X.mg X.base CX k f fd ps sp)(hr:Room k X.A)(hb:Binds X.K fd ps ds)(hd:Vals dvs ds)(hx:y3m CX X E)
 (ht:eval (.Call (.Attribute o m apos) [] [] pos) X.env=(do
  let ov ←eval o X.env
  standAt apos.atName
  let (f,first) ←holding [ov] (getMethod ov m pl)
  callWith pos f first (backTo pos (starEach [] X.env)) (backToKw pos (keywordEach [] X.env))):=by rfl) :
 PE X (.Call (.Attribute o m apos) [] [] pos) (tMeth C m sp dvs E ta tNil):=by
 intro pins s σ H Q I h
 refine PySem.W.methodCall_KW (pl:=pl) (thn (he pins s σ H _ I h) fun u s1 ⟨x,H1,I1,rx,a,dx,fs,ex,ea,l,q⟩=>?_) ht
 subst ex
 obtain rfl:u=Value.ref a:=rx
 refine y4d I1 ea c hm l ?_
 exact PySem.W.callWith_K0 (first:=[.ref a]) I1.kIn hm.kp (x4f (us:=[.ref a]) (vs:=[.ref a]) F hr hb hd hx I1 (.cons rfl .nil) q)
structure Mk (K:W.Frag)(C f:Addr):Prop where
 makes:PySem.W.makesIn K C=true
 init:PySem.W.findIn K (.ref C) "__init__" = some (some (.ref f))
 fn:PySem.W.isFn K (.ref f)=true
 kp:PySem.W.keepIn K (.ref C)=true
theorem x7o {pins:List (Addr×Obj)}{σ:St}{H:Hp}{s:Shared}{Q:VK}{us:List Value}{vs:List V}(M:Mk X.K C f)(F:FnOk X.prog X.w X.K X.mg X.base CX k f fd ps sp)(hr:Room (k+1) X.A)(hb:Binds X.K fd ps ds)(hd:Vals dvs ds)
 (hx:y3m CX X E) (I:Inv X pins σ H s) (r:Vals vs us)
 (h:∀ x dx,H x=none->H dx=none->dx≠x->sp (.ref x::(vs++dvs)) (upd (upd H dx (.own x)) x (.ins C dx [])) (fun v H2=>v=.non/\Q (.ref x) H2) E) :
 wpAny (model X.prog X.w) X.A (call (.ref C) us) (EP X pins σ Q) X.xe s:=by
 have hq:=h (s.heap.objs.size+1) s.heap.objs.size (I.hok.fresh (Nat.le_succ _)) (I.hok.fresh (Nat.le_refl _)) (Nat.ne_of_lt (Nat.lt_succ_self _))
 have I2:=Inv.made (C:=C) I
 have r2:Vals (V.ref (s.heap.objs.size+1)::(vs++dvs)) (Value.ref (s.heap.objs.size+1)::(us++ds)):=.cons rfl (r.append hd)
 have hl:(Value.ref (s.heap.objs.size+1)::us++ds).length=ps.length:=by
  have e:=r2.length
  rw[F.len _ _ _ _ hq]at e
  exact e.symm
 refine wpAny_call (x8h (f:=f) I.kIn M.makes M.init (beq_iff_eq.mp M.fn) (codeAny_mono (F.run _ X.stack _ _ ⟨Value.ref (s.heap.objs.size+1)::us,[]⟩ (Value.ref (s.heap.objs.size+1)::(us++ds)) _ _ E (hr.make C us [])
  (I2.env0.make C us []) (hb _ (Value.ref (s.heap.objs.size+1)::us) I2.kIn hl) r2 hq) fun r s' hq'=>?_))
 cases r with
 | error e=>exact hx pins σ _ _ e s' I2 hq'
 | ok fl =>
  cases fl with
  | ret u =>
   obtain⟨v,H',I3,rv,ev,q3⟩:=I2.after hq'
   subst ev
   exact⟨rv,⟨V.ref (s.heap.objs.size+1),H',I3,rfl,q3⟩⟩
  | next=>exact False.elim hq'
  | brk=>exact False.elim hq'
  | cont=>exact False.elim hq'
theorem w0j (M:Mk X.K C f)(F:FnOk X.prog X.w X.K X.mg X.base CX k f fd ps sp)(hr:Room (k+1) X.A)(hg:Gl X x)(hm:X.mg x=some (.ref C))(hb:Binds X.K fd ps ds)(hd:Vals dvs ds)(hx:y3m CX X E)
 (ha:PA X (e::es) t) (hdb:(x==("__debug__" : Str))=false:=by decide) (he:starEach (e::es) X.env=(false,eval e X.env)::starEach es X.env:=by rfl) (hpl:(backTo pos (starEach es X.env)).any (·.1)=false:=by rfl) :
 PE X (.Call (.Name x p) (e::es) [] pos) (tMake C sp dvs E t):=by
 intro pins s σ H Q I h
 refine wpAny_Call_Name_kw (y2r I hg hm ?_ hdb)
 refine PySem.W.callWith_K (h₀:=X.base) I.ok.mod.kin M.kp (thn (ha pos pins s σ H _ I h) fun us s1 ⟨vs,H1,I1,r,q⟩=>⟨I1.kIn,?_⟩) he hpl
 exact x7o M F hr hb hd hx I1 r q
end
section
variable {X:Cx}{CX:CXT}{k:Nat}{f C:Addr}{fd:FuncData}{ps ks:List Str}{sp:Sp}{E:XK}{x m:Str}{p pos apos kpos:Pos}{e o:Expr}{es:List Expr}{kws:List Keyword}{te ta:TE}{t tk:TA}{nm:Option Str}
structure KBinds (K:W.Frag)(fd:FuncData)(ps ks:List Str)(g:List Value->List Value->List Value)(gV:List V->List V->List V):Prop where
 to:∀ (s:Shared) (us ws:List Value),K.In s.heap->(g us ws).length=ps.length->BindsTo s fd ⟨us,ks.zip ws⟩ (ps.zip (g us ws))
 rel:∀ {vs:List V} {us:List Value} {zs:List V} {ws:List Value},Vals vs us->Vals zs ws->Vals (gV vs zs) (g us ws)
variable {g:List Value->List Value->List Value}{gV:List V->List V->List V}
end
structure FnScope (N P:List Str)(sc:Scope):Prop where
 kind:sc.kind=.function
 co:sc.isCoroutine=false
 gen:sc.isGenerator=false
 nd:N.Nodup
 pre:N.take P.length=P
 par:∀ x∈P,sc.names.lookup x=some .local∨sc.names.lookup x=some .cell
 nofree:∀ y∈sc.names,y.2≠.free
theorem y8i {kindOf:Str->Option NameKind}{x:Str}:∀ {binds:List (Str×Value)}{m:Str->Option Value},(∀ v,(x,v) ∉ binds)->bindL kindOf binds m x=m x
 | [],_,_=>rfl
 | (n,v)::r,m,h=>by
  unfold bindL
  rw[y8i fun w hw=>h w (List.mem_cons_of_mem _ hw)]
  split
  ·have:x≠n:=by rintro rfl;exact h v List.mem_cons_self
   simp[this]
  ·rfl
theorem y8k {kindOf:Str->Option NameKind}{x:Str}:∀ {binds:List (Str×Value)}{m:Str->Option Value},(∀ v,(x,v) ∉ binds)->bindC kindOf binds m x=m x
 | [],_,_=>rfl
 | (n,v)::r,m,h=>by
  unfold bindC
  rw[y8k fun w hw=>h w (List.mem_cons_of_mem _ hw)]
  split
  ·rfl
  ·have:x≠n:=by rintro rfl;exact h v List.mem_cons_self
   simp[this]
theorem y8j {kindOf:Str->Option NameKind}{x:Str}{v:Value}:∀ {P:List Str}{vs:List Value}{i:Nat}{m:Str->Option Value},P.Nodup->P[i]?=some x->vs[i]?=some v->kindOf x=some .local ->
 bindL kindOf (P.zip vs) m x=some v
 | [],_,_,_,_,h,_,_=>by simp at h
 | _::_,[],_,_,_,_,h,_=>by simp at h
 | p::P,w::vs,0,m,nd,h1,h2,hk=>by
  simp at h1 h2;subst h1;subst h2
  show bindL kindOf ((p,w)::P.zip vs) m p=_
  unfold bindL
  rw[y8i fun v hv=>(List.nodup_cons.mp nd).1 (List.of_mem_zip hv).1,if_pos hk]
  simp
 | p::P,w::vs,i+1,m,nd,h1,h2,hk=>by
  show bindL kindOf ((p,w)::P.zip vs) m x=_
  unfold bindL
  exact y8j (i:=i) (List.nodup_cons.mp nd).2 (by simpa using h1) (by simpa using h2) hk
theorem y8l {kindOf:Str->Option NameKind}{x:Str}{v:Value}:∀ {P:List Str}{vs:List Value}{i:Nat}{m:Str->Option Value},P.Nodup->P[i]?=some x->vs[i]?=some v->kindOf x≠some .local ->
 bindC kindOf (P.zip vs) m x=some v
 | [],_,_,_,_,h,_,_=>by simp at h
 | _::_,[],_,_,_,_,h,_=>by simp at h
 | p::P,w::vs,0,m,nd,h1,h2,hk=>by
  simp at h1 h2;subst h1;subst h2
  show bindC kindOf ((p,w)::P.zip vs) m p=_
  unfold bindC
  rw[y8k fun v hv=>(List.nodup_cons.mp nd).1 (List.of_mem_zip hv).1,if_neg hk]
  simp
 | p::P,w::vs,i+1,m,nd,h1,h2,hk=>by
  show bindC kindOf ((p,w)::P.zip vs) m x=_
  unfold bindC
  exact y8l (i:=i) (List.nodup_cons.mp nd).2 (by simpa using h1) (by simpa using h2) hk
def start (N:List Str)(vs:List V):St:=vs.map some++List.replicate (N.length-vs.length) none
def cxOf (CX:CXT)(P:Program)(w:World)(K:W.Frag)(mg:Str->Option Value)(base:Heap)(N:List Str)(qual:Str)(scope:Scope)(f:Addr)(cd:Value)(A:Around)(outer:List Env)(s:Shared)(H:Hp)(E:XK):Cx where
 prog:=P
 w:=w
 K:=K
 mg:=mg
 base:=base
 A:=A.deeper (envOfC qual scope s.heap.objs.size f cd)
 N:=N
 s₀:=s
 H₀:=H
 env:=envOfC qual scope s.heap.objs.size f cd
 outer:=outer
 stack:=envOfC qual scope s.heap.objs.size f cd::outer
 ex:=[]
 calm:=true
 fn:=fun _=>true
 pn:=[]
 xe:=fun e s'=>wpAny (model P w) (A.deeper (envOfC qual scope s.heap.objs.size f cd)) (leaving (envOfC qual scope s.heap.objs.size f cd) e) (fun _ s''=>CX outer H s E e s'') (fun e' s''=>CX outer H s E e' s'') s'
theorem x1y {sc:Scope}{n:Nat}{x:Str}(h:sc.names.lookup x=some .cell):∃ c,(cellsFrom n sc.names []).lookup x=some c:=by
 have q:=PySem.W.cellsFrom_some sc.names n [] (.inl h)
 exact Option.isSome_iff_exists.mp q
theorem x6d {CX:CXT}{P:Program}{w:World}{K:W.Frag}{mg:Str->Option Value}{base:Heap}{N ps:List Str}{qual:Str}{scope:Scope}{f:Addr}{cd:Value}{A:Around}{outer:List Env}{s s1:Shared}{H:Hp}{E:XK}{us:List Value}{vs:List V}
 (S:FnScope N ps scope) (hd:A.handled=none) (e0:Env0 P w K mg base A outer s H) (hl:vs.length=ps.length) (r:Vals vs us)
 (x:InCallC s s.heap.objs.size (bindL (envOfC qual scope s.heap.objs.size f cd).kindOf (ps.zip us) fun _=>none) (cellsFrom (s.heap.objs.size+1) scope.names []) (bindC (envOfC qual scope s.heap.objs.size f cd).kindOf (ps.zip us) fun _=>none) s1) :
 Inv (cxOf CX P w K mg base N qual scope f cd A outer s H E) [] (start N vs) H s1:=by
 have hpl:ps.length<=N.length:=by have:=congrArg List.length S.pre;rw[List.length_take]at this;omega
 obtain⟨h1,tk,rfl,hk⟩:=x.done
 have noA:∀ b:Addr,b ∉ (cxOf CX P w K mg base N qual scope f cd A outer s H E).ex:=fun b z=>absurd (show b∈([]:List Addr) from z) (by simp)
 refine⟨⟨e0.mod,S.kind,rfl,rfl,Nat.le_refl _,fun y z c h1 h2=>?_,fun y hy=>?_,fun y c _ h=>?_,fun _=>hd,Around.frames_deeper e0.frames,.inr ⟨rfl,rfl⟩,fun b z=>absurd z (noA b),e0.bs,e0.bsz,fun b _ _=>noA b,fun b z=>absurd z (noA b),e0.funs,e0.frf⟩,
  rfl,e0.bare,Un.kept hk,⟨_,x.toInCall.ns,fun i y v h1 h2 h3=>?_⟩,fun y c h=>⟨_,x.cell y c h⟩,e0.hok.fresh (Nat.le_refl _),fun y c h=>?_,fun p hp=>absurd (show p∈([]:List (Addr×Obj)) from hp) (by simp),e0.hok.kept hk,?_⟩
 ·exact name_of_addr x.apart (PySem.mem_of_lookup h1) (PySem.mem_of_lookup h2)
 ·have hy:scope.names.lookup y=some .cell∨scope.names.lookup y=some .free:=hy
  rcases hy with hy|hy
  ·exact x1y hy
  ·exact absurd rfl (S.nofree _ (PySem.mem_of_lookup hy))
 ·exact Nat.le_of_lt (x.above y c (PySem.mem_of_lookup h))
 ·have hi:i<vs.length:=by
   unfold start at h2
   by_cases hi:i<vs.length
   ·exact hi
   ·rw[List.getElem?_append_right (by simpa using hi)]at h2
    rw[List.getElem?_replicate]at h2
    split at h2<;>cases h2
  have ha:vs[i]?=some v:=by
   unfold start at h2
   rw[List.getElem?_append_left (by simpa using hi),List.getElem?_map]at h2
   cases e:vs[i]? with
   | none=>rw[e]at h2;cases h2
   | some a=>rw[e]at h2;cases h2;rfl
  obtain⟨u,hu,rv⟩:=r.get ha
  have hp:ps[i]?=some y:=by
   rw[←S.pre,List.getElem?_take_of_lt (by omega)];exact h1
  have ndP:ps.Nodup:=by rw[←S.pre];exact S.nd.sublist (List.take_sublist _ _)
  refine⟨u,rv,?_⟩
  rcases S.par y (List.mem_of_getElem? hp) with k|k
  ·exact .inl ⟨k,y8j ndP hp hu k⟩
  ·obtain⟨c,e⟩:=x1y (n:=s.heap.objs.size+1) k
   refine .inr ⟨.inl k,c,e,?_⟩
   have q:=x.cell y c e
   rw[y8l ndP hp hu (by show scope.names.lookup y≠_;rw[k];decide)]at q
   exact q
 ·exact e0.hok.fresh (Nat.le_of_lt (x.above y c (PySem.mem_of_lookup h)))
 ·unfold start
  show _=N.length
  rw[List.length_append,List.length_map,List.length_replicate]
  omega
theorem fn_of {CX:CXT}{P:Program}{w:World}{K:W.Frag}{mg:Str->Option Value}{base:Heap}{k:Nat}{f:Addr}{name qual:Str}{params:Arguments}{body:List Stmt}{scope:Scope}{dV kV doc pm cdv ct oc:Value}{an od:Option Addr}
 {osl:Array (Option Value)} {N ps:List Str} {sp:Sp} (lk:K.lookup f=some ⟨oc,od,.func (PySem.W.fnOf name qual params body scope dV kV doc pm an cdv ct),osl⟩) (hcd:PySem.W.codeIn K cdv qual=true) (S:FnScope N ps scope)
 (len:∀ vs H Q E,sp vs H Q E->vs.length=ps.length)
 (hbody:∀ (A:Around) (outer:List Env) (s:Shared) (H:Hp) (vs:List V) (Q:VK) (E:XK),Room k (A.deeper (envOfC qual scope s.heap.objs.size f cdv))->sp vs H Q E ->
  ∃ t,PSs (cxOf CX P w K mg base N qual scope f cdv A outer s H E) body t/\t { nx:=fun _ H'=>Q .non H',rt:=Q } (start N vs) H) :
 FnOk P w K mg base CX (k+1) f (PySem.W.fnOf name qual params body scope dV kV doc pm an cdv ct) ps sp:=by
 refine⟨len,fun A outer s H args us vs Q E hr e0 hb r hsp=>?_⟩
 have hl:=len _ _ _ _ hsp
 have KX:K.In s.heap:=e0.mod.kin.keeps fun b o e=>(e0.bs b o e).1
 have lim:s.heap.NoLimit:=e0.mod.nolimit.keeps fun b o e=>(e0.bs b o e).1
 have hkind:∀ y∈ps.zip us,scope.names.lookup y.1=some .local∨(scope.names.lookup y.1=some .cell/\((cellsFrom (s.heap.objs.size+1) scope.names []).lookup y.1).isSome=true):=fun ⟨n,v⟩ hy=>by
  rcases S.par n (List.of_mem_zip hy).1 with q|q
  ·exact .inl q
  ·exact .inr ⟨q,PySem.W.cellsFrom_some _ _ _ (.inl q)⟩
 refine codeAny_call_function hr.depth (KX _ _ lk) rfl S.co S.gen rfl (PySem.W.codeRec_of KX hcd) (hb _ _ _ _ ?_)
 refine wpAny_newFunctionEnv_cells S.kind hkind fun env he s1 x=>?_
 subst he
 refine⟨lim.keeps x.toInCall.keep,codeAny_func ?_⟩
 obtain⟨t,ht,hq⟩:=hbody A outer s H vs Q E (hr.deeper _) hsp
 have I:Inv (cxOf CX P w K mg base N qual scope f cdv A outer s H E) [] (start N vs) H s1:=x6d S hr.hd e0 hl r x
 refine wpAny_mono (ht [] s1 (start N vs) H _ I hq) (fun fl s' hs=>?_) fun e s' hs=>hs
 have fin:∀ {σ':St} {H':Hp} {v:V} {u:Value},Inv (cxOf CX P w K mg base N qual scope f cdv A outer s H E) [] σ' H' s'->RelV v u->Q v H'->CE outer P w H s Q u s' :=
  fun {σ' H' v u} J rv q=>⟨v,H',J.os,J.bare,J.base,J.hok,rv,q⟩
 cases fl with
 | ret u =>
  obtain⟨v,σ',H',J,rv,q⟩:=hs
  exact fin J rv q
 | next =>
  obtain⟨σ',H',J,q⟩:=hs
  exact fin (v:=V.non) (u:=Value.none) J rfl q
 | brk =>
  obtain⟨_,_,_,q⟩:=hs
  exact False.elim q
 | cont =>
  obtain⟨_,_,_,q⟩:=hs
  exact False.elim q
end L2
namespace L2
open PySem PySem.Spec PyProof.Rows
section
variable {X:Cx}{x:Str}{p pos:Pos}{e:Expr}{es:List Expr}{t:TA}{id T:String}{r:List V->Hp->VK->Prop}
def tCB (r:List V->Hp->VK->Prop)(t:TA):TE:=fun σ H Q=>t σ H fun vs H1=>r vs H1 Q
theorem z0n (hc:CallR X (.builtin id) r)(hg:Gl X x)(hm:X.mg x=none)(hv:bootBuiltins x=some (.builtin id))(ha:PA X (e::es) t)(hn:x≠"__name__":=by decide) (hdb:(x==("__debug__" : Str))=false:=by decide)
 (he:starEach (e::es) X.env=(false,eval e X.env)::starEach es X.env:=by rfl) (hpl:(backTo pos (starEach es X.env)).any (·.1)=false:=by rfl):PE X (.Call (.Name x p) (e::es) [] pos) (tCB r t):=by
 intro pins s σ H Q I h
 refine wpAny_Call_Name_kw (y1a I hg hm hv ?_ hn hdb)
 exact PyProof.Rows.callWith_builtin1 (thn (ha pos pins s σ H _ I h) fun us s1 ⟨vs,H1,I1,r1,q1⟩=>hc pins s1 σ H1 vs us Q I1 r1 q1) he hpl
theorem z4n (hc:CallR X (.type T) r)(hg:Gl X x)(hm:X.mg x=none)(hv:bootBuiltins x=some (.type T))(ha:PA X (e::es) t)(hn:x≠"__name__":=by decide) (hdb:(x==("__debug__" : Str))=false:=by decide)
 (he:starEach (e::es) X.env=(false,eval e X.env)::starEach es X.env:=by rfl) (hpl:(backTo pos (starEach es X.env)).any (·.1)=false:=by rfl):PE X (.Call (.Name x p) (e::es) [] pos) (tCB r t):=by
 intro pins s σ H Q I h
 refine wpAny_Call_Name_kw (y1a I hg hm hv ?_ hn hdb)
 exact PyProof.Rows.callWith_type1 (thn (ha pos pins s σ H _ I h) fun us s1 ⟨vs,H1,I1,r1,q1⟩=>hc pins s1 σ H1 vs us Q I1 r1 q1) he hpl
end
end L2
namespace HT
open PySem PyProof.Rows
section
open PySem.SeqAt
open PySem.AutoSeq1 (wpAny_loadPart')
open PySem.MeetsSeq PySem.MeetsSeq2 PySem.MeetsSeq3
end
section
variable {prog:Program}{w:World}{A:Around}{E:Value->Shared->Prop}{s:Shared}
def sIx (n d:Nat):Option Int->Nat
 | none=>d
 | some v=>if v<0 then (v+(n:Int)).toNat else min v.toNat n
theorem sIx_none (n d:Nat):sIx n d none=d:=rfl
theorem sIx_nat (n d k:Nat):sIx n d (some (k:Int))=min k n:=by
 show (if (k:Int)<0 then ((k:Int)+(n:Int)).toNat else min (k:Int).toNat n)=min k n
 rw[if_neg (by omega),Int.toNat_natCast]
end
end HT
namespace L2
open PySem PySem.Spec PyProof.Rows
abbrev TO:=St->Hp->(Option Int->Hp->Prop)->Prop
def PO (X:Cx)(e:Option Expr)(t:TO):Prop :=
 ∀ (pins:List (Addr×Obj)) (s:Shared) (σ:St) (H:Hp) (Q:Option Int->Hp->Prop),Inv X pins σ H s->t σ H Q ->
  wpAny (model X.prog X.w) X.A (evalPart e X.env) (fun u s'=>∃ o H',Inv X pins σ H' s'/\IsPart u o/\Q o H') X.xe s
def x9x:TO:=fun _ H Q=>Q none H
def tPart (t:TE):TO:=fun σ H Q=>t σ H fun x H1=>∃ i,x=.int i/\Q (some i) H1
theorem x3f {ns:List Int}:∀ {us:List Value},Vals (ns.map V.int) us->IntsAre us ns:=by
 induction ns with
 | nil=>intro us r;rw[List.map_nil]at r;cases r;exact .nil
 | cons n ns ih =>
  intro us r
  rw[List.map_cons]at r
  cases r with
  | cons r1 r2 =>
   obtain⟨t,e⟩:=r1
   subst e
   exact .cons n t (ih r2)
section
variable {X:Cx}{e:Expr}{te:TE}{lo hi:Option Expr}{tl th:TO}{pos p2:Pos}
theorem y0f:PO X none x9x:=by
 intro pins s σ H Q I h
 rw[evalPart_none]
 exact wpAny_pure ⟨none,H,I,.none,h⟩
theorem z7x (h:PE X e te):PO X (some e) (tPart te):=by
 intro pins s σ H Q I hw
 rw[evalPart_some]
 refine thn (h pins s σ H _ I hw) fun u s1 ⟨x,H1,I1,r1,q1⟩=>?_
 obtain⟨i,rfl,q⟩:=q1
 obtain⟨t,rfl⟩:=r1
 exact⟨some i,H1,I1,.int i t,q⟩
def SlR (X:Cx)(r:V->Option Int->Option Int->Hp->VK->Prop):Prop :=
 ∀ (pins:List (Addr×Obj)) (s:Shared) (σ:St) (H:Hp) (x:V) (v vl vu:Value) (lo hi:Option Int) (sl:Addr) (Q:VK),Inv X pins σ H s->RelV x v->s.heap.IsSliceOf sl vl vu .none->IsPart vl lo->IsPart vu hi->r x lo hi H Q ->
  ∃ T id,typeLookup (.type T) "__getitem__" = pure (some (.builtin id))/\s.TypeIs v T/\wpAny (model X.prog X.w) X.A (getItem v (.ref sl)) (EP X pins σ Q) X.xe s
def tSl (r:V->Option Int->Option Int->Hp->VK->Prop)(te:TE)(tl th:TO):TE:=fun σ H Q=>te σ H fun x H1=>tl σ H1 fun l H2=>th σ H2 fun u H3=>r x l u H3 Q
theorem z7c {r:V->Option Int->Option Int->Hp->VK->Prop}(hr:SlR X r)(he:PE X e te)(hl:PO X lo tl)(hu:PO X hi th):PE X (.Subscript e (.Slice lo hi none p2) pos) (tSl r te tl th):=by
 intro pins s σ H Q I h
 refine Subscript_ (thn (he pins s σ H _ I h) fun v s1 ⟨x,H1,I1,r1,q1⟩=>?_)
 refine wpAny_Slice (thn (hl pins s1 σ H1 _ I1 q1) fun vl s2 ⟨l,H2,I2,pl,q2⟩=>thn (hu pins s2 σ H2 _ I2 q2) fun vu s3 ⟨u,H3,I3,pu,q3⟩=>?_)
 rw[evalPart_none]
 refine wpAny_pure ?_
 have I4:Inv X pins σ H3 { s3 with heap:=s3.heap.push { cls:=.type "slice",data:=.fields #[vl,vu,.none] } }:=I3.kept (t':=s3.toks) fun b ob q=>Heap.get?_push_of_some _ q
 obtain⟨T,id,hT,ht,hg⟩:=hr pins { s3 with heap:=s3.heap.push { cls:=.type "slice",data:=.fields #[vl,vu,.none] } } σ H3 x v vl vu l u s3.heap.objs.size Q I4 r1 (Heap.IsSliceOf.new ..) pl pu q3
 show wpAny (model X.prog X.w) X.A (subscriptTail e (.Slice lo hi none p2) v (.ref s3.heap.objs.size)) (EP X pins σ Q) X.xe { s3 with heap:=s3.heap.push { cls:=.type "slice",data:=.fields #[vl,vu,.none] } }
 exact tail_any (ops:=[.ref s3.heap.objs.size,v]) ht hT hg (by with_unfolding_all rfl)
def cutV (xs:List V)(lo hi:Option Int):List V:=(xs.drop (HT.sIx xs.length 0 lo)).take (HT.sIx xs.length xs.length hi-HT.sIx xs.length 0 lo)
theorem x0b (xs:List V)(lo hi:Option Int):(cutV xs lo hi).length<=xs.length:=by
 unfold cutV
 rw[List.length_take,List.length_drop]
 omega
end
end L2
namespace L2
open PySem PySem.Spec PyProof.Rows
def ixN (n:Nat)(i:Int):Option Nat:=if 0<=i then (if i<n then some i.toNat else none) else if -(n:Int)<=i then some (i+n).toNat else none
def atI {α:Type}(xs:List α)(i:Int):Option α:=(ixN xs.length i).bind fun j=>xs[j]?
theorem x6b {n:Nat}{i:Int}{j:Nat}(h:ixN n i=some j):seqIndex? i n=some j/\j<n/\-(n:Int)<=i/\i<n:=by
 unfold ixN at h
 by_cases h0:0<=i
 ·rw[if_pos h0]at h
  by_cases h1:i<n
  ·rw[if_pos h1]at h
   have e:i.toNat=j:=Option.some.inj h
   exact⟨by rw[seqIndex_of h0 h1,e],by omega,by omega,h1⟩
  ·rw[if_neg h1]at h;cases h
 ·rw[if_neg h0]at h
  by_cases h1:-(n:Int)<=i
  ·rw[if_pos h1]at h
   have e:(i+n).toNat=j:=Option.some.inj h
   exact⟨by rw[seqIndex_neg (by omega) h1,e],by omega,h1,by omega⟩
  ·rw[if_neg h1]at h;cases h
theorem x0e {α:Type}{xs:List α}{i:Int}{v:α}(h:atI xs i=some v):∃ j,seqIndex? i xs.length=some j/\xs[j]?=some v/\j<xs.length/\-(xs.length:Int)<=i/\i<xs.length:=by
 unfold atI at h
 cases e:ixN xs.length i with
 | none=>rw[e]at h;cases h
 | some j =>
  rw[e]at h
  obtain⟨h1,h2,h3,h4⟩:=x6b e
  exact⟨j,h1,h,h2,h3,h4⟩
theorem z3z {α:Type}{xs:List α}{j:Nat}{v:α}(h:xs[j]?=some v):atI xs (j:Int)=some v:=by
 have hj:j<xs.length:=(List.getElem?_eq_some_iff.mp h).1
 have e:ixN xs.length (j:Int)=some j:=by
  unfold ixN
  rw[if_pos (by omega),if_pos (by omega)];simp
 unfold atI;rw[e];exact h
theorem z8v {α:Type}(xs:List α)(v:α):atI (xs++[v]) (-1)=some v:=by
 have hl:(xs++[v]).length=xs.length+1:=by simp
 have e:ixN (xs++[v]).length (-1)=some xs.length:=by
  unfold ixN
  rw[hl,if_neg (by decide),if_pos (by omega)]
  congr 1
  omega
 unfold atI
 rw[e]
 show (xs++[v])[xs.length]?=some v
 simp
def w1o (b:Expr):Prop:=∀ o i,subscripted b false o i=operate [o,i] (getItem o i)
def IxR (X:Cx)(r:R2):Prop :=
 ∀ (value slice:Expr) (pins:List (Addr×Obj)) (s:Shared) (σ:St) (H:Hp) (x y:V) (v u:Value) (Q:VK),Inv X pins σ H s->RelV x v->RelV y u->r x y H Q ->
  subscripted slice false v u=operate [v,u] (getItem v u)->wpAny (model X.prog X.w) X.A (subscriptTail value slice v u) (EP X pins σ Q) X.xe s
def MtR (X:Cx)(id:String)(r:V->List V->Hp->VK->Prop):Prop :=
 ∀ (pins:List (Addr×Obj)) (s:Shared) (σ:St) (H:Hp) (x:V) (xs:List V) (v:Value) (us:List Value) (Q:VK),Inv X pins σ H s->RelV x v->Vals xs us->r x xs H Q ->
  wpAny (model X.prog X.w) X.A (call (.builtin id) (v::us)) (EP X pins σ Q) X.xe s
section
variable {X:Cx}{a b:Expr}{ta tb:TE}{pos:Pos}
theorem IxR.or {r r':R2}(h:IxR X r)(h':IxR X r'):IxR X (fun x y H Q=>r x y H Q∨r' x y H Q):=by
 intro value slice pins s σ H x y v u Q I rx ry q hs
 rcases q with q|q
 ·exact h value slice pins s σ H x y v u Q I rx ry q hs
 ·exact h' value slice pins s σ H x y v u Q I rx ry q hs
theorem pe_ix {r:R2}(hr:IxR X r)(ha:PE X a ta)(hb:PE X b tb)(hs:w1o b):PE X (.Subscript a b pos) (tOp r ta tb):=by
 intro pins s σ H Q I h
 exact Subscript_ (binT ha hb I h fun v u s2 x y H2 I2 rx ry q=>hr a b pins s2 σ H2 x y v u Q I2 rx ry q (hs _ _))
def rIxL (K:W.Frag):R2:=fun x y H Q=>∃ p xs i v,x=.ref p/\y=.int i/\SqL K H p xs/\atI xs i=some v/\Q v H
def rIxT (K:W.Frag):R2:=fun x y H Q=>∃ p xs i v,x=.ref p/\y=.int i/\SqT K H p xs/\atI xs i=some v/\Q v H
def rIxS:R2:=fun x y H Q=>∃ z i c,x=.str z/\y=.int i/\z.length<=sizeLine/\atI z.cps.toList i=some c/\Q (.str ⟨#[c]⟩) H
theorem ix_list:IxR X (rIxL X.K):=by
 intro value slice pins s σ H x y v u Q I rx ry h hs
 obtain⟨p,xs,i,z,rfl,rfl,hq,he,q⟩:=h
 cases rx
 obtain⟨t,rfl⟩:=ry
 obtain⟨its,r,pl,hz⟩:=I.list hq
 obtain⟨j,h1,h2,h3,h4,h5⟩:=x0e he
 obtain⟨w,ew,rw'⟩:=r.get h2
 have hl:=r.length
 have hn:=y2q
 have fin:EP X pins σ Q w s:=⟨z,H,I,rw',q⟩
 by_cases h0:0<=i
 ·have hj:i.toNat=j:=by
   rw[seqIndex_of h0 h5]at h1
   exact Option.some.inj h1
  exact item_listR pl.isList h0 (by omega) (by rw[hj];simpa using ew) fin hs
 ·have hj:(i+(its.toArray.size:Int)).toNat=j:=by
   rw[seqIndex_neg (by omega) h4]at h1
   rw[List.size_toArray,←hl]
   exact Option.some.inj h1
  exact subscriptTail_builtinR (x:=w) pl.isList.typeIs slot_list_getitem.lookup
   (wpAny_getItem_list_neg (Q:=fun r s'=>r=w/\EP X pins σ Q r s') pl.isList (by omega) (by rw[List.size_toArray]<;>omega) (by omega) (by rw[hj];simpa using ew) ⟨rfl,fin⟩) hs
theorem ix_tup:IxR X (rIxT X.K):=by
 intro value slice pins s σ H x y v u Q I rx ry h hs
 obtain⟨p,xs,i,z,rfl,rfl,hq,he,q⟩:=h
 cases rx
 obtain⟨t,rfl⟩:=ry
 obtain⟨its,r,pl,hz⟩:=I.tuple hq
 obtain⟨j,h1,h2,h3,h4,h5⟩:=x0e he
 obtain⟨w,ew,rw'⟩:=r.get h2
 have hl:=r.length
 have hn:=y2q
 have fin:EP X pins σ Q w s:=⟨z,H,I,rw',q⟩
 exact subscriptTail_builtinR (x:=w) pl.typeIs slot_tuple_getitem.lookup
  (getItem_tuple (j:=j) (Q:=fun r s'=>r=w/\EP X pins σ Q r s') pl (by omega) (by omega) (by rw[List.size_toArray,←hl];exact h1) (by simpa using ew) ⟨rfl,fin⟩) hs
theorem w2s:IxR X rIxS:=by
 intro value slice pins s σ H x y v u Q I rx ry h hs
 obtain⟨z,i,c,rfl,rfl,hz,he,q⟩:=h
 obtain⟨t,rfl⟩:=rx
 obtain⟨t',rfl⟩:=ry
 obtain⟨j,h1,h2,h3,h4,h5⟩:=x0e he
 have hl:z.cps.toList.length=z.length:=by simp[Str.length]
 rw[hl]at h1 h4 h5
 have hn:=y2q
 exact tail_any (typeIs_str s z t) slot_str_getitem.lookup (getItem_str (c:=c) (by
  have e1:decide (i < -(2 ^ 63:Int))=false:=decide_eq_false (by omega)
  have e2:decide (i ≥ 2 ^ 63)=false:=decide_eq_false (by omega)
  rw[e1,e2,Bool.or_false]) (by rw[h1];simpa using h2) ⟨.str ⟨#[c]⟩,H,I.tok _,⟨_,rfl⟩,q⟩) hs
def rIx (K:W.Frag):R2:=fun x y H Q=>rIxL K x y H Q∨rIxT K x y H Q∨rIxS x y H Q
theorem z8b:IxR X (rIx X.K):=ix_list.or (ix_tup.or w2s)
theorem x3a (its:List Value)(n j:Nat)(u:Value):Obj.mapSeq (·.setIfInBounds j u) { cls:=.type "list",data:=.seq its.toArray n }={ cls:=.type "list",data:=.seq (its.set j u).toArray n }:=by
 simp[Obj.mapSeq]
theorem Inv.lst {pins:List (Addr×Obj)}{σ:St}{H:Hp}{s:Shared}{p:Addr}{xs:List V}(I:Inv X pins σ H s)(h:H p=some (.lst xs)) :
 ∃ (its:List Value) (n:Nat),Vals xs its/\s.heap.get? p=some { cls:=.type "list",data:=.seq its.toArray n }/\xs.length<=sizeLine:=by
 obtain⟨z,its,n,r,e⟩:=I.hok p _ h
 exact⟨its,n,r,e,z⟩
theorem Inv.lstUpd {pins:List (Addr×Obj)}{σ:St}{H:Hp}{s:Shared}{p:Addr}{xs ys:List V}{its its':List Value}{n n':Nat}{f:Obj->Obj}(I:Inv X pins σ H s)(h:H p=some (.lst xs))
 (ho:s.heap.get? p=some { cls:=.type "list",data:=.seq its.toArray n }) (hf:f { cls:=.type "list",data:=.seq its.toArray n }={ cls:=.type "list",data:=.seq its'.toArray n' }) (r:Vals ys its') (hz:ys.length<=sizeLine) (t:Nat) :
 Inv X pins σ (upd H p (.lst ys)) { s with heap:=s.heap.update p f,toks:=t }:=by
 have e:(s.heap.update p f).get? p=some { cls:=.type "list",data:=.seq its'.toArray n' }:=by
  rw[Heap.get?_update_self f ho (by rw[hf]<;>rfl),hf]
 refine I.write (x:=p) (e:=p) (by rw[h];trivial) (.inl rfl) (fun b u hb q=>(Heap.get?_update_other _ _ (Ne.symm hb)).trans q) ⟨_,e⟩ ?_
 exact⟨hz,its',n',r,e⟩
def rSetL:V->V->V->Hp->(Hp->Prop)->Prop:=fun o i v H Q=>∃ p xs k j,o=.ref p/\i=.int k/\H p=some (.lst xs)/\ixN xs.length k=some j/\Q (upd H p (.lst (xs.set j v)))
theorem x0r:PSet X rSetL:=by
 intro pins s σ H o i v ov iv u Q I ro ri rv h
 obtain⟨p,xs,k,j,rfl,rfl,hp,hj,q⟩:=h
 cases ro
 obtain⟨t,rfl⟩:=ri
 obtain⟨its,n,r,ho,hz⟩:=I.lst hp
 obtain⟨h1,h2,h3,h4⟩:=x6b hj
 have hl:=r.length
 have hn:=y2q
 have I':Inv X pins σ (upd H p (.lst (xs.set j v))) { s with heap:=s.heap.update p (Obj.mapSeq (·.setIfInBounds j u)) } :=
  I.lstUpd hp ho (x3a its n j u) (r.set rv j) (by rw[List.length_set];exact hz) s.toks
 by_cases h0:0<=k
 ·have hk:k.toNat=j:=by
   rw[seqIndex_of h0 h4]at h1
   exact Option.some.inj h1
  exact PySem.W.ki_setAt ho h0 (by omega) (by rw[List.size_toArray,←hl];exact h4) (by rw[hk];exact⟨_,I',q⟩)
 ·have hk:(k+(its.toArray.size:Int)).toNat=j:=by
   rw[seqIndex_neg (by omega) h3]at h1
   rw[List.size_toArray,←hl]
   exact Option.some.inj h1
  exact PySem.W.ki_setBack ho (by omega) (by rw[List.size_toArray,←hl];exact h3) (by omega) (by rw[hk];exact⟨_,I',q⟩)
theorem y6k (lo hi:Option Int)(n:Nat):(sliceBounds lo hi none n).1=((HT.sIx n 0 lo:Nat):Int)/\(sliceBounds lo hi none n).2.1=((HT.sIx n n hi:Nat):Int)/\(sliceBounds lo hi none n).2.2=1:=by
 refine⟨?_,?_,rfl⟩
 ·cases lo with
  | none=>simp[sliceBounds,HT.sIx]
  | some i =>
   simp only[sliceBounds,HT.sIx,Option.getD_none,show (1:Int) > 0 by decide,if_true]
   by_cases h:i<0
   ·simp only[h,if_true]<;>omega
   ·simp only[h,if_false]<;>omega
 ·cases hi with
  | none=>simp[sliceBounds,HT.sIx]
  | some i =>
   simp only[sliceBounds,HT.sIx,Option.getD_none,show (1:Int) > 0 by decide,if_true]
   by_cases h:i<0
   ·simp only[h,if_true]<;>omega
   ·simp only[h,if_false]<;>omega
theorem y4x (its:List Value)(lo hi:Option Int):slicePick its.toArray lo hi none=((its.drop (HT.sIx its.length 0 lo)).take (HT.sIx its.length its.length hi-HT.sIx its.length 0 lo)).toArray:=by
 obtain⟨h1,h2,h3⟩:=y6k lo hi its.toArray.size
 unfold slicePick
 rw[h1,h2,h3]
 simp only[sliceRange_one,pick_run,List.size_toArray]<;>rfl
def rSlL (K:W.Frag):V->Option Int->Option Int->Hp->VK->Prop:=fun x lo hi H Q=>∃ a xs,x=.ref a/\SqL K H a xs/\∀ p,H p=none->Q (.ref p) (upd H p (.lst (cutV xs lo hi)))
theorem z9b:SlR X (rSlL X.K):=by
 intro pins s σ H x v vl vu lo hi sl Q I rx hs pl pu h
 obtain⟨a,xs,rfl,hx,q⟩:=h
 cases rx
 obtain⟨its,r,ht,hz⟩:=I.list hx
 have hlen:=r.length
 refine⟨"list",_,slot_list_getitem.lookup,ht.isList.typeIs,?_⟩
 refine wpAny_getItem_list_slice ht.isList hs pl pu .none (by simp) ?_ (by rw[List.size_toArray]<;>omega)
 rw[y4x,←hlen]
 refine⟨.ref s.heap.objs.size,_,I.laid (t':=s.toks) (o:=.lst (cutV xs lo hi)) (fun b ob q=>Heap.get?_push_of_some _ q) (Nat.le_refl _) ?_,rfl,q _ (I.hok.fresh (Nat.le_refl _))⟩
 exact⟨Nat.le_trans (x0b xs lo hi) hz,_,0,(r.drop (HT.sIx xs.length 0 lo)).take (HT.sIx xs.length xs.length hi-HT.sIx xs.length 0 lo),Heap.get?_push_size _ rfl⟩
def flatV:V->Bool
 | .non=>true
 | .bl _=>true
 | .int _=>true
 | .str _=>true
 | _=>false
def eqV:V->V->Bool
 | .non,.non=>true
 | .bl a,.bl b=>a==b
 | .bl a,.int b=>(if a then 1 else 0)==b
 | .int a,.bl b=>a==(if b then 1 else 0)
 | .int a,.int b=>a==b
 | .str a,.str b=>a==b
 | _,_=>false
theorem x9r {A:Around}{s:Shared}{y x:V}{u v:Value}(ry:RelV y u)(rx:RelV x v)(fy:flatV y=true)(fx:flatV x=true):SeqAt.EqAt A s u v (eqV y x):=by
 cases y with
 | non =>
  cases ry
  cases x with
  | non=>cases rx;exact SeqAt.EqAt.same _
  | bl b=>cases rx;exact SeqAt.EqAt.none_bool b
  | int b=>obtain⟨t,rfl⟩:=rx;exact SeqAt.EqAt.none_int b t
  | str b=>obtain⟨t,rfl⟩:=rx;exact SeqAt.EqAt.none_str b t
  | _=>exact absurd (show false=true from fx) Bool.false_ne_true
 | bl a =>
  cases ry
  cases x with
  | non=>cases rx;exact SeqAt.EqAt.bool_none a
  | bl b=>cases rx;exact SeqAt.EqAt.bool_bool a b
  | int b=>obtain⟨t,rfl⟩:=rx;exact SeqAt.EqAt.bool_int a b t
  | str b=>obtain⟨t,rfl⟩:=rx;exact SeqAt.EqAt.bool_str a b t
  | _=>exact absurd (show false=true from fx) Bool.false_ne_true
 | int a =>
  obtain⟨t',rfl⟩:=ry
  cases x with
  | non=>cases rx;exact SeqAt.EqAt.int_none a t'
  | bl b=>cases rx;exact SeqAt.EqAt.int_bool a t' b
  | int b=>obtain⟨t,rfl⟩:=rx;exact SeqAt.EqAt.int_int a t' b t
  | str b=>obtain⟨t,rfl⟩:=rx;exact SeqAt.EqAt.int_str a t' b t
  | _=>exact absurd (show false=true from fx) Bool.false_ne_true
 | str a =>
  obtain⟨t',rfl⟩:=ry
  cases x with
  | non=>cases rx;exact SeqAt.EqAt.str_none a t'
  | bl b=>cases rx;exact SeqAt.EqAt.str_bool a t' b
  | int b=>obtain⟨t,rfl⟩:=rx;exact SeqAt.EqAt.str_int a t' b t
  | str b=>obtain⟨t,rfl⟩:=rx;exact SeqAt.EqAt.str_str a t' b t
  | _=>exact absurd (show false=true from fx) Bool.false_ne_true
 | _=>exact absurd (show false=true from fy) Bool.false_ne_true
def eqU (x:V)(u:Value):Bool:=match u with
 | .none=>eqV .non x
 | .bool b=>eqV (.bl b) x
 | .int i _=>eqV (.int i) x
 | .str z _=>eqV (.str z) x
 | _=>false
theorem x9q {x y:V}{u:Value}(r:RelV y u)(f:flatV y=true):eqU x u=eqV y x:=by
 cases y with
 | non=>cases r;rfl
 | bl b=>cases r;rfl
 | int i=>obtain⟨t,rfl⟩:=r;rfl
 | str z=>obtain⟨t,rfl⟩:=r;rfl
 | _=>exact absurd (show false=true from f) Bool.false_ne_true
theorem y3j {x:V}:∀ {xs:List V}{us:List Value},Vals xs us->xs.all flatV=true->us.any (eqU x)=xs.any fun y=>eqV y x
 | _,_,.nil,_=>rfl
 | y::xs,u::us,.cons r t,f=>by
  rw[List.all_cons,Bool.and_eq_true]at f
  rw[List.any_cons,List.any_cons,x9q r f.1,y3j t f.2]
theorem z9s {A:Around}{s:Shared}{x:V}{v:Value}(rx:RelV x v)(fx:flatV x=true):∀ {xs:List V}{us:List Value},Vals xs us->xs.all flatV=true->∀ u∈us,SeqAt.EqAt A s u v (eqU x u)
 | _,_,.nil,_=>fun u hu=>by cases hu
 | y::xs,u::us,.cons r t,f=>fun u' hu=>by
  rw[List.all_cons,Bool.and_eq_true]at f
  rcases List.mem_cons.mp hu with rfl|hu
  ·rw[x9q r f.1];exact x9r r rx f.1 fx
  ·exact z9s rx fx t f.2 u' hu
def inV (x:V)(xs:List V):Bool:=xs.any fun y=>eqV y x
def rIn (K:W.Frag)(neg:Bool):R2:=fun x y H Q=>∃ p xs,y=.ref p/\(SqL K H p xs∨SqT K H p xs)/\flatV x=true/\xs.all flatV=true/\Q (.bl (if neg then !inV x xs else inV x xs)) H
theorem y2g:OpR X (compareOp .In) (rIn X.K false):=by
 intro pins s σ H x y v u Q I rx ry h
 obtain⟨p,xs,rfl,hq,fx,fs,q⟩:=h
 cases ry
 rcases hq with hq|hq
 ·obtain⟨its,r,pl,hz⟩:=I.list hq
  refine SeqAt.in_listAt (eqU x) pl.isList (fun w hw=>z9s rx fx r fs w (by simpa using hw)) ⟨.bl _,H,I,rfl,?_⟩
  rw[show its.toArray.any (eqU x)=its.any (eqU x) by simp,y3j r fs]
  exact q
 ·obtain⟨its,r,pl,hz⟩:=I.tuple hq
  refine SeqAt.in_tupleAt (eqU x) pl (fun w hw=>z9s rx fx r fs w (by simpa using hw)) ⟨.bl _,H,I,rfl,?_⟩
  rw[show its.toArray.any (eqU x)=its.any (eqU x) by simp,y3j r fs]
  exact q
theorem z2l:OpR X (compareOp .NotIn) (rIn X.K true):=by
 intro pins s σ H x y v u Q I rx ry h
 obtain⟨p,xs,rfl,hq,fx,fs,q⟩:=h
 cases ry
 rcases hq with hq|hq
 ·obtain⟨its,r,pl,hz⟩:=I.list hq
  refine SeqAt.notIn_listAt (eqU x) pl.isList (fun w hw=>z9s rx fx r fs w (by simpa using hw)) ⟨.bl _,H,I,rfl,?_⟩
  rw[show its.toArray.any (eqU x)=its.any (eqU x) by simp,y3j r fs]
  exact q
 ·obtain⟨its,r,pl,hz⟩:=I.tuple hq
  refine SeqAt.notIn_tupleAt (eqU x) pl (fun w hw=>z9s rx fx r fs w (by simpa using hw)) ⟨.bl _,H,I,rfl,?_⟩
  rw[show its.toArray.any (eqU x)=its.any (eqU x) by simp,y3j r fs]
  exact q
theorem z0l:CallR X (.builtin "len") (fun xs H Q=>∃ p ys,xs=[.ref p]/\(SqL X.K H p ys∨SqT X.K H p ys)/\Q (.int ys.length) H):=by
 intro pins s σ H xs us Q I r h
 obtain⟨p,ys,rfl,hq,q⟩:=h
 obtain⟨u,rfl,rx⟩:=vals1 r
 cases rx
 have hn:=y2q
 rcases hq with hq|hq
 ·obtain⟨its,r',pl,hz⟩:=I.list hq
  have hlen:=r'.length
  exact Calls.call_len_list pl.isList (by simp only[List.size_toArray]<;>omega) ⟨.int ys.length,H,I.tok _,⟨s.toks+1,by rw[List.size_toArray,hlen]⟩,q⟩
 ·obtain⟨its,r',pl,hz⟩:=I.tuple hq
  have hlen:=r'.length
  exact len_tuple pl (by simp only[List.size_toArray]<;>omega) ⟨.int ys.length,H,I.tok _,⟨s.toks+1,by rw[List.size_toArray,hlen]⟩,q⟩
theorem z3r:CallR X (.type "list") (fun xs H Q=>∃ p ys,xs=[.ref p]/\(SqL X.K H p ys∨SqT X.K H p ys)/\∀ l,H l=none->Q (.ref l) (upd H l (.lst ys))):=by
 intro pins s σ H xs us Q I r h
 obtain⟨p,ys,rfl,hq,q⟩:=h
 obtain⟨u,rfl,rx⟩:=vals1 r
 cases rx
 have fin:∀ (its:List Value),Vals ys its->ys.length<=sizeLine->∀ (h':Heap) (c':Nat),(∀ b o',s.heap.get? b=some o'->h'.get? b=some o') ->
  h'.get? s.heap.objs.size=some { cls:=.type "list",dict:=none,data:=.seq its.toArray c',slots:=#[] }->EP X pins σ Q (.ref s.heap.objs.size) { s with heap:=h' }:=fun its r' hz h' c' kp e =>
  ⟨.ref s.heap.objs.size,_,I.laid (t':=s.toks) kp (Nat.le_refl _) (show ObjOk X.prog X.w _ h' _ (.lst ys) from ⟨hz,its,c',r',e⟩),rfl,q _ (I.hok.fresh (Nat.le_refl _))⟩
 rcases hq with hq|hq
 ·obtain⟨its,r',pl,hz⟩:=I.list hq
  have hlen:=r'.length
  obtain⟨o,ho,hc,n,hd⟩:=pl.isList
  exact call_list_seq p (.inl rfl) ho hc hd (fun h' c' kp e=>fin its r' hz h' c' kp e) (by simp only[List.size_toArray]<;>omega)
 ·obtain⟨its,r',pl,hz⟩:=I.tuple hq
  have hlen:=r'.length
  obtain⟨o,ho,hc,n,hd⟩:=pl
  exact call_list_seq p (.inr rfl) ho hc hd (fun h' c' kp e=>fin its r' hz h' c' kp e) (by simp only[List.size_toArray]<;>omega)
def tyV (K:W.Frag)(T:String)(x:V)(H:Hp):Prop:=match x with
 | .str _=>T="str"
 | .int _=>T="int"
 | .ref p=>(T="list"/\∃ xs,SqL K H p xs)∨(T="tuple"/\∃ o,K.lookup p=some o/\o.cls=.type "tuple"/\o.dict=none) ∨
  (T="dict"/\((∃ kvs,H p=some (.dK kvs))∨∃ kvs,H p=some (.dT kvs)))∨(T="set"/\∃ S n,H p=some (.set S n))
 | _=>False
theorem x9e {pins:List (Addr×Obj)}{σ:St}{H:Hp}{s:Shared}{T:String}{x:V}{v:Value}(I:Inv X pins σ H s)(r:RelV x v)(ty:tyV X.K T x H) :
 s.TypeIs v T/\∀ a,v=.ref a->∃ ob,s.heap.get? a=some ob/\ob.dict=none:=by
 cases x with
 | str z =>
  obtain⟨t,rfl⟩:=r
  cases (show T="str" from ty)
  exact⟨typeIs_str s z t,fun _ e=>nomatch e⟩
 | int i =>
  obtain⟨t,rfl⟩:=r
  cases (show T="int" from ty)
  exact⟨typeIs_int s i t,fun _ e=>nomatch e⟩
 | ref p =>
  cases r
  rcases ty with ⟨rfl,xs,hq⟩|⟨rfl,o,hk,hc,hd⟩ | ⟨rfl,hk⟩ | ⟨rfl,S,n,hk⟩
  ·obtain⟨its,_,pl,_⟩:=I.list hq
   refine⟨pl.isList.typeIs,fun a e=>?_⟩
   cases e
   obtain⟨o,n,e,c,hd,_⟩:=pl
   exact⟨o,e,hd⟩
  ·refine⟨⟨o,I.kIn p o hk,hc⟩,fun a e=>?_⟩
   cases e
   exact⟨o,I.kIn _ o hk,hd⟩
  ·have z:∃ o,s.heap.get? p=some o/\o.ExactDict:=by
    rcases hk with ⟨kvs,hk⟩|⟨kvs,hk⟩
    ·obtain⟨_,_,_,_,o,_,_,e,ex,_⟩:=I.hok p _ hk
     exact⟨o,e,ex⟩
    ·obtain⟨_,_,_,_,o,_,_,e,ex,_⟩:=I.hok p _ hk
     exact⟨o,e,ex⟩
   obtain⟨o,e,ex⟩:=z
   refine⟨⟨o,e,ex.1⟩,fun a e2=>?_⟩
   cases e2
   exact⟨o,e,ex.2.1⟩
  ·obtain⟨o,_,_,_,e,ex,_⟩:=I.hok p _ hk
   refine⟨⟨o,e,ex.1⟩,fun a e2=>?_⟩
   cases e2
   exact⟨o,e,ex.2.1⟩
 | _=>exact False.elim ty
def tBM0 (K:W.Frag)(T:String)(r:V->List V->Hp->VK->Prop)(to:TE):TE:=fun σ H Q=>to σ H fun x H1=>tyV K T x H1/\r x [] H1 Q
def tBM (K:W.Frag)(T:String)(r:V->List V->Hp->VK->Prop)(to:TE)(t:TA):TE:=fun σ H Q=>to σ H fun x H1=>tyV K T x H1/\t σ H1 fun xs H2=>r x xs H2 Q
variable {o e:Expr}{es:List Expr}{to:TE}{t:TA}{name:Str}{apos cpos:Pos}{T id:String}{r:V->List V->Hp->VK->Prop}
theorem y6t (pa:PlainAttrs T)(slot:Slot T name id)(hty:typeOf (.builtin id)=pure (.type "method_descriptor"))(hm:MtR X id r)(ho:PE X o to)
 (hbase:attributeBase o name X.env (eval o X.env)=eval o X.env:=by rfl) (hline:(apos.endLine==cpos.line)=true:=by rfl):PE X (.Call (.Attribute o name apos) [] [] cpos) (tBM0 X.K T r to):=by
 intro pins s σ H Q I h
 refine wpAny_Call_method0_late hbase hline (thn (ho pins s σ H _ I h) fun v s1 ⟨x,H1,I1,r1,ty,q1⟩=>?_)
 obtain⟨h1,h2⟩:=x9e I1 r1 ty
 exact⟨T,id,pa,slot,hty,h1,h2,Calls.callWith_builtin rfl (PySem.evalArgs_none (hm pins s1 σ H1 x [] v [] Q I1 r1 .nil q1))⟩
theorem pe_bm (pa:PlainAttrs T)(slot:Slot T name id)(hty:typeOf (.builtin id)=pure (.type "method_descriptor"))(hm:MtR X id r)(ho:PE X o to)(ha:PA X (e::es) t)
 (hbase:attributeBase o name X.env (eval o X.env)=eval o X.env:=by rfl)
 (hfew:((backTo cpos (starEach (e::es) X.env)).all (fun x=>!x.1)&&(backToKw cpos (keywordEach [] X.env)).all (fun x=>x.1.isSome)
  && decide ((e::es).length+([]:List Keyword).length+(if ([]:List Keyword).isEmpty then 0 else 1)<30))=true:=by rfl)
 (hline:(apos.endLine==cpos.line)=true:=by rfl) (hs:starEach (e::es) X.env=(false,eval e X.env)::starEach es X.env:=by rfl) (hplain:(backTo cpos (starEach es X.env)).any (·.1)=false:=by rfl) :
 PE X (.Call (.Attribute o name apos) (e::es) [] cpos) (tBM X.K T r to t):=by
 intro pins s σ H Q I h
 refine wpAny_Call_method_late hbase hfew hline rfl (thn (ho pins s σ H _ I h) fun v s1 ⟨x,H1,I1,r1,ty,q1⟩=>?_)
 obtain⟨h1,h2⟩:=x9e I1 r1 ty
 refine⟨T,id,pa,slot,hty,h1,h2,?_⟩
 have hA:=ha cpos pins s1 σ H1 _ I1 q1
 rw[hs]at hA ⊢
 refine Calls.callWith_builtin (by show (false||(backTo cpos (starEach es X.env)).any (·.1))=false;rw[hplain]<;>rfl) (Calls.evalArgs_plain ?_)
 exact thn hA fun us s2 ⟨vs,H2,I2,r2,q2⟩=>hm pins s2 σ H2 x vs v us Q I2 r1 r2 q2
end
end L2
namespace L2
open PySem PySem.Spec PyProof.Rows
def MtM (X:Cx)(id:String)(r:V->List V->Hp->VK->Prop):Prop :=
 ∀ (pins:List (Addr×Obj)) (s:Shared) (σ:St) (H:Hp) (x:V) (xs:List V) (v:Value) (us:List Value) (Q:VK),Inv X pins σ H s->RelV x v->Vals xs us->r x xs H Q ->
  wpAny (model X.prog X.w) X.A (call (.builtin id) (v::us)) (EP X pins σ Q) X.xe s
theorem Vals.one:∀ {x:V}{us:List Value},Vals [x] us->∃ u,us=[u]/\RelV x u
 | _,_,.cons r .nil=>⟨_,rfl,r⟩
theorem Vals.two:∀ {x y:V}{us:List Value},Vals [x,y] us->∃ u v,us=[u,v]/\RelV x u/\RelV y v
 | _,_,_,.cons r (.cons q .nil)=>⟨_,_,rfl,r,q⟩
theorem Vals.zero:∀ {us:List Value},Vals [] us->us=[]
 | _,.nil=>rfl
theorem Vals.dropLast {xs:List V}{us:List Value}(h:Vals xs us):Vals xs.dropLast us.dropLast:=by
 induction h with
 | nil=>exact .nil
 | cons r t ih =>
  cases t with
  | nil=>exact .nil
  | cons q t'=>exact .cons r ih
theorem Vals.eraseIdx:∀ {xs:List V}{us:List Value}(i:Nat),Vals xs us->Vals (xs.eraseIdx i) (us.eraseIdx i)
 | _,_,_,.nil=>.nil
 | _,_,0,.cons _ t=>t
 | _,_,i+1,.cons r t=>.cons r (Vals.eraseIdx i t)
theorem Vals.reverse {xs:List V}{us:List Value}(h:Vals xs us):Vals xs.reverse us.reverse:=by
 induction h with
 | nil=>exact .nil
 | cons r t ih=>rw[List.reverse_cons,List.reverse_cons];exact Vals.append ih (.cons r .nil)
theorem x3j {α:Type}(l:List α):l.eraseIdx (l.length-1)=l.dropLast:=by
 induction l with
 | nil=>rfl
 | cons a r ih =>
  cases r with
  | nil=>rfl
  | cons b r =>
   have e:(a::b::r).length-1=((b::r).length-1)+1:=by
    have h1:(a::b::r).length=r.length+2:=rfl
    have h2:(b::r).length=r.length+1:=rfl
    omega
   rw[e,List.eraseIdx_cons_succ,ih]
   all_goals rfl
section
variable {X:Cx}{pins:List (Addr×Obj)}{σ:St}{H:Hp}{s:Shared}{l b:Addr}{xs ys zs:List V}
theorem Inv.lset {its its':List Value}{n:Nat}{f:Array Value->Array Value}{t':Nat}(I:Inv X pins σ H s)(hH:H l=some (.lst xs))
 (e:s.heap.get? l=some { cls:=.type "list",data:=.seq its.toArray n }) (hf:f its.toArray=its'.toArray) (hv:Vals ys its') (hz:ys.length<=sizeLine) :
 Inv X pins σ (upd H l (.lst ys)) { s with heap:=s.heap.update l (Obj.mapSeq f),toks:=t' }:=by
 have q:=PySem.IsL.update e f
 rw[hf]at q
 refine I.write (x:=l) (e:=l) (by rw[hH];exact trivial) (.inl rfl) (fun b' u hb hu=>(Heap.get?_update_other s.heap (Obj.mapSeq f) (Ne.symm hb)).trans hu) ⟨_,q⟩ ?_
 exact⟨hz,its',_,hv,q⟩
theorem Inv.lnew {its:List Value}{t':Nat}(I:Inv X pins σ H s)(hv:Vals ys its)(hz:ys.length<=sizeLine) :
 Inv X pins σ (upd H s.heap.objs.size (.lst ys)) { s with heap:=s.heap.push { cls:=.type "list",data:=.seq its.toArray },toks:=t' } :=
 I.laid (fun _ _ q=>Heap.get?_push_of_some _ q) (Nat.le_refl _) ⟨hz,its,0,hv,Heap.get?_push_size _ rfl⟩
theorem Inv.fresh (I:Inv X pins σ H s):H s.heap.objs.size=none:=I.hok.fresh (Nat.le_refl _)
theorem Inv.lstM (I:Inv X pins σ H s)(hH:H l=some (.lst xs)):xs.length<=sizeLine/\∃ (its:List Value)(n:Nat),Vals xs its/\xs.length=its.length/\s.heap.get? l=some { cls:=.type "list",data:=.seq its.toArray n }:=by
 obtain⟨z,its,n,r,e⟩:=I.hok l _ hH
 exact⟨z,its,n,r,r.length,e⟩
theorem x1e {n:Nat}(h:n<=sizeLine):Builtin.List.listTooLong n=false:=by
 unfold Builtin.List.listTooLong
 exact decide_eq_false (by omega)
end
section
variable {X:Cx}
def w0h:V->List V->Hp->VK->Prop:=fun x vs H Q=>∃ l xs y,x=.ref l/\vs=[y]/\H l=some (.lst xs)/\xs.length<sizeLine/\Q .non (upd H l (.lst (xs++[y])))
theorem z1f:MtM X "list.append" w0h:=by
 intro pins s σ H x vs v us Q I rx rv h
 obtain⟨l,xs,y,rfl,rfl,hH,hz,q⟩:=h
 cases rx
 obtain⟨u,rfl,ru⟩:=rv.one
 obtain⟨z,its,n,r,hl,e⟩:=I.lstM hH
 refine call_meets F.slot_list_append ⟨_,e,rfl⟩ F.entry_list_append (F.args_list_append_2 _ _) (PySem.list_append l its.toArray n u (by rw[List.size_toArray];omega)) ⟨e,?_⟩
 refine⟨.non,_,I.lset (its':=its++[u]) hH e (by simp) (r.append (.cons ru .nil)) ?_,rfl,q⟩
 rw[List.length_append,List.length_singleton]
 omega
def w0g:V->List V->Hp->VK->Prop:=fun x vs H Q=>∃ l b xs zs,x=.ref l/\vs=[.ref b]/\H l=some (.lst xs)/\H b=some (.lst zs)/\xs.length+zs.length<=sizeLine/\Q .non (upd H l (.lst (xs++zs)))
theorem x5n:MtM X "list.extend" w0g:=by
 intro pins s σ H x vs v us Q I rx rv h
 obtain⟨l,b,xs,zs,rfl,rfl,hH,hB,hz,q⟩:=h
 cases rx
 obtain⟨u,rfl,ru⟩:=rv.one
 cases ru
 obtain⟨z,its,n,r,hl,e⟩:=I.lstM hH
 obtain⟨z2,its2,n2,r2,hl2,e2⟩:=I.lstM hB
 have hsz:its.toArray.size+its2.toArray.size<=sizeLine:=by rw[List.size_toArray,List.size_toArray];omega
 have hlong:¬ (!its.toArray.isEmpty&&Builtin.List.listTooLong (its.toArray.size+its2.toArray.size))=true:=by
  rw[x1e hsz,Bool.and_false]
  exact Bool.false_ne_true
 refine call_meets F.slot_list_extend ⟨_,e,rfl⟩ F.entry_list_extend (F.args_list_extend_2 _ _)
  (AutoSeq1.list_extend_list_list_0 l its.toArray n b its2.toArray n2 hlong (by rw[List.size_toArray];omega) (by omega)) ⟨e,e2,?_⟩
 refine⟨.non,_,I.lset (its':=its++its2) hH e (by simp) (r.append r2) ?_,rfl,q⟩
 rw[List.length_append]
 omega
def rPop:V->List V->Hp->VK->Prop:=fun x vs H Q=>∃ l xs y,x=.ref l/\vs=[]/\H l=some (.lst xs)/\xs[xs.length-1]?=some y/\Q y (upd H l (.lst xs.dropLast))
theorem y7l:MtM X "list.pop" rPop:=by
 intro pins s σ H x vs v us Q I rx rv h
 obtain⟨l,xs,y,rfl,rfl,hH,hy,q⟩:=h
 cases rx
 have hus:=rv.zero
 subst hus
 obtain⟨z,its,n,r,hl,e⟩:=I.lstM hH
 obtain⟨u,hu,ru⟩:=r.get hy
 have hy':its.toArray[its.toArray.size-1]?=some u:=by
  show its.toArray[its.length-1]?=some u
  rw[←Array.getElem?_toList,←hl]
  exact hu
 refine call_meets F.slot_list_pop ⟨_,e,rfl⟩ F.entry_list_pop (F.args_list_pop_1 _) (MeetsSeq.list_pop_last l its.toArray n u hy' (by rw[List.size_toArray];omega)) ⟨e,?_⟩
 refine⟨y,_,I.lset (its':=its.dropLast) hH e ?_ r.dropLast ?_,ru,q⟩
 ·show its.toArray.eraseIdxIfInBounds (its.toArray.size-1)=its.dropLast.toArray
  rw[List.size_toArray,List.eraseIdxIfInBounds_toArray,x3j]
 ·rw[List.length_dropLast]
  omega
def rCat:R2:=fun x y H Q=>∃ l b xs zs,x=.ref l/\y=.ref b/\H l=some (.lst xs)/\H b=some (.lst zs)/\xs.length+zs.length<=sizeLine/\∀ p,H p=none->Q (.ref p) (upd H p (.lst (xs++zs)))
theorem z7n:OpR X (binaryOp .Add) rCat:=by
 intro pins s σ H x y v u Q I rx ry h
 obtain⟨l,b,xs,zs,rfl,rfl,hH,hB,hz,q⟩:=h
 cases rx
 cases ry
 obtain⟨z,its,n,r,hl,e⟩:=I.lstM hH
 obtain⟨z2,its2,n2,r2,hl2,e2⟩:=I.lstM hB
 refine PySem.P.add_list e e2 ?_ (by rw[List.size_toArray,List.size_toArray];omega)
 have ea:its.toArray++its2.toArray=(its++its2).toArray:=by simp
 rw[ea]
 exact⟨.ref _,_,I.lnew (t':=s.toks) (r.append r2) (by rw[List.length_append];omega),rfl,q _ I.fresh⟩
end
section
variable {prog:Program}{w:World}{A:Around}{E:Value->Shared->Prop}{s:Shared}
set_option maxRecDepth 100000 in
end
section
variable {X:Cx}
end
end L2
namespace L2
open PySem PySem.Spec PyProof.Rows
section
variable {κ:Type} [DecidableEq κ]
def valV (kvs:List (κ×V))(k:κ):Option V:=(kvs.find? fun kv=>decide (kv.1=k)).map (·.2)
def putK (kvs:List (κ×V))(k:κ)(v:V):List (κ×V) :=
 if (kvs.any fun kv=>decide (kv.1=k))=true then kvs.map (fun kv=>if kv.1=k then (kv.1,v) else kv) else kvs++[(k,v)]
def dropK (kvs:List (κ×V))(k:κ):List (κ×V):=kvs.filter fun kv=>decide (kv.1≠k)
theorem y1i {p:κ×V}{r:List (κ×V)}{k:κ}(e:p.1=k):valV (p::r) k=some p.2:=by simp[valV,List.find?_cons,e]
theorem y1j {p:κ×V}{r:List (κ×V)}{k:κ}(e:¬ p.1=k):valV (p::r) k=valV r k:=by simp[valV,List.find?_cons,e]
theorem y1k (k:κ):∀ kvs:List (κ×V),(kvs.any fun kv=>decide (kv.1=k))=(valV kvs k).isSome
 | []=>rfl
 | p::r=>by
  rw[List.any_cons]
  by_cases e:p.1=k
  ·simp only[y1i e,decide_eq_true e,Bool.true_or,Option.isSome_some]
  ·rw[y1j e,decide_eq_false e,Bool.false_or];exact y1k k r
theorem z9f (kvs:List (κ×V))(k:κ)(v:V):(putK kvs k v).length<=kvs.length+1:=by
 unfold putK
 split
 ·rw[List.length_map];omega
 ·rw[List.length_append,List.length_cons,List.length_nil];omega
theorem x7p {kvs:List (κ×V)}{k:κ}(v:V)(h:valV kvs k=none):putK kvs k v=kvs++[(k,v)]:=by
 unfold putK
 rw[y1k,h]
 exact if_neg (by decide)
theorem RelO.isSome_eq {o:Option V}{u:Option Value}(r:RelO o u):o.isSome=u.isSome:=by
 cases o with
 | none=>cases u with
  | none=>rfl
  | some _=>exact (show False from r).elim
 | some _=>cases u with
  | none=>exact (show False from r).elim
  | some _=>rfl
theorem RelO.getD {o:Option V}{u:Option Value}{d:V}{d':Value}(r:RelO o u)(rd:RelV d d'):RelV (o.getD d) (u.getD d'):=by
 cases o with
 | none=>cases u with
  | none=>exact rd
  | some _=>exact (show False from r).elim
 | some _=>cases u with
  | none=>exact (show False from r).elim
  | some _=>exact r
theorem KV.val {kvs:List (κ×V)}{vs:List (κ×Value)}(r:KV kvs vs)(k:κ):RelO (valV kvs k) (valueAt vs k):=by
 unfold KV at r
 induction r with
 | nil=>exact True.intro
 | @cons p q ps qs h t ih =>
  obtain⟨h1,h2⟩:=h
  by_cases e:p.1=k
  ·have e':q.1=k:=h1.symm.trans e
   have b:valueAt (q::qs) k=some q.2:=by simp[valueAt,List.find?_cons,e']
   rw[y1i e,b];exact h2
  ·have e':¬ q.1=k:=fun z=>e (h1.trans z)
   have b:valueAt (q::qs) k=valueAt qs k:=by simp[valueAt,List.find?_cons,e']
   rw[y1j e,b];exact ih
theorem KV.any {kvs:List (κ×V)}{vs:List (κ×Value)}(r:KV kvs vs)(k:κ):(kvs.any fun kv=>decide (kv.1=k))=vs.any fun kv=>decide (kv.1=k):=by
 unfold KV at r
 induction r with
 | nil=>rfl
 | cons h t ih=>rw[List.any_cons,List.any_cons,ih,h.1]
theorem KV.repl {kvs:List (κ×V)}{vs:List (κ×Value)}(r:KV kvs vs)(k:κ){y:V}{u:Value}(ry:RelV y u) :
 KV (kvs.map fun kv=>if kv.1=k then (kv.1,y) else kv) (vs.map fun kv=>if kv.1=k then (kv.1,u) else kv):=by
 unfold KV at r ⊢
 induction r with
 | nil=>exact .nil
 | @cons p q ps qs h t ih =>
  rw[List.map_cons,List.map_cons]
  refine .cons ?_ ih
  obtain⟨h1,h2⟩:=h
  by_cases e:p.1=k
  ·rw[if_pos e,if_pos (h1.symm.trans e)];exact⟨h1,ry⟩
  ·rw[if_neg e,if_neg (fun z=>e (h1.trans z))];exact⟨h1,h2⟩
theorem KV.put {kvs:List (κ×V)}{vs:List (κ×Value)}(r:KV kvs vs)(k:κ){y:V}{u:Value}(ry:RelV y u):KV (putK kvs k y) (stored vs k u):=by
 unfold putK stored
 rw[r.any k]
 by_cases e:(vs.any fun kv=>decide (kv.1=k))=true
 ·rw[if_pos e,if_pos e];exact r.repl k ry
 ·rw[if_neg e,if_neg e];exact Paired.snoc r ⟨rfl,ry⟩
theorem KV.drop {kvs:List (κ×V)}{vs:List (κ×Value)}(r:KV kvs vs)(k:κ):KV (dropK kvs k) (without vs k):=by
 unfold KV at r ⊢
 unfold dropK without
 induction r with
 | nil=>exact .nil
 | @cons p q ps qs h t ih =>
  obtain⟨h1,h2⟩:=h
  rw[List.filter_cons,List.filter_cons]
  by_cases e:p.1=k
  ·have a:¬ decide (p.1≠k)=true:=by simp[e]
   have b:¬ decide (q.1≠k)=true:=by simp[h1.symm.trans e]
   rw[if_neg a,if_neg b];exact ih
  ·have e':¬ q.1=k:=fun z=>e (h1.trans z)
   have a:decide (p.1≠k)=true:=by simp[e]
   have b:decide (q.1≠k)=true:=by simp[e']
   rw[if_pos a,if_pos b];exact .cons ⟨h1,h2⟩ ih
theorem KV.keys {kvs:List (κ×V)}{vs:List (κ×Value)}(r:KV kvs vs):kvs.map (·.1)=vs.map (·.1):=by
 unfold KV at r
 induction r with
 | nil=>rfl
 | cons h t ih=>rw[List.map_cons,List.map_cons,ih,h.1]
theorem KV.length {kvs:List (κ×V)}{vs:List (κ×Value)}(r:KV kvs vs):kvs.length=vs.length:=Paired.length r
theorem x8s (kvs:List (κ×V))(k:κ):(dropK kvs k).length<=kvs.length:=List.length_filter_le _ _
end
theorem kV_is {P:Program}{w:World}{k:Key}{u:Value}(r:RelV (kV k) u):(z1q P w).is k u=true:=by
 cases k with
 | inl i=>obtain⟨t,e⟩:=(show ∃ t,u=Value.int i t from r);subst e;exact y9t P w i t
 | inr x=>obtain⟨t,e⟩:=(show ∃ t,u=Value.str x t from r);subst e;exact y9s P w x t
theorem y7s {P:Program}{w:World}:∀ {ks:List Key}{us:List Value},Vals (ks.map kV) us->ItemsAre (z1q P w) ks us
 | [],_,r=>by rw[List.map_nil]at r;cases r;exact .nil
 | k::ks,_,r=>by
  rw[List.map_cons]at r
  cases r with
  | cons h t=>exact .cons (kV_is h) (y7s t)
abbrev KT (H:Hp):List (List Key×V)->List (List Key×Addr×Value)->Prop:=Paired fun p q=>p.1=q.1/\H q.2.1=some (.tup (p.1.map kV))/\RelV p.2 q.2.2
theorem KT.val {H:Hp}{kvs:List (List Key×V)}{xs:List (List Key×Addr×Value)}(r:KT H kvs xs)(k:List Key):RelO (valV kvs k) ((atKey xs k).map (·.2)):=by
 induction r with
 | nil=>exact True.intro
 | @cons p q ps qs h t ih =>
  obtain⟨h1,_,h2⟩:=h
  by_cases e:p.1=k
  ·have e':q.1=k:=h1.symm.trans e
   have b:atKey (q::qs) k=some q.2:=by simp[atKey,List.find?_cons,e']
   rw[y1i e,b];exact h2
  ·have e':¬ q.1=k:=fun z=>e (h1.trans z)
   have b:atKey (q::qs) k=atKey qs k:=by simp[atKey,List.find?_cons,e']
   rw[y1j e,b];exact ih
theorem KT.repl {H:Hp}{kvs:List (List Key×V)}{xs:List (List Key×Addr×Value)}(r:KT H kvs xs)(k:List Key){y:V}{u:Value}(ry:RelV y u) :
 KT H (kvs.map fun kv=>if kv.1=k then (kv.1,y) else kv) (xs.map (putAt k u)):=by
 induction r with
 | nil=>exact .nil
 | @cons p q ps qs h t ih =>
  rw[List.map_cons,List.map_cons]
  refine .cons ?_ ih
  obtain⟨h1,h2,h3⟩:=h
  unfold putAt
  by_cases e:p.1=k
  ·rw[if_pos e,if_pos (h1.symm.trans e)];exact⟨h1,h2,ry⟩
  ·rw[if_neg e,if_neg (fun z=>e (h1.trans z))];exact⟨h1,h2,h3⟩
theorem KT.put {H:Hp}{kvs:List (List Key×V)}{xs:List (List Key×Addr×Value)}(r:KT H kvs xs)(k:List Key){b:Addr}{y:V}{u:Value}(hb:H b=some (.tup (k.map kV)))(ry:RelV y u) :
 KT H (putK kvs k y) (storedH xs k b u):=by
 have e:(kvs.any fun kv=>decide (kv.1=k))=(atKey xs k).isSome:=by
  rw[y1k,(r.val k).isSome_eq,Option.isSome_map]
 unfold putK storedH
 rw[e]
 by_cases q:(atKey xs k).isSome=true
 ·rw[if_pos q,if_pos q];exact r.repl k ry
 ·rw[if_neg q,if_neg q];exact Paired.snoc r ⟨rfl,hb,ry⟩
theorem KT.keeps {H H':Hp}{kvs:List (List Key×V)}{xs:List (List Key×Addr×Value)}(r:KT H kvs xs)(ht:∀ b ys,H b=some (.tup ys)->H' b=some (.tup ys)):KT H' kvs xs :=
 Paired.mapP r fun _ _ z=>⟨z.1,ht _ _ z.2.1,z.2.2⟩
section
variable {P:Program}{w:World}{H:Hp}{h:Heap}{a:Addr}
theorem rd_of {u:HO}(ok:HOk P w H h)(e:Rd H a u):ObjOk P w H h a u:=e.ok ok
theorem dk_rd {kvs:List (Key×V)}(ok:HOk P w H h)(e:Rd H a (.dK kvs)):kvs.length<=sizeLine/\(a==sysModules)=false/\∃ vs,KV kvs vs/\h.DictOf (z1q P w) a vs :=
 show ObjOk P w H h a (.dK kvs) from rd_of ok e
theorem dk_of {kvs:List (Key×V)}(ok:HOk P w H h)(e:H a=some (.dK kvs)):kvs.length<=sizeLine/\(a==sysModules)=false/\∃ vs,KV kvs vs/\h.DictOf (z1q P w) a vs:=dk_rd ok (.inl e)
theorem y7r {ks:List Key}(ok:HOk P w H h)(e:H a=some (.tup (ks.map kV))):(tupleKind (z1q P w)).is h ks a:=by
 obtain⟨_,its,r,o,h1,h2,n,h3⟩:=(show ObjOk P w H h a (.tup (ks.map kV)) from ok a _ e)
 exact⟨o,its.toArray,n,h1,h2,h3,by simpa using y7s r⟩
theorem dt_rd {kvs:List (List Key×V)}(ok:HOk P w H h)(e:Rd H a (.dT kvs)):kvs.length<=sizeLine/\(a==sysModules)=false /\
 ∃ xs,KT H kvs xs/\h.DictOfH (tupleKind (z1q P w)) a xs:=by
 obtain⟨z,y,xs,r,o,es,ep,h1,h2,h3,h4,h5⟩:=(show ObjOk P w H h a (.dT kvs) from rd_of ok e)
 refine⟨z,y,xs,r,o,es,ep,h1,h2,h3,h4,fun x hx=>?_,h5⟩
 have all:∀ {l:List (List Key×V)} {m:List (List Key×Addr×Value)},KT H l m->∀ x∈m,(tupleKind (z1q P w)).is h x.1 x.2.1:=by
  intro l m q
  induction q with
  | nil=>intro x hx;exact nomatch hx
  | @cons p q ps qs hq t ih =>
   intro x hx
   rcases List.mem_cons.mp hx with e|hx
   ·subst e
    exact y7r ok (by rw[←hq.1];exact hq.2.1)
   ·exact ih x hx
 exact all r x hx
theorem dt_of {kvs:List (List Key×V)}(ok:HOk P w H h)(e:H a=some (.dT kvs)):kvs.length<=sizeLine/\(a==sysModules)=false /\
 ∃ xs,KT H kvs xs/\h.DictOfH (tupleKind (z1q P w)) a xs:=dt_rd ok (.inl e)
end
def DGet (H:Hp)(a:Addr)(y:V)(r:Option V):Prop :=
 (∃ kvs k,Rd H a (.dK kvs)/\y=kV k/\r=valV kvs k)∨∃ kvs k b,Rd H a (.dT kvs)/\y=.ref b/\H b=some (.tup (k.map kV))/\r=valV kvs k
def DPut (H:Hp)(a:Addr)(y v:V)(H':Hp):Prop :=
 (∃ kvs k,H a=some (.dK kvs)/\y=kV k/\kvs.length<sizeLine/\H'=upd H a (.dK (putK kvs k v))) ∨
 ∃ kvs k b,H a=some (.dT kvs)/\y=.ref b/\H b=some (.tup (k.map kV))/\kvs.length<sizeLine/\H'=upd H a (.dT (putK kvs k v))
theorem DGet.k {H:Hp}{a:Addr}{kvs:List (Key×V)}{k:Key}(e:H a=some (.dK kvs)):DGet H a (kV k) (valV kvs k):=.inl ⟨kvs,k,.inl e,rfl,rfl⟩
theorem DGet.t {H:Hp}{a b:Addr}{kvs:List (List Key×V)}{k:List Key}(e:H a=some (.dT kvs))(eb:H b=some (.tup (k.map kV))):DGet H a (.ref b) (valV kvs k):=.inr ⟨kvs,k,b,.inl e,rfl,eb,rfl⟩
theorem DPut.k {H:Hp}{a:Addr}{kvs:List (Key×V)}{k:Key}{v:V}(e:H a=some (.dK kvs))(hl:kvs.length<sizeLine):DPut H a (kV k) v (upd H a (.dK (putK kvs k v))):=.inl ⟨kvs,k,e,rfl,hl,rfl⟩
theorem DPut.t {H:Hp}{a b:Addr}{kvs:List (List Key×V)}{k:List Key}{v:V}(e:H a=some (.dT kvs))(eb:H b=some (.tup (k.map kV)))(hl:kvs.length<sizeLine) :
 DPut H a (.ref b) v (upd H a (.dT (putK kvs k v))):=.inr ⟨kvs,k,b,e,rfl,eb,hl,rfl⟩
section
variable {X:Cx}{pins:List (Addr×Obj)}{σ:St}{H:Hp}{s:Shared}{a:Addr}{y v:V}{u r:Value}{o:Option V}{A:Around}{E:Value->Shared->Prop}
theorem Inv.big (I:Inv X pins σ H s):sysModules<s.heap.objs.size:=by
 have h:mainGlobals<s.heap.objs.size:=(I.mod.glob.keeps I.bk).lt
 exact Nat.lt_trans (by decide) h
theorem d_in {Q:Value->Shared->Prop}(hu:A.units+1<cLine)(I:Inv X pins σ H s)(g:DGet H a y o)(ry:RelV y u)(h:∀ s',Inv X pins σ H s'->Q (.bool o.isSome) s') :
 wpAny (model X.prog X.w) A (compareOp .In u (.ref a)) Q E s:=by
 rcases g with ⟨kvs,k,e,ey,l⟩|⟨kvs,k,b,e,ey,eb,l⟩
 ·subst ey
  obtain⟨z,hd,vs,rel,dd⟩:=dk_rd I.hok e
  refine wpAny_in_of (kV_is ry) hd dd.mapOf ?_
  rw[←(rel.val k).isSome_eq,←l]
  exact h _ (I.tok _)
 ·subst ey
  cases (show u=Value.ref b from ry)
  obtain⟨z,hd,xs,rel,dd⟩:=dt_rd I.hok e
  refine wpAny_in_heap (tupleKind_room_in1 hu) (y7r I.hok eb) hd dd ?_
  have q:=(rel.val k).isSome_eq
  rw[Option.isSome_map]at q
  rw[←q,←l]
  exact h _ (I.tok _)
theorem w1f {Q:Value->Shared->Prop}(hu:A.units+1<cLine)(I:Inv X pins σ H s)(g:DGet H a y o)(ry:RelV y u)(h:∀ s',Inv X pins σ H s'->Q (.bool (!o.isSome)) s') :
 wpAny (model X.prog X.w) A (compareOp .NotIn u (.ref a)) Q E s:=by
 rcases g with ⟨kvs,k,e,ey,l⟩|⟨kvs,k,b,e,ey,eb,l⟩
 ·subst ey
  obtain⟨z,hd,vs,rel,dd⟩:=dk_rd I.hok e
  refine wpAny_notIn_of (kV_is ry) hd dd.mapOf ?_
  rw[←(rel.val k).isSome_eq,←l]
  exact h _ (I.tok _)
 ·subst ey
  cases (show u=Value.ref b from ry)
  obtain⟨z,hd,xs,rel,dd⟩:=dt_rd I.hok e
  refine wpAny_notIn_heap (tupleKind_room_in1 hu) (y7r I.hok eb) hd dd ?_
  have q:=(rel.val k).isSome_eq
  rw[Option.isSome_map]at q
  rw[←q,←l]
  exact h _ (I.tok _)
theorem y5t {h':Heap}{t':Nat}{ob:HO}(I:Inv X pins σ H s)(mu:Mut (H a))(hs:Heap.SameBut a s.heap h')(he:∃ q,h'.get? a=some q)(new:ObjOk X.prog X.w (upd H a ob) h' a ob) :
 Inv X pins σ (upd H a ob) { s with heap:=h',toks:=t' } :=
 I.write (x:=a) (e:=a) mu (.inl rfl) (fun b q hb z=>(hs.2 b hb).trans z) he new
theorem x6t {P:Program}{w:World}{H':Hp}{h':Heap}{kvs:List (Key×V)}{vs:List (Key×Value)}(z:kvs.length<=sizeLine)(hd:(a==sysModules)=false)(rel:KV kvs vs)(dd:h'.DictOf (z1q P w) a vs) :
 ObjOk P w H' h' a (.dK kvs):=⟨z,hd,vs,rel,dd⟩
theorem x6x {H':Hp}{Q:Unit->Shared->Prop}(hu:A.units+1<cLine)(I:Inv X pins σ H s)(g:DPut H a y v H')(ry:RelV y u)(rv:RelV v r)(h:∀ s',Inv X pins σ H' s'->Q () s') :
 wpAny (model X.prog X.w) A (setItem (.ref a) u r) Q E s:=by
 rcases g with ⟨kvs,k,e,ey,l,eH⟩|⟨kvs,k,b,e,ey,eb,l,eH⟩
 ·subst ey eH
  obtain⟨z,hd,vs,rel,dd⟩:=dk_of I.hok e
  have hz:vs.length<=sizeLine:=by rw[←rel.length];exact z
  have hl:(putK kvs k v).length<=sizeLine:=by have:=z9f kvs k v;omega
  refine wpAny_setItem_pairs (hsz:=hz) (kV_is ry) dd fun h' dd' hs=>h _ ?_
  have he:∃ q,h'.get? a=some q:=let ⟨q,_,_,hq,_⟩:=dd';⟨q,hq⟩
  exact y5t I (by rw[e];exact True.intro) hs he (x6t hl hd (rel.put k rv) dd')
 ·subst ey eH
  cases (show u=Value.ref b from ry)
  obtain⟨z,hd,xs,rel,dd⟩:=dt_of I.hok e
  have hz:xs.length<=sizeLine:=by rw[←Paired.length rel];exact z
  have hl:(putK kvs k v).length<=sizeLine:=by have:=z9f kvs k v;omega
  refine wpAny_setItem_heap (hsz:=hz) (tupleKind_room_in1 hu) (y7r I.hok eb) dd fun h' dd' hs=>h _ ?_
  obtain⟨q,es,ep,hq,h2,h3,h4,_,h5⟩:=dd'
  refine y5t I (by rw[e];exact True.intro) hs ⟨q,hq⟩ ⟨hl,hd,_,(rel.put k eb rv).keeps fun c ys ec=>?_,q,es,ep,hq,h2,h3,h4,h5⟩
  rw[z0h (ne_of ec e (fun z=>nomatch z))]
  exact ec
end
section
variable {X:Cx}{pins:List (Addr×Obj)}{σ:St}{H:Hp}{s:Shared}{a:Addr}{kvs:List (Key×V)}{k:Key}{u:Value}{A:Around}{E:Value->Shared->Prop}
theorem d_pop {v:V}{more:List Value}{Q:Value->Shared->Prop}(I:Inv X pins σ H s)(e:H a=some (.dK kvs))(ry:RelV (kV k) u)(l:valV kvs k=some v)(hm:more=[]∨∃ x,more=[x])
 (h:∀ w' s',Inv X pins σ (upd H a (.dK (dropK kvs k))) s'->RelV v w'->Q w' s'):wpAny (model X.prog X.w) A (call (.builtin "dict.pop") (.ref a::u::more)) Q E s:=by
 obtain⟨z,hd,vs,rel,dd⟩:=dk_of I.hok e
 obtain⟨w',hw,rw'⟩:=RelO.some_of (v:=v) (o:=valueAt vs k) (by rw[←l];exact rel.val k)
 have hp:(keyPart u).isSome=true:=by
  cases k with
  | inl i=>obtain⟨t,q⟩:=(show ∃ t,u=Value.int i t from ry);subst q;rfl
  | inr x=>obtain⟨t,q⟩:=(show ∃ t,u=Value.str x t from ry);subst q;rfl
 have ha:argsOk "dict.pop" ⟨.ref a::u::more,[]⟩:=by
  rcases hm with q|⟨x,q⟩
  ·subst q;exact PySem.F.args_dict_pop_2 _ _
  ·subst q;exact PySem.F.args_dict_pop_3 _ _ _
 refine call_meetsIn PySem.F.slot_dict_pop dd.typeIs PySem.F.entry_dict_pop ha (meets_dict_pop_there (z1q X.prog X.w) a (kV_is ry) more hm hp)
  ⟨vs,w',dd,by rw[←rel.length];exact z,hw,fun h' dd' hs=>h w' _ ?_ rw'⟩
 have he:∃ q,h'.get? a=some q:=let ⟨q,_,_,hq,_⟩:=dd';⟨q,hq⟩
 exact y5t I (by rw[e];exact True.intro) hs he (x6t (Nat.le_trans (x8s kvs k) z) hd (rel.drop k) dd')
theorem w2w {r:Value}{Q:Value->Shared->Prop}(I:Inv X pins σ H s)(e:H a=some (.dK kvs))(ry:RelV (kV k) u)(l:valV kvs k=none)(h:∀ s',Inv X pins σ H s'->Q r s') :
 wpAny (model X.prog X.w) A (call (.builtin "dict.pop") [.ref a,u,r]) Q E s:=by
 obtain⟨z,hd,vs,rel,dd⟩:=dk_of I.hok e
 have hn:valueAt vs k=none:=RelO.none_of (by rw[←l];exact rel.val k)
 have hp:(keyPart u).isSome=true:=by
  cases k with
  | inl i=>obtain⟨t,q⟩:=(show ∃ t,u=Value.int i t from ry);subst q;rfl
  | inr x=>obtain⟨t,q⟩:=(show ∃ t,u=Value.str x t from ry);subst q;rfl
 exact call_meetsIn PySem.F.slot_dict_pop dd.typeIs PySem.F.entry_dict_pop (PySem.F.args_dict_pop_3 _ _ _) (meets_dict_pop_default (z1q X.prog X.w) a (kV_is ry) hd hp r) ⟨vs,dd,hn,h _ (I.tok _)⟩
end
def tDIn (ty td:TE):TE:=fun σ H Q=>ty σ H fun y H1=>td σ H1 fun x H2=>∃ a o,x=.ref a/\DGet H2 a y o/\Q (.bl o.isSome) H2
def x9y (ty td:TE):TE:=fun σ H Q=>ty σ H fun y H1=>td σ H1 fun x H2=>∃ a o,x=.ref a/\DGet H2 a y o/\Q (.bl (!o.isSome)) H2
def sDPut (td ty tv:TE):TS:=fun D σ H=>tv σ H fun v H1=>td σ H1 fun x H2=>ty σ H2 fun y H3=>∃ a H4,x=.ref a/\DPut H3 a y v H4/\D.nx σ H4
section
variable {X:Cx}{o i e value:Expr}{pos pos' tpos:Pos}{td ty tv:TE}
theorem x1b (hu:X.A.units+1<cLine)(hi:PE X i ty)(ho:PE X o td):PC X .In i o (tDIn ty td):=by
 intro pins s σ H Q I h
 refine thn (hi pins s σ H _ I h) fun iv s1 ⟨y,H1,I1,ry,q1⟩=>thn (ho pins s1 σ H1 _ I1 q1) fun u s2 ⟨x,H2,I2,rx,a,ov,ex,g,q2⟩=>?_
 subst ex
 obtain rfl:u=Value.ref a:=rx
 exact d_in hu I2 g ry fun s3 I3=>⟨.bl ov.isSome,H2,I3,rfl,q2⟩
theorem z6t (hu:X.A.units+1<cLine)(hi:PE X i ty)(ho:PE X o td):PC X .NotIn i o (x9y ty td):=by
 intro pins s σ H Q I h
 refine thn (hi pins s σ H _ I h) fun iv s1 ⟨y,H1,I1,ry,q1⟩=>thn (ho pins s1 σ H1 _ I1 q1) fun u s2 ⟨x,H2,I2,rx,a,ov,ex,g,q2⟩=>?_
 subst ex
 obtain rfl:u=Value.ref a:=rx
 exact w1f hu I2 g ry fun s3 I3=>⟨.bl (!ov.isSome),H2,I3,rfl,q2⟩
theorem y5a (hu:X.A.units+1<cLine)(ho:PE X o td)(hi:PE X i ty)(hv:PE X value tv)(hs:swapsWith value (some (.Subscript o i pos')) pos.line X.env=pure false) :
 PS X (.Assign [.Subscript o i pos'] value pos) (sDPut td ty tv):=by
 intro pins s σ H D I h
 refine wpAny_Assign_Subscript (thn (hv pins s σ H _ I h) fun r s1 ⟨v,H1,I1,rv,q1⟩=>thn (ho pins s1 σ H1 _ I1 q1) fun u s2 ⟨x,H2,I2,rx,q2⟩=>thn (hi pins s2 σ H2 _ I2 q2) fun iv s3 ⟨y,H3,I3,ry,a,H4,ex,g,q3⟩=>?_) hs
 subst ex
 obtain rfl:u=Value.ref a:=rx
 exact x6x hu I3 g ry rv fun s4 I4=>⟨σ,H4,I4,q3⟩
end
theorem x8t {P:Program}{w:World}{H:Hp}(h:Heap)(hb:sysModules<h.objs.size):ObjOk P w H (h.push { cls:=.type "dict",data:=.dict #[] }) h.objs.size (.dK []) :=
 ⟨Nat.zero_le _,beq_eq_false_iff_ne.mpr (Ne.symm (Nat.ne_of_lt hb)),[],.nil,Heap.DictOf.new h⟩
def w1v:TE:=fun _ H Q=>∀ p,H p=none->Q (.ref p) (upd H p (.dK []))
section
variable {X:Cx}{pos:Pos}
theorem z9p:PE X (.Dict [] [] pos) w1v:=fun pins s σ H Q I h =>
 wpAny_Dict_empty ⟨.ref s.heap.objs.size,_,I.laid (a:=s.heap.objs.size) (o:=.dK []) (t':=s.toks) (fun _ _ q=>Heap.get?_push_of_some _ q) (Nat.le_refl _) (x8t s.heap I.big),rfl,h _ (I.hok.fresh (Nat.le_refl _))⟩
end
structure M1 (X:Cx)(o:Expr)(m:Str)(apos:Pos)(e:Expr)(cpos:Pos):Prop where
 base:attributeBase o m X.env (eval o X.env)=eval o X.env
 few:((backTo cpos (starEach [e] X.env)).all (fun x=>!x.1)&&(backToKw cpos (keywordEach [] X.env)).all (fun x=>x.1.isSome)
  && decide (([e]:List Expr).length+([]:List Keyword).length+(if ([]:List Keyword).isEmpty then 0 else 1)<30))=true
 line:(apos.endLine==cpos.line)=true
 trees:backTo cpos (starEach [e] X.env)=[(false,eval e X.env)]
structure M2 (X:Cx)(o:Expr)(m:Str)(apos:Pos)(e f:Expr)(cpos:Pos):Prop where
 base:attributeBase o m X.env (eval o X.env)=eval o X.env
 few:((backTo cpos (starEach [e,f] X.env)).all (fun x=>!x.1)&&(backToKw cpos (keywordEach [] X.env)).all (fun x=>x.1.isSome)
  && decide (([e,f]:List Expr).length+([]:List Keyword).length+(if ([]:List Keyword).isEmpty then 0 else 1)<30))=true
 line:(apos.endLine==cpos.line)=true
 trees:backTo cpos (starEach [e,f] X.env)=[(false,eval e X.env),(false,eval f X.env)]
def IsD (H:Hp)(a:Addr):Prop:=(∃ kvs,Rd H a (.dK kvs))∨∃ kvs,Rd H a (.dT kvs)
theorem x1m {X:Cx}{pins:List (Addr×Obj)}{σ:St}{H:Hp}{s:Shared}{a:Addr}(I:Inv X pins σ H s)(d:IsD H a) :
 s.TypeIs (.ref a) "dict"/\(∀ b,Value.ref a=.ref b->∃ ob,s.heap.get? b=some ob/\ob.dict=none)/\(a==sysModules)=false:=by
 rcases d with ⟨kvs,e⟩|⟨kvs,e⟩
 ·obtain⟨_,hd,vs,_,dd⟩:=dk_rd I.hok e
  refine⟨dd.typeIs,fun b q=>?_,hd⟩
  cases q
  obtain⟨ob,_,_,h1,h2,_⟩:=dd
  exact⟨ob,h1,h2.2.1⟩
 ·obtain⟨_,hd,xs,_,dd⟩:=dt_rd I.hok e
  refine⟨dd.typeIs,fun b q=>?_,hd⟩
  cases q
  obtain⟨ob,_,_,h1,h2,_⟩:=dd
  exact⟨ob,h1,h2.2.1⟩
section
variable {X:Cx}{pins:List (Addr×Obj)}{σ:St}{H:Hp}{s:Shared}{a:Addr}{y d:V}{u r:Value}{o:Option V}{A:Around}{E:Value->Shared->Prop}
theorem w2x {Q:Value->Shared->Prop}(hu:A.units+1<cLine)(I:Inv X pins σ H s)(g:DGet H a y o)(ry:RelV y u)(rd:RelV d r)(h:∀ w' s',Inv X pins σ H s'->RelV (o.getD d) w'->Q w' s') :
 wpAny (model X.prog X.w) A (call (.builtin "dict.get") [.ref a,u,r]) Q E s:=by
 rcases g with ⟨kvs,k,e,ey,l⟩|⟨kvs,k,b,e,ey,eb,l⟩
 ·subst ey
  obtain⟨z,hd,vs,rel,dd⟩:=dk_rd I.hok e
  refine call_meetsIn PySem.F.slot_dict_get dd.typeIs PySem.F.entry_dict_get (PySem.F.args_dict_get_3 _ _ _) (meets_dict_get_default (z1q X.prog X.w) a (kV_is ry) hd r) ⟨_,dd.mapOf,h _ _ (I.tok _) ?_⟩
  rw[l]
  exact (rel.val k).getD rd
 ·subst ey
  cases (show u=Value.ref b from ry)
  obtain⟨z,hd,xs,rel,dd⟩:=dt_rd I.hok e
  refine call_meetsIn PySem.F.slot_dict_get dd.typeIs PySem.F.entry_dict_get (PySem.F.args_dict_get_3 _ _ _) (meetsH_dict_get_default (tupleKind (z1q X.prog X.w)) a b hd r) ⟨tupleKind_room_in1 hu,k,xs,y7r I.hok eb,dd,h _ _ (I.tok _) ?_⟩
  rw[l]
  exact (rel.val k).getD rd
end
def w1w (td ty tx:TE):TE:=fun σ H Q=>td σ H fun x H1=>∃ a,x=.ref a/\IsD H1 a/\ty σ H1 fun y H2=>tx σ H2 fun z H3=>∃ o,DGet H3 a y o/\Q (o.getD z) H3
def w1u (td ty:TE):TE:=fun σ H Q=>td σ H fun x H1=>∃ a,x=.ref a/\IsD H1 a/\ty σ H1 fun y H2=>∃ kvs k v,H2 a=some (.dK kvs)/\y=kV k/\valV kvs k=some v/\Q v (upd H2 a (.dK (dropK kvs k)))
def w1t (td ty tx:TE):TE:=fun σ H Q=>td σ H fun x H1=>∃ a,x=.ref a/\IsD H1 a/\ty σ H1 fun y H2=>tx σ H2 fun z H3=>∃ kvs k,H3 a=some (.dK kvs)/\y=kV k /\
 (∀ v,valV kvs k=some v->Q v (upd H3 a (.dK (dropK kvs k))))/\(valV kvs k=none->Q z H3)
section
variable {X:Cx}{o e f:Expr}{apos cpos:Pos}{td ty tx:TE}
theorem x1a (hu:X.A.units+1<cLine)(ho:PE X o td)(he:PE X e ty)(hf:PE X f tx)(m:M2 X o "get" apos e f cpos):PE X (.Call (.Attribute o "get" apos) [e,f] [] cpos) (w1w td ty tx):=by
 intro pins s σ H Q I h
 refine wpAny_Call_method m.base m.few m.line PySem.F.plainAttrs_dict PySem.F.slot_dict_get PySem.F.type_dict_get (thn (ho pins s σ H _ I h) fun u s1 ⟨x,H1,I1,rx,a,ex,d,q1⟩=>?_)
 subst ex
 obtain rfl:u=Value.ref a:=rx
 obtain⟨t1,t2,_⟩:=x1m I1 d
 refine⟨t1,t2,?_⟩
 rw[m.trees]
 refine Calls.callWith_builtin rfl (Calls.evalArgs_plain (Calls.spliced_cons (thn (he pins s1 σ H1 _ I1 q1) fun iv s2 ⟨y,H2,I2,ry,q2⟩ =>
  Calls.spliced_cons (thn (hf pins s2 σ H2 _ I2 q2) fun fv s3 ⟨z,H3,I3,rz,ov,g,q3⟩=>Calls.spliced_nil ?_))))
 exact w2x hu I3 g ry rz fun w' s4 I4 rw'=>⟨_,H3,I4,rw',q3⟩
theorem x7u (ho:PE X o td)(he:PE X e ty)(m:M1 X o "pop" apos e cpos):PE X (.Call (.Attribute o "pop" apos) [e] [] cpos) (w1u td ty):=by
 intro pins s σ H Q I h
 refine wpAny_Call_method m.base m.few m.line PySem.F.plainAttrs_dict PySem.F.slot_dict_pop PySem.F.type_dict_pop (thn (ho pins s σ H _ I h) fun u s1 ⟨x,H1,I1,rx,a,ex,d,q1⟩=>?_)
 subst ex
 obtain rfl:u=Value.ref a:=rx
 obtain⟨t1,t2,_⟩:=x1m I1 d
 refine⟨t1,t2,?_⟩
 rw[m.trees]
 refine Calls.callWith_builtin rfl (Calls.evalArgs_plain (Calls.spliced_cons (thn (he pins s1 σ H1 _ I1 q1) fun iv s2 ⟨y,H2,I2,ry,kvs,k,v,ea,ey,l,q2⟩=>Calls.spliced_nil ?_)))
 subst ey
 exact d_pop I2 ea ry l (.inl rfl) fun w' s3 I3 rw'=>⟨v,_,I3,rw',q2⟩
theorem x0z (ho:PE X o td)(he:PE X e ty)(hf:PE X f tx)(m:M2 X o "pop" apos e f cpos):PE X (.Call (.Attribute o "pop" apos) [e,f] [] cpos) (w1t td ty tx):=by
 intro pins s σ H Q I h
 refine wpAny_Call_method m.base m.few m.line PySem.F.plainAttrs_dict PySem.F.slot_dict_pop PySem.F.type_dict_pop (thn (ho pins s σ H _ I h) fun u s1 ⟨x,H1,I1,rx,a,ex,d,q1⟩=>?_)
 subst ex
 obtain rfl:u=Value.ref a:=rx
 obtain⟨t1,t2,_⟩:=x1m I1 d
 refine⟨t1,t2,?_⟩
 rw[m.trees]
 refine Calls.callWith_builtin rfl (Calls.evalArgs_plain (Calls.spliced_cons (thn (he pins s1 σ H1 _ I1 q1) fun iv s2 ⟨y,H2,I2,ry,q2⟩ =>
  Calls.spliced_cons (thn (hf pins s2 σ H2 _ I2 q2) fun fv s3 ⟨z,H3,I3,rz,kvs,k,ea,ey,q3,q4⟩=>Calls.spliced_nil ?_))))
 subst ey
 cases l:valV kvs k with
 | some v=>exact d_pop I3 ea ry l (.inr ⟨fv,rfl⟩) fun w' s4 I4 rw'=>⟨v,_,I4,rw',q3 v l⟩
 | none=>exact w2w I3 ea ry l fun s4 I4=>⟨z,H3,I4,rz,q4 l⟩
end
section
variable {X:Cx}{pins:List (Addr×Obj)}{σ:St}{H:Hp}{s:Shared}{a:Addr}{kvs:List (Key×V)}{A:Around}{E:Value->Shared->Prop}
end
section
variable {X:Cx}{pins:List (Addr×Obj)}{σ:St}{H:Hp}{s:Shared}{a:Addr}{y:V}{u:Value}{A:Around}{E:Value->Shared->Prop}
end
end L2
namespace Att
open PySem PySem.W PySem.Calls PyProof.Rows
theorem y2u {P:Params}{h:Heap}:∀ (ns:List Int)(vs:List Value),WellAll P h vs (ns.map WData.int)->IntsAre vs ns:=by
 intro ns
 induction ns with
 | nil =>
  intro vs w
  rw[List.map_nil]at w
  cases w
  exact .nil
 | cons n ns ih =>
  intro vs w
  rw[List.map_cons]at w
  cases w with
  | cons a b =>
   cases a
   exact .cons _ _ (ih _ b)
theorem x4d {l:OpenLaw}{n:Nat}(hn:l.most=some n){P:Params}{h:Heap}{args:List WData}{vals:List Value}
 (hpre:l.row.toRowW.claim.pre args=true) (hwl:WellAll P h vals args) :
 ∃ a vs ns,vals=[Value.ref a]/\args=[WData.list (ns.map WData.int)]/\h.get? a=some { cls:=.type "list",data:=.seq vs.toArray }/\IntsAre vs ns/\ns.length<=n:=by
 have hsh:WShape.hasAll [] args [.list .int]=true:=(pre_splitW hpre).1
 have hc:l.pre.holds [] { args:=args }=true:=(pre_splitW hpre).2
 obtain⟨d,r,rfl,h1,h2⟩:=hasAllW_cons hsh
 obtain rfl:=hasAllW_nil h2
 obtain⟨xs,rfl,h3⟩:=hasW_list h1
 obtain⟨ns,rfl⟩:=items_int h3
 have hlen:ns.length<=n:=by
  unfold OpenLaw.pre at hc
  have h4:(WTm.not (.lt (.lit (.int (n:Int))) (.len (.arg 0)))).holds [] { args:=[.list (ns.map .int)] }=true:=by
   have h4:=(holds_andW hc).1
   rw[hn]at h4
   exact h4
  have h5:=condW_of h4 (w_not (w_lt w_lit (w_len_list (w_arg rfl))))
  rw[List.length_map]at h5
  refine Nat.le_of_not_lt fun q=>?_
  have q':(n:Int)<((ns.length:Nat):Int):=by omega
  first
   | (rw[decide_eq_true q']at h5;exact absurd h5 (by decide))
   | (simp at h5;omega)
 cases hwl with
 | cons w1 w2 =>
  cases w2
  cases w1 with
  | list ho hall=>exact⟨_,_,ns,rfl,rfl,ho,y2u ns _ hall,hlen⟩
theorem x4m (l:OpenLaw)(args:List WData):l.row.toRowW.claim.post args (.bool true) args=true :=
 postW_of (r:=l.row.toRowW) (X:=(true==true))
  (show WShape.has [] (.bool true) .bool=true by first | rfl | decide | simp[WShape.has,WShape.arms,WShape.armsAll])
  (show (WTm.eq .res (.lit (.bool true))).value [] { args:=args,res:=some (.bool true),after:=args }=some (.bool (true==true)) from w_eq_bool (w_res rfl) w_lit) rfl
theorem attach_call {l:OpenLaw}{n:Nat}{q:Program}{loose:List Str}{XP:(Str->Option Value)->Heap->Prop}{YP:World->Heap->Prop}{d:DefRec}
 (hn:l.most=some n) (hdf:d.params.defaults=[])
 (call:∀ (w:World) (s₀ s₁:Shared) (mg mb:Str->Option Value) (fa:Addr) (o:Obj) (pm cd doc:Value) (a:Addr) (vs:List Value) (ns:List Int),
  Ground q loose [] XP w s₀ mg mb s₁.heap->YP w s₁.heap ->
  s₁.heap.get? fa=some o->o.data=.func (docDef d.name d.params d.body d.scope pm cd doc)->s₁.heap.CodeRec cd d.name->mg d.name=some (.ref fa) ->
  s₁.heap.get? a=some { cls:=.type "list",data:=.seq vs.toArray }->IntsAre vs ns->ns.length<=n->s₁.gens=#[] ->
  codeAny (model l.prog w) callerA (.call (.ref fa) ⟨[.ref a],[]⟩) (fun r s'=>r=.ok (.ret (.bool true))/\OldK s₁.heap s'.heap/\s'.os=s₁.os/\AllBare s'.gens) s₁) :
 WalkO q loose XP YP l.row.toRowW d [] (fun f vs=>PySem.call f vs):=by
 intro w s₀ s₁ mg mb G Y fa o pm cd doc dV kV ho hd hcd hD hmg hg args vals as hpre hlay hrd hwl hlo
 obtain rfl:dV=.none:=Dflts.none hD hdf
 obtain rfl:kV=.none:=Dflts.noKw hD
 obtain⟨a,vs,ns,rfl,rfl,hobj,hints,hlen⟩:=x4d hn hpre hwl
 refine enter_call (codeAny_mono (call w s₀ s₁ mg mb fa o pm cd doc a vs ns G Y ho (fd_plain hd) hcd hmg hobj hints hlen hg) fun r s' hq=>?_)
 obtain⟨rfl,h2,h3,h4⟩:=hq
 exact⟨.inl ⟨.bool true,.bool true,[],rfl,fun _=>rfl,.bool true,x4m l _,fun _=>⟨List.Pairwise.nil,fun _ hm=>(nomatch hm)⟩⟩,h2,h3,h4⟩
section
variable {prog:Program}{w:World}{A:Around}{E:Value->Shared->Prop}{s:Shared}{K:Frag}
end
end Att
namespace L2
open PySem PySem.Spec PyProof.Rows
theorem y1v:∀ {vs:List Value}{ns:List Int},IntsAre vs ns->Vals (ns.map V.int) vs
 | _,_,.nil=>.nil
 | _,_,.cons n t h=>.cons ⟨t,rfl⟩ (y1v h)
def Only (H:Hp):Prop:=∀ b,H b=none∨∃ o xs,H b=some (.frz o (.lst xs))
theorem x8i {P:Program}{w:World}{K:W.Frag}{mg mb:Str->Option Value}{CX:CXT}{k:Nat}{fa a:Addr}{fd:FuncData}{x:Str}{sp:Sp}{s₁:Shared}{vs:List Value}{ns:List Int}
 (KX:K.In s₁.heap) (hns:s₁.heap.Ns mainGlobals mg) (hb:s₁.heap.Ns builtinsNs mb) (hbb:∀ x:Str,x≠"__name__"->mb x=bootBuiltins x) (hlim:s₁.heap.NoLimit) (hg:s₁.gens=#[])
 (ha:s₁.heap.get? a=some { cls:=.type "list",data:=.seq vs.toArray }) (hi:IntsAre vs ns) (hl:ns.length<=sizeLine) (hr:Room k callerA)
 (F:∀ base:Heap,K.In base->base.Ns mainGlobals mg->FnOk P w K mg base CX k fa fd [x] sp) (hbind:∀ (s:Shared) (u:Value),BindsTo s fd ⟨[u],[]⟩ [(x,u)])
 (hsp:∀ H:Hp,Only H->SqL K H a (ns.map V.int)->sp [.ref a] H (fun v _=>v=.bl true) fun _ _ _=>False)
 (hCX:∀ H e s',CX [] H s₁ (fun _ _ _=>False) e s'->False) :
 codeAny (model P w) callerA (.call (.ref fa) ⟨[.ref a],[]⟩) (fun r s'=>r=.ok (.ret (.bool true))/\OldK s₁.heap s'.heap/\s'.os=s₁.os/\AllBare s'.gens) s₁:=by
 have rv:=y1v hi
 have lenV:=hi.length
 have core:∀ H:Hp,Only H->SqL K H a (ns.map V.int)->HOk P w H s₁.heap->(∀ b,H b≠none->b=a)->(H a≠none->K.lookup a=none) ->
  codeAny (model P w) callerA (.call (.ref fa) ⟨[.ref a],[]⟩) (fun r s'=>r=.ok (.ret (.bool true))/\OldK s₁.heap s'.heap/\s'.os=s₁.os/\AllBare s'.gens) s₁:=by
  intro H hO hS hok hA hK
  have base_of:∀ {b:Addr} {o:Obj},s₁.heap.get? b=some o->H b=none->(hidT s₁.heap H).get? b=some o:=fun e n=>x8k e n
  have noA:∀ {b:Addr} {o:Obj} {es:Array DictEntry} {ep:Nat},s₁.heap.get? b=some o->o.data=.dict es ep->H b=none:=fun {b o es ep} e d=>by
   cases q:H b with
   | none=>rfl
   | some u =>
    have e':b=a:=hA b (by rw[q];simp)
    subst e'
    rw[ha]at e;cases e
    have d':Data.seq vs.toArray _=Data.dict es ep:=d
    cases d'
  have nsK:∀ {b:Addr} {m:Str->Option Value},s₁.heap.Ns b m->(hidT s₁.heap H).Ns b m:=fun {b m} ⟨o,es,ep,e,d,r⟩=>⟨o,es,ep,base_of e (noA e d),d,r⟩
  have hKb:K.In (hidT s₁.heap H):=fun b o e=>base_of (KX b o e) (by
   cases q:H b with
   | none=>rfl
   | some u =>
    have e':b=a:=hA b (by rw[q];simp)
    subst e'
    rw[hK (by rw[q];simp)]at e;cases e)
  have hM:Mod K mg (hidT s₁.heap H):=⟨hKb,nsK hns,⟨mb,nsK hb,hbb⟩,let ⟨mc,h1,h2⟩:=hlim;⟨mc,nsK h1,h2⟩⟩
  have e0:Env0 P w K mg (hidT s₁.heap H) callerA [] s₁ H:=⟨rfl,hM,fun b o e=>w0r e,Nat.le_of_eq (x6h _ _),trivial,fun b hb=>absurd (show b∈([]:List Addr) from hb) (by simp),hok,.of_eq hg⟩
  refine codeAny_mono ((F _ hKb (nsK hns)).run callerA [] s₁ H ⟨[.ref a],[]⟩ [.ref a] [.ref a] _ _ hr e0 (hbind s₁ (.ref a)) (.cons rfl .nil) (hsp H hO hS)) fun r s' h=>?_
  cases r with
  | error e=>exact (hCX H e s' h).elim
  | ok fl =>
   cases fl with
   | next=>exact False.elim h
   | brk=>exact False.elim h
   | cont=>exact False.elim h
   | ret u =>
    obtain⟨v,H',os,bare,un,hok',r',q⟩:=h
    have q':v=.bl true:=q
    subst q'
    obtain rfl:u=Value.bool true:=r'
    refine⟨rfl,OldK.of_keep fun b o e=>?_,os,bare⟩
    cases q:H b with
    | none=>exact un.keep b o e q (by intro z;exact absurd (show b∈([]:List Addr) from z) (by simp)) (by simp)
    | some u =>
     rcases hO b with z|⟨ob,xs,z⟩
     ·rw[q]at z;cases z
     ·have z2:=un.frzs b ob _ z
      obtain⟨e1,_⟩:=hok b _ z
      obtain⟨e2,_⟩:=hok' b _ z2
      rw[e]at e1;cases e1
      exact e2
 cases hk:K.lookup a with
 | some o =>
  have e:=KX a o hk
  rw[ha]at e
  cases e
  refine core (fun _=>none) (fun _=>.inl rfl) (.inr ⟨_,vs.toArray,_,hk,rfl,rfl,rfl,by rw[List.size_toArray,lenV];exact hl,by simpa using rv⟩) (fun b u z=>by have z':(none:Option HO)=some u:=z;cases z') (fun b z=>absurd rfl z) fun z=>absurd rfl z
 | none =>
  refine core (fun b=>if b=a then some (.frz { cls:=.type "list",data:=.seq vs.toArray } (.lst (ns.map V.int))) else none) (fun b=>?_) (.inl (.inr ⟨{ cls:=.type "list",data:=.seq vs.toArray },if_pos rfl⟩)) (fun b u z=>?_) (fun b z=>?_) fun _=>hk
  ·by_cases hb:b=a
   ·exact .inr ⟨_,_,if_pos hb⟩
   ·exact .inl (if_neg hb)
  ·by_cases hb:b=a
   ·have z':=(if_pos hb).symm.trans z
    cases z'
    subst hb
    exact⟨ha,by rw[List.length_map];exact hl,vs,_,rv,ha⟩
   ·have z':=(if_neg hb).symm.trans z
    cases z'
  ·by_cases hb:b=a
   ·exact hb
   ·exact absurd (if_neg hb) z
end L2
namespace L2
open PySem PySem.Spec PyProof.Rows
theorem walk_of {l:PySem.W.OpenLaw}{n k:Nat}{q:Program}{loose:List Str}{XP:(Str->Option Value)->Heap->Prop}{YP:World->Heap->Prop}{d:DefRec}{K:Params->PySem.W.Frag}{CX:World->CXT}{sp:World->Sp}{x:Str}
 (hn:l.most=some n) (hn2:n<=sizeLine) (hdf:d.params.defaults=[]) (hr:Room k callerA)
 (hY:∀ (w:World) (h:Heap),YP w h->(K w.params).In h)
 (F:∀ (w:World) (mg:Str->Option Value) (fa:Addr) (h:Heap),(K w.params).In h->h.Ns mainGlobals mg->mg d.name=some (.ref fa) ->
  ∃ fd:FuncData,(∀ (s:Shared) (u:Value),BindsTo s fd ⟨[u],[]⟩ [(x,u)]) /\
   ∀ base:Heap,(K w.params).In base->base.Ns mainGlobals mg->FnOk l.prog w (K w.params) mg base (CX w) k fa fd [x] (sp w))
 (hsp:∀ (w:World) (H:Hp) (a:Addr) (ns:List Int),ns.length<=n->Only H->SqL (K w.params) H a (ns.map V.int)->sp w [.ref a] H (fun v _=>v=.bl true) fun _ _ _=>False)
 (hCX:∀ (w:World) (H:Hp) (s:Shared) (e:Value) (s':Shared),CX w [] H s (fun _ _ _=>False) e s'->False) :
 PySem.W.WalkO q loose XP YP l.row.toRowW d [] (fun f vs=>PySem.call f vs):=by
 refine Att.attach_call hn hdf fun w s₀ s₁ mg mb fa o pm cd doc a vs ns G Y ho hd hcd hmg hobj hints hlen hg=>?_
 have KX:=hY w _ Y
 obtain⟨fd,hb,hF⟩:=F w mg fa _ KX G.T.g hmg
 exact x8i KX G.T.g G.T.b G.T.builtins G.T.nolimit hg hobj hints (Nat.le_trans hlen hn2) hr hF hb (fun H hO hS=>hsp w H a ns hlen hO hS) fun H e s'=>hCX w H s₁ e s'
end L2
namespace L2
open PySem PySem.Spec PyProof.Rows
abbrev CX0:CXT:=fun _ _ _ _ _ _=>False
abbrev E0:XK:=fun _ _ _=>False
theorem pass0 {X:Cx}:y3m CX0 X E0:=fun _ _ _ _ _ _ _ h=>h.elim
structure Fun (K:W.Frag)(x qual:Str)(st:Stmt)(f:Addr)(fd:FuncData):Prop where
 ex:∃ (oc:Value) (od:Option Addr) (kV doc pm:Value) (an:Option Addr) (cdv ct:Value) (osl:Array (Option Value)),
  fd=PySem.W.fnOf x qual (z0r st) (z0m st) (z0g st) .none kV doc pm an cdv ct/\K.lookup f=some ⟨oc,od,.func fd,osl⟩/\PySem.W.codeIn K cdv qual=true
 kp:PySem.W.keepIn K (.ref f)=true
section
variable {P:Program}{w:World}{K:W.Frag}{mg:Str->Option Value}{base:Heap}
theorem Fun.ok {x qual:Str}{st:Stmt}{f:Addr}{fd:FuncData}{N ps:List Str}{k:Nat}{sp:Sp}(F:Fun K x qual st f fd)(S:FnScope N ps (z0g st))(len:∀ vs H Q E,sp vs H Q E->vs.length=ps.length)
 (hbody:∀ (cdv:Value) (A:Around) (outer:List Env) (s:Shared) (H:Hp) (vs:List V) (Q:VK) (E:XK),Room k (A.deeper (envOfC qual (z0g st) s.heap.objs.size f cdv))->sp vs H Q E ->
  ∃ t,PSs (cxOf CX0 P w K mg base N qual (z0g st) f cdv A outer s H E).nox (z0m st) t/\t { nx:=fun _ H'=>Q .non H',rt:=Q } (start N vs) H):FnOk P w K mg base CX0 (k+1) f fd ps sp:=by
 obtain⟨oc,od,kV,doc,pm,an,cdv,ct,osl,rfl,lk,hcd⟩:=F.ex
 refine fn_of lk hcd S len fun A outer s H vs Q E hr hsp=>?_
 obtain⟨t,h,q⟩:=hbody cdv A outer s H vs Q E hr hsp
 exact⟨t,h.nox,q⟩
theorem Fun.binds {x qual:Str}{st:Stmt}{f:Addr}{fd:FuncData}{ps:List Str}(F:Fun K x qual st f fd)
 (h:∀ (kV doc pm:Value) (an:Option Addr) (cdv ct:Value) (us:List Value),us.length=ps.length->bindArgs (PySem.W.fnOf x qual (z0r st) (z0m st) (z0g st) .none kV doc pm an cdv ct) ⟨us,[]⟩=pure (ps.zip us)):Binds K fd ps []:=by
 obtain⟨oc,od,kV,doc,pm,an,cdv,ct,osl,rfl,lk,hcd⟩:=F.ex
 exact .all (h kV doc pm an cdv ct)
theorem y7t {x qual:Str}{st:Stmt}{f:Addr}{oc:Value}{od an:Option Addr}{osl:Array (Option Value)}{kV doc pm cdv ct:Value}(l:K.lookup f=some ⟨oc,od,.func (PySem.W.fnOf x qual (z0r st) (z0m st) (z0g st) .none kV doc pm an cdv ct),osl⟩)
 (c:PySem.W.codeIn K cdv qual=true) (k:PySem.W.keepIn K (.ref f)=true):Fun K x qual st f (PySem.W.fnOf x qual (z0r st) (z0m st) (z0g st) .none kV doc pm an cdv ct):=⟨⟨oc,od,kV,doc,pm,an,cdv,ct,osl,rfl,l,c⟩,k⟩
end
theorem hu_of {A:Around}{k:Nat}(hr:Room k A):A.units+1<cLine:=Nat.lt_of_le_of_lt (Nat.add_le_add_left (by decide:1<=64) _) hr.units
section
variable {X:Cx}
theorem pv (i:Nat){x:Str}{pos:Pos}(hN:X.N[i]?=some x:=by rfl) (hv:Vis X.env.scope x:=by first | exact Or.inl rfl | exact Or.inr (Or.inl rfl) | exact Or.inr (Or.inr rfl)) (hd:(x==("__debug__" : Str))=false:=by decide)
 (hcd:(x==("__classdict__" : Str))=false:=by decide):PE X (.Name x pos) (tVar i):=w2c hN hv hd hcd
end
theorem iteF {A B:Prop}(h:B):if false=true then A else B:=by
 rw[if_neg Bool.false_ne_true]
 exact h
theorem iteT {A B:Prop}(h:A):if true=true then A else B:=by
 rw[if_pos rfl]
 exact h
theorem ite2 {c A B:Prop} [Decidable c](h1:c->A)(h2:¬ c->B):if c then A else B:=by
 by_cases h:c
 ·rw[if_pos h]
  exact h1 h
 ·rw[if_neg h]
  exact h2 h
theorem iteNS {c A B:Prop} [Decidable c](hc:c)(h:B):if (!decide c)=true then A else B:=by
 rw[decide_eq_true hc]
 exact iteF h
def Same (H H':Hp):Prop:=∀ b o,H b=some o->H' b=some o
theorem smR (H:Hp):Same H H:=fun _ _ h=>h
theorem Same.trans {H H1 H2:Hp}(a:Same H H1)(b:Same H1 H2):Same H H2:=fun c o h=>b c o (a c o h)
theorem Same.free {H H':Hp}(e:Same H H'){l:Addr}(h:H' l=Option.none):H l=Option.none:=by
 cases q:H l with
 | none=>rfl
 | some o =>
  rw[e l o q]at h
  cases h
theorem Same.seq {K:W.Frag}{H H':Hp}{a:Addr}{xs:List V}(e:Same H H')(h:SqL K H a xs):SqL K H' a xs:=by
 rcases h with (h|⟨o,h⟩) | h
 ·exact .inl (.inl (e _ _ h))
 ·exact .inl (.inr ⟨o,e _ _ h⟩)
 ·exact .inr h
end L2
namespace L2
open PySem PySem.Spec PyProof.Rows
section
variable {X:Cx}
end
section
variable {κ:Type} [DecidableEq κ]
end
end L2
namespace L2
open PySem PySem.Spec PyProof.Rows
theorem y7g {a b:Nat}(h:a<b∨b<a):a≠b:=by omega
theorem y7p {a b c:Nat}(h:a<b)(h':b<=c):a<c:=by omega
def drawn (env:Env):List (Str×NameKind)->List (Str×Addr)->List (Str×Addr)
 | [],cs=>cs
 | (n,k)::r,cs=>if k=.free then (match env.cells.lookup n with|some c=>drawn env r ((n,c)::cs) | none=>drawn env r cs) else drawn env r cs
theorem z9z {scope:Scope}{env:Env}(h:∀ x∈scope.names,x.2=.free->∃ c,env.cells.lookup x.1=some c):closureFor scope env=pure (drawn env scope.names []):=by
 simp only[closureFor]
 have go:∀ (names:List (Str×NameKind)) (cs:List (Str×Addr)),(∀ x∈names,x.2=.free->∃ c,env.cells.lookup x.1=some c) ->
  (forIn names cs (fun (x:Str×NameKind) (r:List (Str×Addr)) =>
   if (x.snd==NameKind.free)=true then do
    let c ←cellOf env x.fst
    pure (ForInStep.yield ((x.fst,c)::r))
   else pure (ForInStep.yield r)):Sem (List (Str×Addr)))=pure (drawn env names cs):=by
  intro names
  induction names with
  | nil=>intro cs _;rfl
  | cons x r ih =>
   intro cs hx
   obtain⟨n,k⟩:=x
   rw[List.forIn_cons]
   have hr:=fun y hy=>hx y (List.mem_cons_of_mem _ hy)
   by_cases hk:k=.free
   ·subst hk
    obtain⟨c,hc⟩:=hx (n,.free) List.mem_cons_self rfl
    have hc':env.cells.lookup n=some c:=hc
    have e1:cellOf env n=pure c:=by unfold cellOf;rw[hc']
    simp only[beq_self_eq_true,if_true,e1,pure_bind]
    rw[ih _ hr]
    show _=pure (if NameKind.free=.free then _ else _)
    rw[if_pos rfl,hc']
   ·have hb:(k==NameKind.free)=false:=by simpa using hk
    simp only[hb,Bool.false_eq_true,if_false,pure_bind]
    rw[ih _ hr]
    show _=pure (if k=.free then _ else _)
    rw[if_neg hk]
 rw[go _ _ h]
 rfl
theorem z9w {env:Env}:∀ (names:List (Str×NameKind))(cs:List (Str×Addr)),(∀ x c,cs.lookup x=some c->env.cells.lookup x=some c)->∀ x c,(drawn env names cs).lookup x=some c->env.cells.lookup x=some c
 | [],_,h=>h
 | (n,k)::r,cs,h=>by
  unfold drawn
  split
  ·split
   ·rename_i c hc
    refine z9w r _ fun x c' e=>?_
    rw[List.lookup_cons]at e
    split at e
    ·rename_i hb
     have:x=n:=by simpa using hb
     subst this
     cases e;exact hc
    ·exact h x c' e
   ·exact z9w r cs h
  ·exact z9w r cs h
theorem z8t {env:Env}:∀ (names:List (Str×NameKind))(cs:List (Str×Addr))(x:Str),(∃ c,cs.lookup x=some c)->∃ c,(drawn env names cs).lookup x=some c
 | [],_,_,h=>h
 | (n,k)::r,cs,x,h=>by
  unfold drawn
  split
  ·split
   ·rename_i c hc
    refine z8t r _ x ?_
    rw[List.lookup_cons]
    split
    ·exact⟨_,rfl⟩
    ·exact h
   ·exact z8t r cs x h
  ·exact z8t r cs x h
theorem z9y {env:Env}:∀ (names:List (Str×NameKind))(cs:List (Str×Addr))(x:Str),(x,NameKind.free)∈names->(∃ c,env.cells.lookup x=some c)->∃ c,(drawn env names cs).lookup x=some c
 | [],_,_,h,_=>nomatch h
 | (n,k)::r,cs,x,hm,h=>by
  unfold drawn
  rcases List.mem_cons.mp hm with e|hm'
  ·cases e
   rw[if_pos rfl]
   obtain⟨c,hc⟩:=h
   rw[hc]
   refine z8t r _ _ ⟨c,?_⟩
   rw[List.lookup_cons];simp
  ·split
   ·split
    ·exact z9y r _ x hm' h
    ·exact z9y r _ x hm' h
   ·exact z9y r _ x hm' h
theorem z6j {env:Env}:∀ (names:List (Str×NameKind))(x:Str)(k:NameKind),(names.map fun (n,k)=>if (k==NameKind.free&&env.scope.kind == .function&&env.kindOf n==some .cell) then (n,NameKind.cell) else (n,k)).lookup x=some k ->
 (k=.cell∨k=.free)->(∀ y∈names,y.2≠.cell)->(x,NameKind.free)∈names
 | [],_,_,h,_,_=>by simp at h
 | (n,k')::r,x,k,h,hk,hc=>by
  rw[List.map_cons,List.lookup_cons]at h
  by_cases hh:(k'==NameKind.free&&env.scope.kind == .function&&env.kindOf n==some .cell)=true
  ·simp only[hh,if_true]at h
   split at h
   ·rename_i hb
    have:x=n:=by simpa using hb
    subst this
    simp only[Bool.and_eq_true,beq_iff_eq]at hh
    rw[hh.1.1];exact List.mem_cons_self
   ·exact List.mem_cons_of_mem _ (z6j r x k h hk fun y hy=>hc y (List.mem_cons_of_mem _ hy))
  ·simp only[hh,Bool.false_eq_true,if_false]at h
   split at h
   ·rename_i hb
    have:x=n:=by simpa using hb
    subst this
    cases h
    rcases hk with e|e
    ·exact absurd e (hc _ List.mem_cons_self)
    ·rw[e];exact List.mem_cons_self
   ·exact List.mem_cons_of_mem _ (z6j r x k h hk fun y hy=>hc y (List.mem_cons_of_mem _ hy))
section
variable {prog:Program}{w:World}{A:Around}{R:Result->Shared->Prop}{s:Shared}
theorem y8d {elt target iter:Expr}{ifs:List Expr}{scope:Scope}{pos:Pos}{it acc:Value}{env:Env}(I:Nat->Shared->Prop)
 (turn:∀ n s,I n s->wpAny (model prog w) A (pyNext it) (fun r s₁=>match r with
  | none=>R (.ok .next) s₁
  | some v=>wpAny (model prog w) A (letOwnedTupleGo target it v) (fun _ s₁'=>wpAny (model prog w) A (assign target env v) (fun _ s₂ =>
   wpAny (model prog w) A (forIn ifs true fun c r=>if r=true then do let ok ←isTrue c env (eval c env);pure (ForInStep.yield ok) else pure (ForInStep.yield r)) (fun ok s₃ =>
    if ok=true then wpAny (model prog w) A (eval elt env) (fun x s₄ =>
     wpAny (model prog w) A (call (.builtin "list.append") [acc,x]) (fun _ s₅=>∃ m,m<n/\I m s₅) (fun _ _=>False) s₄) (fun _ _=>False) s₃
    else ∃ m,m<n/\I m s₃) (fun _ _=>False) s₂) (fun _ _=>False) s₁') (fun _ _=>False) s₁) (fun _ _=>False) s)
 (n:Nat) (h:I n s) :
 codeAny (model prog w) A (.compLoop (.ListComp elt [⟨target,iter,ifs,0⟩] scope pos) 0 it acc env) R s:=by
 refine codeAny_loop rfl I (fun n s hI=>?_) n h
 show wpAny _ A ((compTurn (.ListComp elt [⟨target,iter,ifs,0⟩] scope pos) 0 it acc env).onRaise (fun x=>do noteFrame x env;theTreesLotGoes x)) _ _ s
 refine wpAny_noted ?_
 refine wpAny_noRaise ?_
 rw[compTurn_list]
 refine wpAny_bind (wpAny_standAt (wpAny_bind (thn (turn n s hI) fun r s₁ h₁=>?_)))
 cases r with
 | none=>exact wpAny_pure h₁
 | some v =>
  refine wpAny_bind (thn h₁ fun _ s₁' h₁'=>wpAny_bind (thn h₁' fun _ s₂ h₂=>wpAny_bind (thn h₂ fun ok s₃ h₃=>?_)))
  cases ok with
  | false=>exact wpAny_pure ⟨rfl,h₃⟩
  | true=>exact wpAny_bind (wpAny_bind (thn h₃ fun x s₄ h₄=>wpAny_bind (thn h₄ fun _ s₅ h₅=>wpAny_pure (wpAny_pure ⟨rfl,h₅⟩))))
end
inductive Fv (X:Cx)(scope:Scope):List Str->List Nat->Prop where
 | nil:Fv X scope [] []
 | cons {y:Str} {j:Nat} {ys:List Str} {js:List Nat} (hN:X.N[j]?=some y) (hk:X.env.kindOf y=some .cell∨X.env.kindOf y=some .free) (hm:scope.names.lookup y=some .free) (r:Fv X scope ys js):Fv X scope (y::ys) (j::js)
theorem Fv.mem {X:Cx}{scope:Scope}{ys:List Str}{js:List Nat}(h:Fv X scope ys js){y:Str}(hy:y∈ys):X.env.kindOf y=some .cell∨X.env.kindOf y=some .free:=by
 induction h with
 | nil=>exact nomatch hy
 | cons hN hk hm r ih =>
  rcases List.mem_cons.mp hy with e|hy
  ·rw[e];exact hk
  ·exact ih hy
theorem Fv.at {X:Cx}{scope:Scope}{ys:List Str}{js:List Nat}(h:Fv X scope ys js):∀ {k:Nat}{y:Str},ys[k]?=some y->∃ j,js[k]?=some j/\X.N[j]?=some y/\(X.env.kindOf y=some .cell∨X.env.kindOf y=some .free)/\scope.names.lookup y=some .free:=by
 induction h with
 | nil=>intro k y e;simp at e
 | @cons y0 j0 ys0 js0 hN hk hm r ih =>
  intro k y e
  cases k with
  | zero=>simp at e;subst e;exact⟨j0,by simp,hN,hk,hm⟩
  | succ k=>obtain⟨j,a,b⟩:=ih (k:=k) (y:=y) (by simpa using e);exact⟨j,by simpa using a,b⟩
theorem Fv.len {X:Cx}{scope:Scope}{ys:List Str}{js:List Nat}(h:Fv X scope ys js):ys.length=js.length:=by
 induction h with
 | nil=>rfl
 | cons _ _ _ _ ih=>simp[ih]
def y3h (X:Cx)(x:Str)(fvn:List Str)(scope:Scope)(cl:List (Str×Addr))(C:Addr)(ex:List Addr)(s:Shared)(H:Hp):Cx where
 prog:=X.prog
 w:=X.w
 K:=X.K
 mg:=X.mg
 base:=X.base
 A:=X.A
 N:=x::fvn
 s₀:=s
 H₀:=H
 env:=compEnvC scope cl C X.env
 outer:=X.stack
 stack:=X.stack
 ex:=ex
 fn:=fun _=>false
 calm:=X.calm
 pn:=[]
 xe:=fun _ _=>False
def inner (σ:St)(js:List Nat)(x:Option V):St:=x::js.map fun j=>(σ[j]?).join
abbrev tTrue:TT:=fun _ H Q=>Q true H
def PTs (X:Cx)(ifs:List Expr)(t:TT):Prop :=
 ∀ (pins:List (Addr×Obj)) (s:Shared) (σ:St) (H:Hp) (Q:Bool->Hp->Prop),Inv X pins σ H s->t σ H Q ->
  wpAny (model X.prog X.w) X.A (forIn ifs true fun c r=>if r=true then do let ok ←isTrue c X.env (eval c X.env);pure (ForInStep.yield ok) else pure (ForInStep.yield r)) (TP X pins σ Q) X.xe s
theorem z7w {X:Cx}:PTs X [] tTrue:=fun _ _ _ H _ I h=>wpAny_tests_nil ⟨H,I,h⟩
theorem z5j {X:Cx}{c:Expr}{t:TT}(h:PT X c t):PTs X [c] t:=fun pins s σ H Q I q=>wpAny_tests_one (h pins s σ H Q I q)
def tComp (wi:TI)(js:List Nat)(tc:TT)(te:TE):TE:=fun σ H Q=>wi σ H fun J H1=>∃ W:Nat->Nat->List V->Hp->Prop,(∃ m,W 0 m [] H1)/\∀ i m ys H,W i m ys H ->
 (J.stop i H/\∀ l,H l=none->Q (.ref l) (upd H l (.lst ys))) ∨
 (J.go i H/\ys.length<sizeLine/\∀ x H',J.yld i H x H'->tc (inner σ js (some x)) H' fun b H2 =>
  if b=true then te (inner σ js (some x)) H2 fun v H3=>∃ m',m'<m/\W (i+1) m' (ys++[v]) H3 else ∃ m',m'<m/\W (i+1) m' ys H2)
structure CompOk (X:Cx)(x:Str)(fvn:List Str)(scope:Scope):Prop where
 cell:∀ y∈scope.names,y.2≠.cell
 kind:scope.kind=.function
 names:∀ y∈scope.names,y.2=.local->scope.names.lookup y.1=some .local
 xl:scope.names.lookup x=some .local
 free:∀ y∈scope.names,y.2=.free->y.1∈fvn
 nd:(x::fvn).Nodup
theorem z5v {env:Env}:∀ {names:List (Str×NameKind)}{x:Str},names.lookup x=some .free ->
 ((names.map fun (n,k)=>if (k==NameKind.free&&env.scope.kind == .function&&env.kindOf n==some .cell) then (n,NameKind.cell) else (n,k)).lookup x=some .free ∨
  (names.map fun (n,k)=>if (k==NameKind.free&&env.scope.kind == .function&&env.kindOf n==some .cell) then (n,NameKind.cell) else (n,k)).lookup x=some .cell)
 | [],_,h=>by simp at h
 | (n,k)::r,x,h=>by
  have ih:=@z5v env r x
  rw[List.map_cons]
  dsimp only
  cases hx:x==n with
  | true =>
   simp only[List.lookup_cons,hx]at h
   cases h
   by_cases hc:(NameKind.free==NameKind.free&&env.scope.kind == .function&&env.kindOf n==some .cell)=true
   ·rw[if_pos hc];simp[List.lookup_cons,hx]
   ·rw[if_neg hc];simp[List.lookup_cons,hx]
  | false =>
   simp only[List.lookup_cons,hx]at h
   by_cases hc:(k==NameKind.free&&env.scope.kind == .function&&env.kindOf n==some .cell)=true
   ·rw[if_pos hc];simp only[List.lookup_cons,hx];exact ih h
   ·rw[if_neg hc];simp only[List.lookup_cons,hx];exact ih h
section
variable {X:Cx}{elt iter:Expr}{x:Str}{px pos:Pos}{ifs:List Expr}{scope:Scope}{fvn:List Str}{js:List Nat}{wi:TI}{tc:TT}{te:TE}
theorem y8b {tg:Expr}(htg:tg=.Name x px)(hc:X.calm=true)(hfv:Fv X scope fvn js)(ok:CompOk X x fvn scope)
 (ht:∀ cl C ex s H,PTs (y3h X x fvn scope cl C ex s H) ifs tc) (he:∀ cl C ex s H,PE (y3h X x fvn scope cl C ex s H) elt te)
 {pins:List (Addr×Obj)} {σ:St} {H2:Hp} {s₂:Shared} {Q:VK} {it:Addr} {fp:List Addr} {tn:Nat->Heap->Prop} {J:It} {RR:Value->Addr->Result->Shared->Prop} {E:Value->Shared->Prop}
 (I2:Inv X pins σ H2 s₂) (T:Turn X.prog X.w X.K tg J fp it tn) (st0:tn 0 s₂.heap) (f2:∀ b∈fp,FpOk X pins H2 b)
 (W:Nat->Nat->List V->Hp->Prop) (w0:∃ m,W 0 m [] H2)
 (turn:∀ i m ys H,W i m ys H->(J.stop i H/\∀ l,H l=none->Q (.ref l) (upd H l (.lst ys))) ∨
  (J.go i H/\ys.length<sizeLine/\∀ x H',J.yld i H x H'->tc (inner σ js (some x)) H' fun b H2 =>
   if b=true then te (inner σ js (some x)) H2 fun v H3=>∃ m',m'<m/\W (i+1) m' (ys++[v]) H3 else ∃ m',m'<m/\W (i+1) m' ys H2))
 (hRR:∀ D C m s' H',s'.heap.Ns C m->Inv X pins σ H' s'->FpOk X pins H' C->Q (.ref D) H'->RR (.ref D) C (.ok .next) s') :
 wpAny (model X.prog X.w) X.A (newList []) (fun acc s₃=>wpAny (model X.prog X.w) X.A (newFunctionEnv scope X.env.globals (drawn X.env scope.names []) [] X.env.qual none .none (some X.env)) (fun cenv s₄ =>
  codeAny (model X.prog X.w) X.A (.compStart (.ListComp elt [⟨tg,iter,ifs,0⟩] scope pos) 0 (.ref it) acc { cenv with scope:=relabel scope X.env }) (RR acc cenv.locals) s₄) E s₃) E s₂:=by
 subst htg
 refine wpAny_newObj_type (wpAny_newFunctionEnv ok.cell (by intro y hy;simp at hy) (fun h₁ hns₁ hsb₁=>?_) ok.kind)
 dsimp only at hns₁ hsb₁ ⊢
 generalize hG:s₂.heap.push { cls:=.type "list",dict:=none,data:=.seq ([]:List Value).toArray }=G at hns₁ hsb₁ ⊢
 have hC:G.objs.size=s₂.heap.objs.size+1:=by rw[←hG,Heap.size_push]
 generalize hCC:G.objs.size=C at hns₁ hsb₁ hC ⊢
 generalize hD:s₂.heap.objs.size=D at hC ⊢
 have hDC:D≠C:=by omega
 have old:∀ b o,s₂.heap.get? b=some o->h₁.get? b=some o:=fun b o e=>by
  have hb:=Heap.lt_size e
  refine hsb₁.extBut b o (y7g (.inl (by rw[hC,←hD];exact Nat.lt_succ_of_lt hb))) (Heap.get?_push_of_some _ (hG▸Heap.get?_push_of_some _ e))
 have hacc:h₁.get? D=some { cls:=.type "list",data:=.seq ([]:List Value).toArray }:=by
  refine hsb₁.extBut _ _ hDC (Heap.get?_push_of_some _ ?_)
  rw[←hG,←hD]
  exact Heap.get?_push_size _ rfl
 generalize hcl:drawn X.env scope.names []=cl
 have cl_sub:∀ y c,cl.lookup y=some c->X.env.cells.lookup y=some c:=by
  rw[←hcl];exact z9w _ _ (fun y c e=>by simp at e)
 have frK:∀ y∈scope.names,y.2=.free->(X.env.kindOf y.1=some .cell∨X.env.kindOf y.1=some .free):=fun y hy e=>hfv.mem (ok.free y hy e)
 have cl_has:∀ y,(y,NameKind.free)∈scope.names->∃ c,cl.lookup y=some c:=fun y hy=>by
  rw[←hcl];exact z9y _ _ _ hy (I2.ok.has y (frK _ hy rfl))
 let X':Cx:=y3h X x fvn scope cl C fp s₂ H2
 have fps:∀ b∈fp,b<s₂.heap.objs.size:=fun b hb=>by
  obtain⟨o,e,_⟩:=T.obj _ _ st0 b hb
  exact Heap.lt_size e
 have okX:X'.Ok:=by
  refine⟨I2.ok.mod,ok.kind,I2.ok.glob,I2.ok.blt,?_,fun y z c h1 h2=>I2.ok.inj y z c (cl_sub _ _ h1) (cl_sub _ _ h2),fun y hy=>?_,fun y c h _=>(nomatch h),I2.ok.hd,I2.ok.frames,.inl rfl,fun b hb=>⟨?_,fun y c e=>(f2 b hb).2.2.2.2.1 y c (cl_sub _ _ e)⟩,
   I2.bs,Nat.le_trans I2.ok.bsz I2.sz,fun b o e hb=>?_,fun b hb z=>?_,I2.stack,I2.stkFree⟩
  ·show s₂.heap.objs.size<=C
   omega
  ·rcases hy with hy|hy
   ·exact cl_has y (z6j _ _ _ hy (.inl rfl) ok.cell)
   ·exact cl_has y (z6j _ _ _ hy (.inr rfl) ok.cell)
  ·show b≠C
   exact y7g (.inl (by rw[hC,←hD];exact Nat.lt_succ_of_lt (fps b hb)))
  ·rcases (f2 b hb).2.2.2.1 with z|z
   ·exact I2.ok.noex b o e z
   ·exact Nat.lt_irrefl _ (y7p (y7p (Heap.lt_size e) I2.ok.bsz) z)
  ·have z':=I2.stkSub b z
   rcases List.mem_cons.mp z' with e|e
   ·exact (f2 b hb).2.1 e
   ·exact (f2 b hb).2.2.1 e
 have cells_lt:∀ y c,cl.lookup y=some c->c<D:=fun y c e=>by
  obtain⟨v,q⟩:=I2.cell y c (cl_sub _ _ e)
  rw[←hD];exact q.lt
 have HD:∀ (a:Addr),D<=a->H2 a=none:=fun a ha=>I2.hok.fresh (by omega)
 have I1:Inv X' [] (inner σ js none) H2 { s₂ with heap:=h₁,toks:=s₂.toks+([]:List (Str×Value)).length }:=by
  refine⟨okX,rfl,I2.bare,Un.kept old,⟨_,hns₁,fun i y v e1 e2 e3=>?_⟩,fun y c e=>?_,HD _ (by show D<=C;omega),fun y c e=>I2.freeC y c (cl_sub _ _ e),fun p hp=>absurd (show p∈([]:List (Addr×Obj)) from hp) (by simp),I2.hok.kept old,?_⟩
  ·cases i with
   | zero=>exact absurd e2 (by simp[inner])
   | succ k =>
    have e1':fvn[k]?=some y:=e1
    obtain⟨j,a1,a2,a3,a4⟩:=hfv.at e1'
    have e2':(σ[j]?).join=some v:=by
     have:(js.map fun j=>(σ[j]?).join)[k]?=some (some v):=e2
     rw[List.getElem?_map,a1]at this
     simpa using this
    have e2'':σ[j]?=some (some v):=by
     cases q:σ[j]? with
     | none=>rw[q]at e2';cases e2'
     | some z=>rw[q]at e2';simp at e2';rw[e2']
    obtain⟨m,hn,hl⟩:=I2.loc
    have hv:Vis X.env.scope y:=.inr a3
    obtain⟨u,r,l⟩:=hl j y v a2 e2'' hv
    refine⟨u,r,?_⟩
    rcases l with ⟨k1,_⟩|⟨k1,c,k2,k3⟩
    ·rcases a3 with z|z
     ·rw[k1]at z;cases z
     ·rw[k1]at z;cases z
    ·obtain⟨c',hc'⟩:=cl_has y (PySem.mem_of_lookup a4)
     have:c'=c:=by
      have:=cl_sub _ _ hc'
      rw[k2]at this;cases this;rfl
     subst this
     refine .inr ⟨?_,c',hc',?_⟩
     ·rcases z5v (env:=X.env) a4 with z|z
      ·exact .inr z
      ·exact .inl z
     ·obtain⟨o,ho,hd⟩:=k3
      exact⟨o,old _ _ ho,hd⟩
  ·obtain⟨v,o,ho,hd⟩:=I2.cell y c (cl_sub _ _ e)
   exact⟨v,o,old _ _ ho,hd⟩
  ·show (inner σ js none).length=(x::fvn).length
   simp[inner,hfv.len]
 have fp1:∀ {H':Hp} {pl:List (Addr×Obj)},(∀ b∈fp,H' b=none)->(∀ p∈pl,p.1 ∉ fp)->∀ b∈fp,FpOk X' pl H' b:=fun {H' pl} hn hp b hb=>by
  refine⟨hn b hb,(okX.exf b hb).1,okX.exfs b hb,.inl hb,(okX.exf b hb).2,fun p hpp z=>?_⟩
  have hpp':p∈pl:=hpp
  exact hp p hpp' (by rw[z];exact hb)
 have Dfp:D ∉ fp:=fun z=>Nat.lt_irrefl _ (y7p (fps D z) (Nat.le_of_eq hD))
 obtain⟨m0,w0⟩:=w0
 have loop:∀ s₃:Shared,s₃={ s₂ with heap:=h₁,toks:=s₂.toks+([]:List (Str×Value)).length } ->
  codeAny (model X.prog X.w) X.A (.compLoop (.ListComp elt [⟨.Name x px,iter,ifs,0⟩] scope pos) 0 (.ref it) (.ref D) (compEnvC scope cl C X.env)) (RR (.ref D) C) s₃:=by
  rintro s₃ rfl
  refine y8d (fun n s'=>∃ i ys its k H',Inv X' [] (inner σ js none) H' s'/\tn i s'.heap/\(∀ b∈fp,H' b=none)/\H' D=none/\Vals ys its/\ys.length<=sizeLine/\s'.heap.get? D=some { cls:=.type "list",data:=.seq its.toArray k }/\W i n ys H') ?_ m0
   ⟨0,[],[],_,H2,I1,T.keep _ _ _ st0 fun b _ o e=>old b o e,fun b hb=>(f2 b hb).1,HD _ (Nat.le_refl _),.nil,Nat.zero_le _,hacc,w0⟩
  rintro n s' ⟨i,ys,its,k,H',I',st',fr',nD',rv,hz,ho,hw⟩
  have pinD:Inv X' [(D,{ cls:=.type "list",data:=.seq its.toArray k })] (inner σ js none) H' s':=I'.pins_of fun p hp=>by
   have e:p=(D,{ cls:=.type "list",data:=.seq its.toArray k }):=by simpa using hp
   subst e
   refine⟨ho,nD',hDC,fun z=>?_,fun v z=>nomatch z⟩
   have z':=I2.stkSub D z
   rcases List.mem_cons.mp z' with e|e
   ·exact y7g (.inr (y7p I2.lt (Nat.le_of_eq hD))) e
   ·exact I2.nofs (Nat.le_of_eq hD) e
  have npl:∀ p∈[((D,{ cls:=.type "list",data:=.seq its.toArray k }):Addr×Obj)],p.1 ∉ fp:=fun p hp=>by
   have e:p=(D,{ cls:=.type "list",data:=.seq its.toArray k }):=by simpa using hp
   subst e;exact Dfp
  rcases turn i n ys H' hw with ⟨stop,qn⟩|⟨go,hlt,step⟩
  ·refine thn (T.done X' rfl rfl rfl hc i _ s' _ H' (fun _ _=>False) pinD (fp1 fr' npl) st' stop) fun r s4 ⟨hr,I4⟩=>?_
   subst hr
   have ho4:=(I4.pin (D,{ cls:=.type "list",data:=.seq its.toArray k }) (by show _∈[]++[_];simp)).1
   obtain⟨m,hn4,_⟩:=I4.loc
   have hok4:HOk X.prog X.w (upd H' D (.lst ys)) s4.heap:=fun b u e=>by
    by_cases hb:b=D
    ·subst hb;rw[z0c]at e;cases e
     exact⟨hz,its,k,rv,ho4⟩
    ·rw[z0h hb]at e
     exact (I4.hok b u e).stay (fun c v _ q=>q) (fun c q=>by rw[z0h (z0f q nD')];exact q) fun c xs q=>by rw[z0h (z0f q nD')];exact q
   have un4:Un (frs X.stack) fp H2 (upd H' D (.lst ys)) s₂.heap s4.heap:=by
    have u:=I4.base
    refine⟨u.keep,u.slot,fun b o e n1 n2=>?_,u.there,fun b xs e=>?_,fun b o xs e=>?_,fun b ps e=>?_⟩
    ·have:b≠D:=y7g (.inl (y7p (Heap.lt_size e) (Nat.le_of_eq hD)))
     rw[z0h this];exact u.free b o e n1 n2
    ·rw[z0h (z0f (u.tups b xs e) nD')];exact u.tups b xs e
    ·rw[z0h (z0f (u.frzs b o xs e) nD')];exact u.frzs b o xs e
    ·obtain⟨mo,q⟩:=u.tbls b ps e
     exact⟨mo,by rw[z0h (z0f q nD')];exact q⟩
   have IX:Inv X pins σ (upd H' D (.lst ys)) s4:=I2.call' I4.os un4 hok4 I4.bare fun b hb=>⟨(f2 b hb).2.2.2.1,(f2 b hb).2.1,(f2 b hb).2.2.2.2.1,(f2 b hb).2.2.2.2.2⟩
   exact hRR D C m s4 _ hn4 IX (I2.fpOk (by omega) (by rw[z0h (Ne.symm hDC)];exact I4.free)) (qn D nD')
  ·refine thn (T.item X' rfl rfl rfl hc i _ s' _ H' (fun _ _=>False) pinD (fp1 fr' npl) st' go) fun r s4 ⟨u,hr,h4⟩=>?_
   subst hr
   refine thn h4 fun _ s5 ⟨y,H5,I5,r5,y5,st5,fr5⟩=>?_
   have I5':=I5.pinned (fp1 fr5 npl) (T.obj _ _ st5)
   have q5:=step y H5 y5
   refine wpAny_assign_Name (y4o (X:=X') (i:=0) (x:=x) (v:=y) I5' ok.nd rfl (.inl (lookup_relabel_local ok.xl)) r5 (fun s6 I6=>?_) (.inr (lookup_relabel_local ok.xl)))
   have I6:Inv X' _ (inner σ js (some y)) H5 s6:=I6
   refine thn (ht cl C fp s₂ H2 _ s6 _ H5 _ I6 q5) fun b s7 ⟨H7,I7,q7⟩=>?_
   have stay:∀ {H8:Hp} {s8:Shared},Inv X' ([(D,{ cls:=.type "list",data:=.seq its.toArray k })]++y6r fp s5.heap) (inner σ js (some y)) H8 s8 ->
    Inv X' [] (inner σ js none) H8 s8/\tn (i+1) s8.heap/\(∀ b∈fp,H8 b=none)/\H8 D=none/\s8.heap.get? D=some { cls:=.type "list",data:=.seq its.toArray k }:=fun {H8 s8} I8=>by
    have pD:=I8.pin (D,{ cls:=.type "list",data:=.seq its.toArray k }) (by show _∈[]++([_]++_);simp)
    refine⟨(I8.weak (by simp[inner]) fun j v e=>?_).pins_of fun p hp=>(nomatch hp),T.keep _ _ _ st5 fun b hb o e=>(I8.pin (b,o) (by show _∈[]++([_]++_);simp;exact .inr (z8o hb e))).1,fun b hb=>?_,pD.2.1,pD.1⟩
    ·cases j with
     | zero=>simp[inner]at e
     | succ j=>exact e
    ·obtain⟨o,e,d⟩:=T.obj _ _ st5 b hb
     exact (I8.pin (b,o) (by show _∈[]++([_]++_);simp;exact .inr (z8o hb e))).2.1
   cases b with
   | false =>
    rw[if_neg Bool.false_ne_true]
    rw[if_neg Bool.false_ne_true]at q7
    obtain⟨m',hm,w'⟩:=q7
    obtain⟨J1,J2,J3,J4,J5⟩:=stay I7
    exact⟨m',hm,i+1,ys,its,k,H7,J1,J2,J3,J4,rv,hz,J5,w'⟩
   | true =>
    rw[if_pos rfl]
    rw[if_pos rfl]at q7
    refine thn (he cl C fp s₂ H2 _ s7 _ H7 _ I7 q7) fun uv s8 ⟨v,H8,I8,r8,m',hm,w'⟩=>?_
    obtain⟨J1,J2,J3,J4,J5⟩:=stay I8
    refine append_at (hsz:=by rw[List.size_toArray,←rv.length];exact hz) J5 fun h9 sb9 ho9=>?_
    have I9:Inv X' [] (inner σ js none) H8 { s8 with heap:=h9 }:=J1.turned (t':=s8.toks) (fun b o hb e=>(sb9.2 b hb).trans e) J4 hDC (.inr (Nat.le_of_eq hD)) (fun y c e=>y7g (.inl (cells_lt y c e))) fun p hp=>(nomatch hp)
    refine⟨m',hm,i+1,ys++[v],its++[uv],k+1,H8,I9,T.keep _ _ _ J2 fun b hb o e=>(sb9.2 b (fun z=>Dfp (z▸hb))).trans e,J3,J4,rv.append (.cons r8 .nil),by rw[List.length_append];exact hlt,ho9.trans (by simp),w'⟩
 exact codeAny_compStart_list (loop _ rfl) (T.self X.A 0 _ _ _ (T.keep _ _ _ st0 fun b _ o e=>old b o e) (loop _ rfl))
theorem z4p (hc:X.calm=true)(hi:PI X (.Name x px) iter wi)(hfv:Fv X scope fvn js)(ok:CompOk X x fvn scope)
 (ht:∀ cl C ex s H,PTs (y3h X x fvn scope cl C ex s H) ifs tc) (he:∀ cl C ex s H,PE (y3h X x fvn scope cl C ex s H) elt te)
 (hs:∀ x,foldedSetIterable iter X.env x=pure x:=by intro _;rfl):PE X (.ListComp elt [⟨.Name x px,iter,ifs,0⟩] scope pos) (tComp wi js tc te):=by
 intro pins s σ H Q I h
 rw[eval_ListComp]
 refine wpAny_comprehension_free (use:=none) rfl hs (z9z fun y hy e=>I.ok.has _ (hfv.mem (ok.free y hy e))) ok.kind ok.names (thn (hi pins s σ H _ I h) fun v s1 h1=>thn h1 fun itv s2 h2=>?_)
 obtain⟨it,fp,tn,J,H2,rfl,I2,T,st2,f2,W,w0,turn⟩:=h2
 refine y8b rfl hc hfv ok ht he (Q:=Q) (RR:=fun acc C=>compPost (model X.prog X.w) X.A X.xe none (EP X pins σ Q) acc C) I2 T st2 f2 W w0 turn ?_
 intro D C m s' H' hn IX fC q
 exact⟨m,hn,fun h' hs'=>⟨.ref D,H',IX.turned (t':=s'.toks) (fun b o hb e=>(hs'.2 b hb).trans e) fC.1 fC.2.1 fC.2.2.2.1 fC.2.2.2.2.1 fC.2.2.2.2.2,rfl,q⟩⟩
theorem z9c {i:Nat}{y:Str}{py spos:Pos}(hN:X.N.Nodup)(hiN:X.N[i]?=some y)(hy:Loc X.env.scope y)(hc:X.calm=true)(hi:PI X (.Name x px) iter wi)(hfv:Fv X scope fvn js)(ok:CompOk X x fvn scope)
 (ht:∀ cl C ex s H,PTs (y3h X x fvn scope cl C ex s H) ifs tc) (he:∀ cl C ex s H,PE (y3h X x fvn scope cl C ex s H) elt te)
 (hsw:swapsWith (.ListComp elt [⟨.Name x px,iter,ifs,0⟩] scope pos) (some (.Name y py)) spos.line X.env=pure true:=by rfl)
 (hs:∀ x,foldedSetIterable iter X.env x=pure x:=by intro _;rfl) (hf:X.fn y=true∨X.env.scope.names.lookup y=some .local:=by first | exact .inl rfl | exact .inr rfl | assumption) :
 PS X (.Assign [.Name y py] (.ListComp elt [⟨.Name x px,iter,ifs,0⟩] scope pos) spos) (tAsg (tComp wi js tc te) (gName i)):=by
 intro pins s σ H D I h
 rw[exec_Assign_Name_used _ _ _ _ hsw]
 refine wpAny_bind (wpAny_standAt (wpAny_bind ?_))
 show wpAny _ X.A (do let _ ←comprehension (.ListComp elt [⟨.Name x px,iter,ifs,0⟩] scope pos) scope X.env _ (newList []) false (eval iter X.env) (some (assign (.Name y py) X.env))) _ _ s
 refine wpAny_bind (thn (wpAny_comprehension_free (use:=some (assign (.Name y py) X.env)) (Q:=fun _ s'=>SP X pins D .next s') rfl hs (z9z fun y hy e=>I.ok.has _ (hfv.mem (ok.free y hy e))) ok.kind ok.names
  (thn (hi pins s σ H _ I h) fun v s1 h1=>thn h1 fun itv s2 h2=>?_)) fun _ s' hq=>wpAny_pure (wpAny_pure hq))
 obtain⟨it,fp,tn,J,H2,rfl,I2,T,st2,f2,W,w0,turn⟩:=h2
 refine y8b rfl hc hfv ok ht he (Q:=fun v H'=>gName i v σ H' D.nx) (RR:=fun acc C=>compPost (model X.prog X.w) X.A X.xe (some (assign (.Name y py) X.env)) (fun _ s'=>SP X pins D .next s') acc C) I2 T st2 f2 W w0 turn ?_
 intro L C m s' H' hn IX fC q
 show wpAny _ X.A (assign (.Name y py) X.env (.ref L)) _ _ s'
 refine wpAny_assign_Name (y6e IX hN hiN hy (v:=.ref L) rfl (fun s'' I'' ⟨a,sb,ha⟩=>?_) hf)
 have hCa:C≠a:=by
  rcases ha with z|z
  ·rw[z];exact fC.2.1
  ·exact fun e=>fC.2.2.2.2.1 _ _ z e.symm
 refine⟨m,hn.sameBut sb hCa,fun h3 hs3=>?_⟩
 exact⟨_,H',I''.turned (t':=s''.toks) (fun b o hb e=>(hs3.2 b hb).trans e) fC.1 fC.2.1 fC.2.2.2.1 fC.2.2.2.2.1 fC.2.2.2.2.2,q⟩
end
end L2
namespace L2
open PySem PySem.Spec PyProof.Rows
theorem w3a:bootBuiltins "int" = some (.type "int"):=by decide +kernel
theorem y5v:bootBuiltins "bool" = some (.type "bool"):=by decide +kernel
theorem z3y:bootBuiltins "list" = some (.type "list"):=by decide +kernel
theorem z8u:bootBuiltins "tuple" = some (.type "tuple"):=by decide +kernel
theorem w2z:bootBuiltins "str" = some (.type "str"):=by decide +kernel
theorem z0u:bootBuiltins "isinstance" = some (.builtin "isinstance"):=by decide +kernel
theorem x9u:bootBuiltins "abs" = some (.builtin "abs"):=by decide +kernel
theorem x9t:bootBuiltins "max" = some (.builtin "max"):=by decide +kernel
theorem x7g:bootBuiltins "min" = some (.builtin "min"):=by decide +kernel
section
variable {X:Cx}
theorem pe_ty {x:Str}{n:String}{pos:Pos}(hm:X.mg x=none)(hv:bootBuiltins x=some (.type n))(hg:Gl X x:=by rfl) (hn:x≠"__name__":=by decide) (hd:(x==("__debug__" : Str))=false:=by decide):PE X (.Name x pos) (tC (.ty n)):=w0m hg hm hv rfl hn hd
inductive Ty where
 | non | bl | int | str | lst | tup
 deriving DecidableEq
def Ty.name:Ty->String
 | .non=>"NoneType" | .bl=>"bool" | .int=>"int" | .str=>"str" | .lst=>"list" | .tup=>"tuple"
def Ty.isa (a b:Ty):Bool:=decide (a=b)||(decide (a=.bl)&&decide (b=.int))
theorem x9l (K:W.Frag)(a b:Ty):PySem.W.kitOne K (.type a.name) (.type b.name)=some (a.isa b):=by
 cases a<;>cases b<;>rfl
def TyIs (H:Hp):V->Ty->Prop
 | .non,.non=>True
 | .bl _,.bl=>True
 | .int _,.int=>True
 | .str _,.str=>True
 | .ref a,.lst=>∃ xs,Rd H a (.lst xs)
 | .ref a,.tup=>∃ xs,H a=some (.tup xs)
 | _,_=>False
theorem x5w {pins:List (Addr×Obj)}{σ:St}{H:Hp}{s:Shared}{x:V}{u:Value}{a:Ty}(I:Inv X pins σ H s)(rx:RelV x u)(ty:TyIs H x a) :
 ∃ P:Heap->Prop,PySem.W.KitX X.K u (.type a.name) P/\P s.heap/\u≠.builtin "__main__.__loader__#opaque":=by
 cases x with
 | non=>cases a<;>first | exact ty.elim | (cases (show u=Value.none from rx);exact⟨_,PySem.W.kitx_none,True.intro,fun z=>nomatch z⟩)
 | bl y=>cases a<;>first | exact ty.elim | (cases (show u=Value.bool y from rx);exact⟨_,PySem.W.kitx_bool,True.intro,fun z=>nomatch z⟩)
 | int i=>cases a<;>first | exact ty.elim | (obtain⟨t,q⟩:=(show ∃ t,u=Value.int i t from rx);cases q;exact⟨_,PySem.W.kitx_int,True.intro,fun z=>nomatch z⟩)
 | str y=>cases a<;>first | exact ty.elim | (obtain⟨t,q⟩:=(show ∃ t,u=Value.str y t from rx);cases q;exact⟨_,PySem.W.kitx_str,True.intro,fun z=>nomatch z⟩)
 | ref p =>
  cases (show u=Value.ref p from rx)
  cases a with
  | lst =>
   obtain⟨xs,e⟩:=ty
   obtain⟨_,_,n,_,h1⟩:=(show ObjOk X.prog X.w H s.heap p (.lst xs) from e.ok I.hok)
   exact⟨_,PySem.W.kitx_list,⟨_,h1,rfl⟩,fun z=>nomatch z⟩
  | tup =>
   obtain⟨xs,e⟩:=ty
   obtain⟨_,_,_,pp⟩:=(show ObjOk X.prog X.w H s.heap p (.tup xs) from I.hok p _ e)
   obtain⟨o,h1,h2,_⟩:=pp
   exact⟨_,PySem.W.kitx_tuple,⟨o,h1,h2⟩,fun z=>nomatch z⟩
  | _=>exact ty.elim
 | _=>cases a<;>exact ty.elim
theorem z2n:CallR X (.builtin "isinstance") (fun xs H Q=>∃ x a b,xs=[x,.ty (Ty.name b)]/\TyIs H x a/\Q (.bl (a.isa b)) H):=by
 intro pins s σ H xs us Q I r h
 obtain⟨x,a,b,rfl,ty,q⟩:=h
 obtain⟨u,w',rfl,ru,rw'⟩:=vals2 r
 cases (show w'=Value.type _ from rw')
 obtain⟨P,Z,p,nb⟩:=x5w I ru ty
 exact PySem.W.kia_one Z I.kIn p (x9l _ a b) nb fun tk=>⟨.bl _,H,I.tok tk,rfl,q⟩
theorem x5x (K:W.Frag)(a:Ty):∀ bs:List Ty,PySem.W.kitAny K (.type a.name) (bs.map fun b:Ty=>Value.type b.name)=some (bs.any a.isa)
 | []=>rfl
 | b::r=>by
  show (match PySem.W.kitOne K (.type a.name) (.type b.name) with|some true=>some true | some false=>PySem.W.kitAny K (.type a.name) (r.map fun b:Ty=>Value.type b.name) | none=>none)=_
  rw[x9l,x5x K a r,List.any_cons]
  cases a.isa b<;>rfl
theorem x0h:∀ {bs:List Ty}{us:List Value},Vals (bs.map fun b:Ty=>V.ty b.name) us->us=bs.map fun b:Ty=>Value.type b.name
 | [],_,.nil=>rfl
 | b::r,u::us,.cons q t=>by
  cases (show u=Value.type _ from q)
  rw[x0h (bs:=r) t];rfl
theorem x7f:CallR X (.builtin "isinstance") (fun xs H Q=>∃ (x:V)(p:Addr)(a:Ty)(bs:List Ty),xs=[x,.ref p]/\H p=some (.tup (bs.map fun b:Ty=>V.ty b.name))/\TyIs H x a/\Q (.bl (bs.any (Ty.isa a))) H):=by
 intro pins s σ H xs us Q I r h
 obtain⟨x,p,a,bs,rfl,hp,ty,q⟩:=h
 obtain⟨u,w',rfl,ru,rw'⟩:=vals2 r
 cases (show w'=Value.ref p from rw')
 obtain⟨P,Z,pp,nb⟩:=x5w I ru ty
 obtain⟨_,its,rv,o,h1,h2,n,h3⟩:=(show ObjOk X.prog X.w H s.heap p (.tup _) from I.hok p _ hp)
 obtain⟨c,dd,dt,sl⟩:=o
 cases (show c=_ from h2)
 cases (show dt=_ from h3)
 have e:=x0h rv
 subst e
 exact PySem.W.kia_tup Z I.kIn pp h1 (x5x _ a bs) nb fun tk=>⟨.bl _,H,I.tok tk,rfl,q⟩
def eqVs:List V->List V->Bool
 | [],[]=>true
 | x::xs,y::ys=>eqV x y&&eqVs xs ys
 | _,_=>false
theorem x1t:∀ {xs ys:List V},xs.length≠ys.length->eqVs xs ys=false
 | [],[],h=>absurd rfl h
 | [],_::_,_=>rfl
 | _::_,[],_=>rfl
 | x::xs,y::ys,h=>by
  have:xs.length≠ys.length:=fun e=>h (by simp[e])
  simp[eqVs,x1t this]
theorem x1u:∀ {xs ys:List V},xs.length=ys.length->((List.range xs.length).all fun j=>eqV (xs.getD j .non) (ys.getD j .non))=eqVs xs ys
 | [],[],_=>rfl
 | x::xs,y::ys,h=>by
  have h':xs.length=ys.length:=by simpa using h
  rw[List.length_cons,List.range_succ_eq_map,List.all_cons,List.all_map,eqVs,←x1u h']
  rfl
def LCmp (K:W.Frag)(H:Hp)(x y:V)(k:Bool):Prop :=
 ∃ a b xs ys,x=.ref a/\y=.ref b/\SqL K H a xs/\SqL K H b ys/\((ys=[]/\k=xs.isEmpty)∨(xs.all flatV=true/\ys.all flatV=true/\k=eqVs xs ys))
theorem x0t {pins:List (Addr×Obj)}{σ:St}{H:Hp}{s:Shared}{x y:V}{v u:Value}{k:Bool}(hu:X.A.units<cLine)(I:Inv X pins σ H s)(rx:RelV x v)(ry:RelV y u)(h:LCmp X.K H x y k) :
 SeqAt.RcAt X.A s v u k/\SeqAt.RcNeAt X.A s v u (!k):=by
 obtain⟨a,b,xs,ys,rfl,rfl,hx,hy,hk⟩:=h
 cases (show v=Value.ref a from rx)
 cases (show u=Value.ref b from ry)
 obtain⟨its,r1,p1,z1⟩:=I.list hx
 obtain⟨its2,r2,p2,z2⟩:=I.list hy
 have l1:=r1.length
 have l2:=r2.length
 by_cases hl:xs.length=ys.length
 ·have hsz:its.toArray.size=its2.toArray.size:=by simp;omega
  have he:∀ j (h1:j<its.toArray.size) (h2:j<its2.toArray.size),SeqAt.EqAt X.A.in1 s its.toArray[j] its2.toArray[j] (eqV (xs.getD j .non) (ys.getD j .non)):=by
   intro j h1 h2
   have h1':j<its.length:=by simpa using h1
   have h2':j<its2.length:=by simpa using h2
   rcases hk with ⟨e,_⟩|⟨f1,f2,_⟩
   ·subst e;simp at l2;omega
   ·have j1:j<xs.length:=by omega
    have j2:j<ys.length:=by omega
    obtain⟨u1,e1,q1⟩:=r1.get (i:=j) (x:=xs[j]) (by simp[j1])
    obtain⟨u2,e2,q2⟩:=r2.get (i:=j) (x:=ys[j]) (by simp[j2])
    have g1:its.toArray[j]=u1:=by simp;rw[List.getElem?_eq_getElem h1']at e1;exact Option.some.inj e1
    have g2:its2.toArray[j]=u2:=by simp;rw[List.getElem?_eq_getElem h2']at e2;exact Option.some.inj e2
    rw[g1,g2]
    have d1:xs.getD j .non=xs[j]:=by simp[j1]
    have d2:ys.getD j .non=ys[j]:=by simp[j2]
    rw[d1,d2]
    exact x9r q1 q2 (List.all_eq_true.mp f1 _ (List.getElem_mem j1)) (List.all_eq_true.mp f2 _ (List.getElem_mem j2))
  have ek:(List.range its.toArray.size).all (fun j=>eqV (xs.getD j .non) (ys.getD j .non))=k:=by
   have:its.toArray.size=xs.length:=by simp[l1]
   rw[this,x1u hl]
   rcases hk with ⟨e,e'⟩|⟨_,_,e'⟩
   ·subst e
    have:xs=[]:=List.length_eq_zero_iff.mp (by simpa using hl)
    subst this;rw[e'];rfl
   ·exact e'.symm
  refine⟨?_,?_⟩
  ·rw[←ek];exact SeqAt.RcAt.lists p1.isList p2.isList hsz hu he
  ·rw[←ek];exact SeqAt.RcNeAt.lists p1.isList p2.isList hsz hu he
 ·have hsz:(its.toArray.size != its2.toArray.size)=true:=by
   rw[bne_iff_ne];simp;omega
  have ek:k=false:=by
   rcases hk with ⟨e,e'⟩|⟨_,_,e'⟩
   ·subst e
    cases xs with
    | nil=>exact absurd rfl hl
    | cons x xs=>exact e'
   ·rw[e',x1t hl]
  subst ek
  exact⟨SeqAt.RcAt.lists_lengths p1.isList p2.isList hsz hu,SeqAt.RcNeAt.lists_lengths p1.isList p2.isList hsz hu⟩
theorem y2h (hu:X.A.units<cLine):OpR X (compareOp .Eq) (fun x y H Q=>(∃ k,LCmp X.K H x y k/\Q (.bl k) H)∨(x=.non/\(∃ b ys,y=.ref b/\SqL X.K H b ys)/\Q (.bl false) H)):=by
 intro pins s σ H x y v u Q I rx ry h
 rcases h with ⟨k,c,q⟩|⟨rfl,⟨b,ys,rfl,hy⟩,q⟩
 ·exact (x0t hu I rx ry c).1 _ _ _ _ ⟨.bl k,H,I,rfl,q⟩
 ·cases (show v=Value.none from rx)
  cases (show u=Value.ref b from ry)
  obtain⟨its,r,p,z⟩:=I.list hy
  exact SeqAt.RcAt.none_list p.isList hu _ _ _ _ ⟨.bl false,H,I,rfl,q⟩
theorem x4u (hu:X.A.units<cLine):OpR X (compareOp .NotEq) (fun x y H Q=>∃ k,LCmp X.K H x y k/\Q (.bl (!k)) H):=by
 intro pins s σ H x y v u Q I rx ry h
 obtain⟨k,c,q⟩:=h
 exact (x0t hu I rx ry c).2 _ _ _ _ ⟨.bl (!k),H,I,rfl,q⟩
section
open MeetsSeq MeetsSeq2 AutoSeq1
theorem y7y (l:Addr)(items:Array Value)(n:Nat)(b:Addr)(items2:Array Value)(n2:Nat)(dd:Option Addr)(sl:Array (Option Value))(hs0:¬(!items.isEmpty&&Builtin.List.listTooLong (items.size+items2.size))=true)(hs1:items.size<=sizeLine)(hs2:items.size+items2.size<=sizeLine+1) :
 Meets (Builtin.«list.extend» ⟨[.ref l,.ref b],[]⟩) (fun _ R s=>s.heap.get? l=some { cls:=.type "list",dict:=none,data:=.seq items n,slots:=#[] }/\s.heap.get? b=some { cls:=.type "tuple",dict:=dd,data:=.seq items2 n2,slots:=sl }/\R (.ok (.ret Value.none)) { s with heap:=s.heap.update l (Obj.mapSeq fun x=>x++items2),toks:=s.toks }) :=
 .of_wp fun prog w A R s h=>by
  obtain⟨hp,g,d,tk,os⟩:=s;obtain⟨hl,hb,h⟩:=h;have f1:=PySem.AutoSeq1.idx_int;have f2:=PySem.AutoSeq1.sub_tuple_tuple;have f3:=PySem.AutoSeq1.sub_list_list;have f4:=PySem.AutoSeq1.sub_tuple_list;have f5:=PySem.AutoSeq1.sub_list_tuple;
  have hz':(items++items2).size<=sizeLine+1:=by rw[Array.size_append];exact hs2
  wp_walk using (wpAny_updateSeq hl rfl (hz:=hs1) (_hz':=hz')),PySem.AutoSeq1.wpAny_loadPart' hl,PySem.AutoSeq1.wpAny_loadPart' hb;exact⟨_,rfl,h⟩
end
def x4j:V->List V->Hp->VK->Prop:=fun x vs H Q=>∃ l b xs zs,x=.ref l/\vs=[.ref b]/\H l=some (.lst xs)/\(H b=some (.lst zs)∨H b=some (.tup zs))/\xs.length+zs.length<=sizeLine/\Q .non (upd H l (.lst (xs++zs)))
theorem z9d:MtM X "list.extend" x4j:=by
 intro pins s σ H x vs v us Q I rx rv h
 obtain⟨l,b,xs,zs,rfl,rfl,hH,hB,hz,q⟩:=h
 rcases hB with hB|hB
 ·exact x5n pins s σ H _ _ v us Q I rx rv ⟨l,b,xs,zs,rfl,rfl,hH,hB,hz,q⟩
 ·cases rx
  obtain⟨u,rfl,ru⟩:=rv.one
  cases ru
  obtain⟨z,its,n,r,hl,e⟩:=I.lstM hH
  obtain⟨z2,its2,r2,o,e2,c2,n2,d2⟩:=(show ObjOk X.prog X.w H s.heap b (.tup zs) from I.hok b _ hB)
  have hl2:=r2.length
  have hsz:its.toArray.size+its2.toArray.size<=sizeLine:=by rw[List.size_toArray,List.size_toArray];omega
  have hlong:¬ (!its.toArray.isEmpty&&Builtin.List.listTooLong (its.toArray.size+its2.toArray.size))=true:=by
   rw[x1e hsz,Bool.and_false]
   exact Bool.false_ne_true
  refine call_meets F.slot_list_extend ⟨_,e,rfl⟩ F.entry_list_extend (F.args_list_extend_2 _ _)
   (y7y l its.toArray n b its2.toArray n2 o.dict o.slots hlong (by rw[List.size_toArray];omega) (by omega)) ⟨e,?_,?_⟩
  ·obtain⟨c,dd,dt,sl⟩:=o
   cases (show c=_ from c2)
   cases (show dt=_ from d2)
   exact e2
  ·refine⟨.non,_,I.lset (its':=its++its2) hH e (by simp) (r.append r2) ?_,rfl,q⟩
   rw[List.length_append]
   omega
structure Cal (P:Program)(w:World)(K:W.Frag)(mg:Str->Option Value)(base:Heap)(k:Nat)(x:Str)(ps:List Str)(sp:Sp):Prop where
 ex:∃ f fd,FnOk P w K mg base CX0 k f fd ps sp/\mg x=some (.ref f)/\PySem.W.keepIn K (.ref f)=true/\Binds K fd ps []
theorem z0v {k m:Nat}{x:Str}{ps:List Str}{sp:Sp}{p pos:Pos}{e:Expr}{es:List Expr}{t:TA}(C:Cal X.prog X.w X.K X.mg X.base k x ps sp)(hr:Room m X.A)(hk:k<=m)(ha:PA X (e::es) t)(hg:Gl X x:=by rfl)
 (hdb:(x==("__debug__" : Str))=false:=by decide) (he:starEach (e::es) X.env=(false,eval e X.env)::starEach es X.env:=by rfl) (hpl:(backTo pos (starEach es X.env)).any (·.1)=false:=by rfl) :
 PE X (.Call (.Name x p) (e::es) [] pos) (tCall sp [] E0 t):=by
 obtain⟨f,fd,F,hm,hkp,hb⟩:=C.ex
 exact w0l F (hr.mono hk) hg hm hkp hb .nil pass0 ha hdb he hpl
end
structure Def (K:W.Frag)(mg:Str->Option Value)(x:Str)(st:Stmt)(ps:List Str):Prop where
 ex:∃ f fd,Fun K x x st f fd/\mg x=some (.ref f)/\Binds K fd ps []
theorem Def.cal {P:Program}{w:World}{K:W.Frag}{mg:Str->Option Value}{base:Heap}{x:Str}{st:Stmt}{N ps:List Str}{k:Nat}{sp:Sp}(D:Def K mg x st ps)(S:FnScope N ps (z0g st))(len:∀ vs H Q E,sp vs H Q E->vs.length=ps.length)
 (hbody:∀ (f:Addr) (cdv:Value) (A:Around) (outer:List Env) (s:Shared) (H:Hp) (vs:List V) (Q:VK) (E:XK),Room k (A.deeper (envOfC x (z0g st) s.heap.objs.size f cdv))->sp vs H Q E ->
  ∃ t,PSs (cxOf CX0 P w K mg base N x (z0g st) f cdv A outer s H E).nox (z0m st) t/\t { nx:=fun _ H'=>Q .non H',rt:=Q } (start N vs) H):Cal P w K mg base (k+1) x ps sp:=by
 obtain⟨f,fd,F,hm,hb⟩:=D.ex
 exact⟨f,fd,F.ok S len (hbody f),hm,F.kp,hb⟩
theorem Cal.imp {P:Program}{w:World}{K:W.Frag}{mg:Str->Option Value}{base:Heap}{k:Nat}{x:Str}{ps:List Str}{sp sp':Sp}(C:Cal P w K mg base k x ps sp)(h:∀ vs H Q E,sp' vs H Q E->sp vs H Q E):Cal P w K mg base k x ps sp':=by
 obtain⟨f,fd,F,a,b,c⟩:=C.ex
 exact⟨f,fd,F.imp h,a,b,c⟩
theorem hu0 {A:Around}{k:Nat}(hr:Room k A):A.units<cLine:=hr.units0
structure Blt (mg:Str->Option Value):Prop where
 len_:mg "len" = none
 abs_:mg "abs" = none
 isinstance_:mg "isinstance" = none
 int_:mg "int" = none
 bool_:mg "bool" = none
 list_:mg "list" = none
 tuple_:mg "tuple" = none
 str_:mg "str" = none
 range_:mg "range" = none
 max_:mg "max" = none
 min_:mg "min" = none
 sorted_:mg "sorted" = none
 set_:mg "set" = none
 enumerate_:mg "enumerate" = none
 reversed_:mg "reversed" = none
 any_:mg "any" = none
end L2
namespace L2
open PySem PySem.Spec PyProof.Rows
theorem z1o {K:W.Frag}{h:Heap}{mg:Str->Option Value}{x:Str}{st:Stmt}{ps:List Str}{f:Addr}{oc:Value}{od an:Option Addr}{osl:Array (Option Value)}{kV doc pm cdv ct:Value}(X:K.In h)(G:h.Ns mainGlobals mg)
 (a:PySem.W.nsIn K mainGlobals x=some (some (.ref f))) (l:K.lookup f=some ⟨oc,od,.func (PySem.W.fnOf x x (z0r st) (z0m st) (z0g st) .none kV doc pm an cdv ct),osl⟩) (c:PySem.W.codeIn K cdv x=true) (k:PySem.W.keepIn K (.ref f)=true)
 (b:∀ (kV doc pm:Value) (an:Option Addr) (cdv ct:Value) (us:List Value),us.length=ps.length->bindArgs (PySem.W.fnOf x x (z0r st) (z0m st) (z0g st) .none kV doc pm an cdv ct) ⟨us,[]⟩=pure (ps.zip us)):Def K mg x st ps :=
 ⟨f,_,y7t l c k,PySem.W.mg_of X G a,(y7t l c k).binds b⟩
end L2
namespace L2
open PySem PySem.Spec PyProof.Rows
theorem Same.upd {H H':Hp}{l:Addr}{o:HO}(e:Same H H')(hl:H l=none):Same H (L2.upd H' l o):=fun b u h=>by
 rw[z0h (z0f h hl)];exact e b u h
theorem z4g {α:Type}:∀ l:List α,l=[]∨∃ r x,l=r++[x]
 | []=>.inl rfl
 | a::l=>by
  rcases z4g l with rfl|⟨r,x,rfl⟩
  ·exact .inr ⟨[],a,rfl⟩
  ·exact .inr ⟨a::r,x,rfl⟩
theorem len1 {v:V}:[v].length<=sizeLine:=by show 1<=sizeLine;decide
theorem len2 {v u:V}:[v,u].length<=sizeLine:=by show 2<=sizeLine;decide
theorem z2r {n:Nat}(h:n<=16700000):n<sizeLine:=Nat.lt_of_le_of_lt h (by decide)
theorem z1m {n:Nat}(h:n<=16700000):n<=sizeLine:=Nat.le_of_lt (z2r h)
theorem getV {α:Type}{f:α->V}{ns:List α}{i:Nat}{y:V}(h:(ns.map f)[i]?=some y):∃ n,ns[i]?=some n/\y=f n:=by
 rw[List.getElem?_map]at h
 cases e:ns[i]? with
 | none=>rw[e]at h;cases h
 | some n=>rw[e]at h;exact⟨n,rfl,(Option.some.inj h).symm⟩
inductive D where
 | non | bl (b:Bool) | int (i:Int) | str (x:Str) | lst (ds:List D) | tup (ds:List D)
mutual
def At (H:Hp):D->V->Prop
 | .non,v=>v=.non
 | .bl b,v=>v=.bl b
 | .int i,v=>v=.int i
 | .str x,v=>v=.str x
 | .lst ds,v=>∃ a vs,v=.ref a/\H a=some (.lst vs)/\AtL H ds vs
 | .tup ds,v=>∃ a vs,v=.ref a/\H a=some (.tup vs)/\AtL H ds vs
def AtL (H:Hp):List D->List V->Prop
 | [],vs=>vs=[]
 | d::ds,vs=>∃ v r,vs=v::r/\At H d v/\AtL H ds r
end
mutual
theorem At.mono {H H':Hp}(e:Same H H'):∀ {d:D}{v:V},At H d v->At H' d v
 | .non,_,h=>by unfold At at h ⊢;exact h
 | .bl _,_,h=>by unfold At at h ⊢;exact h
 | .int _,_,h=>by unfold At at h ⊢;exact h
 | .str _,_,h=>by unfold At at h ⊢;exact h
 | .lst ds,_,h=>by
  unfold At at h ⊢
  obtain⟨a,vs,h1,h2,h3⟩:=h
  exact⟨a,vs,h1,e _ _ h2,AtL.mono e h3⟩
 | .tup ds,_,h=>by
  unfold At at h ⊢
  obtain⟨a,vs,h1,h2,h3⟩:=h
  exact⟨a,vs,h1,e _ _ h2,AtL.mono e h3⟩
theorem AtL.mono {H H':Hp}(e:Same H H'):∀ {ds:List D}{vs:List V},AtL H ds vs->AtL H' ds vs
 | [],_,h=>by unfold AtL at h ⊢;exact h
 | d::ds,_,h=>by
  unfold AtL at h ⊢
  obtain⟨v,r,h1,h2,h3⟩:=h
  exact⟨v,r,h1,At.mono e h2,AtL.mono e h3⟩
end
theorem AtL.nil {H:Hp}:AtL H [] []:=by unfold AtL;rfl
theorem AtL.cons {H:Hp}{d:D}{ds:List D}{v:V}{vs:List V}(h:At H d v)(hs:AtL H ds vs):AtL H (d::ds) (v::vs):=by
 unfold AtL;exact⟨v,vs,rfl,h,hs⟩
theorem AtL.append {H:Hp}:∀ {ds es:List D}{vs us:List V},AtL H ds vs->AtL H es us->AtL H (ds++es) (vs++us)
 | [],_,_,_,h,h'=>by unfold AtL at h;subst h;exact h'
 | d::ds,_,_,_,h,h'=>by
  unfold AtL at h
  obtain⟨v,r,rfl,h1,h2⟩:=h
  exact AtL.cons h1 (AtL.append h2 h')
theorem AtL.length {H:Hp}:∀ {ds:List D}{vs:List V},AtL H ds vs->ds.length=vs.length
 | [],_,h=>by unfold AtL at h;subst h;rfl
 | d::ds,_,h=>by
  unfold AtL at h
  obtain⟨v,r,rfl,h1,h2⟩:=h
  simp[AtL.length h2]
theorem AtL.last {H:Hp}:∀ {ds:List D}{vs:List V}{d:D},AtL H (ds++[d]) vs->∃ r v,vs=r++[v]/\AtL H ds r/\At H d v
 | [],vs,d,h=>by
  rw[List.nil_append]at h
  unfold AtL at h
  obtain⟨v,r,rfl,h1,h2⟩:=h
  unfold AtL at h2;subst h2
  exact⟨[],v,rfl,AtL.nil,h1⟩
 | e::ds,vs,d,h=>by
  rw[List.cons_append]at h
  unfold AtL at h
  obtain⟨v,r,rfl,h1,h2⟩:=h
  obtain⟨r',v',rfl,h3,h4⟩:=AtL.last h2
  exact⟨v::r',v',rfl,AtL.cons h1 h3,h4⟩
def dInts (ns:List Int):List D:=ns.map .int
theorem AtL.ofInts {H:Hp}(ns:List Int):AtL H (L2.dInts ns) (ns.map V.int):=by
 induction ns with
 | nil=>exact AtL.nil
 | cons n r ih=>exact AtL.cons (by unfold At;rfl) ih
theorem At.ofInts {H:Hp}{a:Addr}{ns:List Int}(h:H a=some (.lst (ns.map V.int))):At H (.lst (L2.dInts ns)) (.ref a):=by
 unfold At;exact⟨a,_,rfl,h,AtL.ofInts ns⟩
mutual
def D.size:D->Nat
 | .lst ds=>1+sizes ds
 | .tup ds=>1+sizes ds
 | .non=>1
 | .bl _=>1
 | .int _=>1
 | .str _=>1
def sizes:List D->Nat
 | []=>0
 | d::ds=>d.size+sizes ds
end
mutual
def D.plain:D->Bool
 | .str _=>false
 | .lst ds=>x4n ds
 | .tup ds=>x4n ds
 | .non=>true
 | .bl _=>true
 | .int _=>true
def x4n:List D->Bool
 | []=>true
 | d::ds=>d.plain&&x4n ds
end
theorem z6a:∀ (ds es:List D),sizes (ds++es)=sizes ds+sizes es
 | [],es=>by simp[sizes]
 | d::ds,es=>by rw[List.cons_append,sizes,sizes,z6a ds es];omega
theorem z8a:∀ (ds:List D),ds.length<=sizes ds
 | []=>Nat.zero_le _
 | d::ds=>by
  have h:=z8a ds
  have h1:1<=d.size:=by cases d<;>simp[D.size]<;>omega
  rw[List.length_cons,sizes];omega
theorem y0e (ns:List Int):sizes (dInts ns)=ns.length:=by
 induction ns with
 | nil=>rfl
 | cons n r ih=>show (D.int n).size+sizes (dInts r)=_;rw[ih,D.size,List.length_cons];omega
end L2
namespace L2
open PySem PySem.Spec PyProof.Rows
abbrev CompW (J:It)(σ:St)(js:List Nat)(tc:TT)(te:TE)(Q:VK)(H1:Hp):Prop:=∃ W:Nat->Nat->List V->Hp->Prop,(∃ m,W 0 m [] H1)/\∀ i m ys H,W i m ys H ->
 (J.stop i H/\∀ l,H l=none->Q (.ref l) (upd H l (.lst ys))) ∨
 (J.go i H/\ys.length<sizeLine/\∀ x H',J.yld i H x H'->tc (inner σ js (some x)) H' fun b H2 =>
  if b=true then te (inner σ js (some x)) H2 fun v H3=>∃ m',m'<m/\W (i+1) m' (ys++[v]) H3 else ∃ m',m'<m/\W (i+1) m' ys H2)
theorem y3g {K:W.Frag}{a:Addr}{xs:List V}{σ:St}{js:List Nat}{tc:TT}{te:TE}{Q:VK}{H:Hp}(Pv:Nat->List V->Hp->Prop)(h0:Pv 0 [] H)(hz:xs.length<=sizeLine)
 (hl:∀ i ys H,i<=xs.length->Pv i ys H->SqL K H a xs)
 (hs:∀ i x ys H (N:List V->Hp->Prop),xs[i]?=some x->ys.length<=i->Pv i ys H->(∀ ys' H',Pv (i+1) ys' H'->ys'.length<=i+1->N ys' H') ->
  tc (inner σ js (some x)) H fun b H2=>if b=true then te (inner σ js (some x)) H2 fun v H3=>N (ys++[v]) H3 else N ys H2)
 (hd:∀ ys H,Pv xs.length ys H->∀ l,H l=none->Q (.ref l) (upd H l (.lst ys))):CompW (Itl K a) σ js tc te Q H:=by
 refine⟨fun i m ys H=>m=xs.length-i/\i<=xs.length/\ys.length<=i/\Pv i ys H,⟨xs.length,by simp,Nat.zero_le _,Nat.le_refl _,h0⟩,?_⟩
 rintro i m ys H ⟨rfl,hi,hy,p⟩
 have q:=hl i ys H hi p
 by_cases hlt:i<xs.length
 ·refine .inr ⟨⟨xs,xs[i],q,by simp[hlt]⟩,by omega,fun x H' y=>?_⟩
  obtain⟨e,y⟩:=y
  subst e
  exact hs i x ys _ (fun ys' H'=>∃ m',m'<xs.length-i/\m'=xs.length-(i+1)/\i+1<=xs.length/\ys'.length<=i+1/\Pv (i+1) ys' H') (y xs q) hy p fun ys' H' p' l'=>⟨_,by omega,rfl,hlt,l',p'⟩
 ·have e:i=xs.length:=by omega
  subst e
  exact .inl ⟨⟨xs,q,Nat.le_refl _⟩,hd ys H p⟩
theorem x3k {lo:Int}{n:Nat}{σ:St}{js:List Nat}{tc:TT}{te:TE}{Q:VK}{H:Hp}(Pv:Nat->List V->Hp->Prop)(h0:Pv 0 [] H)(hz:n<=sizeLine)
 (hs:∀ i ys H (N:List V->Hp->Prop),i<n->ys.length<=i->Pv i ys H->(∀ ys' H',Pv (i+1) ys' H'->ys'.length<=i+1->N ys' H') ->
  tc (inner σ js (some (.int (lo+i)))) H fun b H2=>if b=true then te (inner σ js (some (.int (lo+i)))) H2 fun v H3=>N (ys++[v]) H3 else N ys H2)
 (hd:∀ ys H,Pv n ys H->∀ l,H l=none->Q (.ref l) (upd H l (.lst ys))):CompW (Itr lo n) σ js tc te Q H:=by
 refine⟨fun i m ys H=>m=n-i/\i<=n/\ys.length<=i/\Pv i ys H,⟨n,by simp,Nat.zero_le _,Nat.le_refl _,h0⟩,?_⟩
 rintro i m ys H ⟨rfl,hi,hy,p⟩
 by_cases hlt:i<n
 ·refine .inr ⟨hlt,by omega,fun x H' y=>?_⟩
  obtain⟨e,y⟩:=y
  subst e y
  exact hs i ys _ (fun ys' H'=>∃ m',m'<n-i/\m'=n-(i+1)/\i+1<=n/\ys'.length<=i+1/\Pv (i+1) ys' H') hlt hy p fun ys' H' p' l'=>⟨_,by omega,rfl,hlt,l',p'⟩
 ·have e:i=n:=by omega
  subst e
  exact .inl ⟨Nat.le_refl _,hd ys H p⟩
theorem z3q {K:W.Frag}{a:Addr}{α:Type}{xs:List α}{g:α->V}{σ:St}{js:List Nat}{tc:TT}{te:TE}{Q:VK}{H:Hp}(p:α->Bool)(f:α->V)(hz:xs.length<=sizeLine)(hl:SqL K H a (xs.map g))
 (ht:∀ x∈xs,∀ R:Bool->Hp->Prop,R (p x) H->tc (inner σ js (some (g x))) H R) (he:∀ x∈xs,p x=true->∀ R:VK,R (f x) H->te (inner σ js (some (g x))) H R)
 (hd:∀ l,H l=none->Q (.ref l) (upd H l (.lst ((xs.filter p).map f)))):CompW (Itl K a) σ js tc te Q H:=by
 refine y3g (xs:=xs.map g) (fun i ys H'=>H'=H/\ys=((xs.take i).filter p).map f) ⟨rfl,by simp⟩ (by simpa using hz) (fun i ys H' _ e=>by rw[e.1];exact hl) ?_ ?_
 ·rintro i x ys _ N hx hy ⟨rfl,rfl⟩ hN
  obtain⟨n,hn,rfl⟩:=getV hx
  have hm:=List.mem_of_getElem? hn
  refine ht n hm _ ?_
  have e1:(xs.take (i+1)).filter p=(xs.take i).filter p++(if p n then [n] else []):=take_succ_filter p xs i n hn
  cases hp:p n with
  | true =>
   rw[if_pos rfl]
   refine he n hm hp _ (hN _ _ ⟨rfl,?_⟩ (by simpa using hy))
   rw[e1,hp];simp
  | false =>
   rw[if_neg Bool.false_ne_true]
   refine hN _ _ ⟨rfl,?_⟩ (by omega)
   rw[e1,hp];simp
 ·rintro ys _ ⟨rfl,rfl⟩ l h
  have:=hd l h
  simpa using this
theorem z6w {lo:Int}{n:Nat}{σ:St}{js:List Nat}{tc:TT}{te:TE}{Q:VK}{H:Hp}(p:Nat->Bool)(f:Nat->V)(hz:n<=sizeLine)
 (ht:∀ i,i<n->∀ R:Bool->Hp->Prop,R (p i) H->tc (inner σ js (some (.int (lo+i)))) H R) (he:∀ i,i<n->p i=true->∀ R:VK,R (f i) H->te (inner σ js (some (.int (lo+i)))) H R)
 (hd:∀ l,H l=none->Q (.ref l) (upd H l (.lst (((List.range n).filter p).map f)))):CompW (Itr lo n) σ js tc te Q H:=by
 refine x3k (fun i ys H'=>H'=H/\ys=((List.range i).filter p).map f) ⟨rfl,by simp⟩ hz ?_ ?_
 ·rintro i ys _ N hi hy ⟨rfl,rfl⟩ hN
  refine ht i hi _ ?_
  have e1:(List.range (i+1)).filter p=(List.range i).filter p++(if p i then [i] else []):=by
   rw[List.range_succ,List.filter_append]
   cases hp:p i<;>simp[hp]
  cases hp:p i with
  | true =>
   rw[if_pos rfl]
   refine he i hi hp _ (hN _ _ ⟨rfl,?_⟩ (by simpa using hy))
   rw[e1,hp];simp
  | false =>
   rw[if_neg Bool.false_ne_true]
   refine hN _ _ ⟨rfl,?_⟩ (by omega)
   rw[e1,hp];simp
 ·rintro ys _ ⟨rfl,rfl⟩ l h
  exact hd l h
theorem w2r {k:Key}{v:Value}(h:keyIs k v=true):RelV (kV k) v:=by
 rcases z1s h with ⟨i,t,rfl,rfl⟩|⟨x,t,rfl,rfl⟩
 ·exact⟨t,rfl⟩
 ·exact⟨t,rfl⟩
theorem y1u:∀ {xs:List V}{us:List Value},xs.length=us.length->(∀ (i:Nat) x u,xs[i]?=some x->us[i]?=some u->RelV x u)->Vals xs us
 | [],[],_,_=>.nil
 | x::xs,u::us,hl,h=>.cons (h 0 x u rfl rfl) (y1u (by simpa using hl) fun i a b e1 e2=>h (i+1) a b (by simpa using e1) (by simpa using e2))
 | [],_::_,hl,_=>by simp at hl
 | _::_,[],hl,_=>by simp at hl
section
variable {X:Cx}
theorem x3l (hc:X.calm=true):CallR X (.type "list") (fun xs H Q=>∃ a kvs,xs=[V.ref a]/\Rd H a (.dK kvs)/\∀ l,H l=none->Q (.ref l) (upd H l (.lst (kvs.map fun p=>kV p.1)))):=by
 intro pins s σ H xs us Q I r h
 obtain⟨a,kvs,rfl,ha,q⟩:=h
 obtain⟨u,rfl,ru⟩:=vals1 r
 cases (show u=Value.ref a from ru)
 obtain⟨hz,lo,vs,rel,o,es,ep,h1,h2,h3,h4,h5,h6⟩:=dk_rd I.hok ha
 have hok:s.heap.DictAt (z1q X.prog X.w) a vs ep:=⟨o,es,h1,h2,h3,h4,h5,h6⟩
 have hlen:kvs.length=vs.length:=rel.length
 refine PySem.W.kdl_call (PySem.W.kdl_dict (ep:=ep) lo) (I.ok.hd hc) hok (by omega) fun h' tk acc' c' hk hD hacc=>?_
 have fr:=I.hok.fresh (Nat.le_refl s.heap.objs.size)
 refine⟨.ref s.heap.objs.size,_,I.laid (o:=.lst (kvs.map fun p=>kV p.1)) hk (Nat.le_refl _) ⟨by simpa using hz,acc'.toList,c',?_,by simpa using hD⟩,rfl,q _ fr⟩
 have hs:=hacc.1
 refine y1u (by simp;omega) fun i x u e1 e2=>?_
 obtain⟨k,x',e3,e4⟩:=hacc.2 i u (by simpa using e2)
 rw[List.getElem?_map]at e1
 cases e5:kvs[i]? with
 | none=>rw[e5]at e1;cases e1
 | some p =>
  rw[e5]at e1
  have e1':kV p.1=x:=Option.some.inj e1
  subst e1'
  have:p.1=k:=by
   have:=rel.keys
   have g1:(kvs.map (·.1))[i]?=some p.1:=by rw[List.getElem?_map,e5];rfl
   have g2:(vs.map (·.1))[i]?=some k:=by rw[List.getElem?_map,e3];rfl
   rw[this,g2]at g1
   exact (Option.some.inj g1).symm
  rw[this]
  exact w2r e4
end
end L2
namespace L2
open PySem PySem.Spec PyProof.Rows
section
variable {prog:Program}{w:World}{A:Around}{E:Value->Shared->Prop}{s:Shared}
end
section
variable {X:Cx}{e:Expr}{te:TE}{p1 p2 pos pos2:Pos}
end
end L2
namespace L2
open PySem PySem.Spec PyProof.Rows
section
variable {X:Cx}{K:W.Frag}
theorem y5o (hK:X.K=K):IxR X (rIxL K):=hK▸ix_list
theorem x6a (hK:X.K=K):IxR X (rIxT K):=hK▸ix_tup
theorem y3x (hK:X.K=K):OpR X (compareOp .In) (rIn K false):=hK▸y2g
theorem z9r (hK:X.K=K):OpR X (compareOp .NotIn) (rIn K true):=hK▸z2l
theorem y0a (hK:X.K=K):CallR X (.type "list") (fun xs H Q=>∃ p ys,xs=[.ref p]/\(SqL K H p ys∨SqT K H p ys)/\∀ l,H l=none->Q (.ref l) (upd H l (.lst ys))):=hK▸z3r
end
end L2
namespace L2
open PySem PySem.Spec PyProof.Rows
theorem z1r {K:W.Frag}{tl:TE}{js:List Nat}{tc:TT}{te:TE}{σ:St}{H:Hp}{Q:VK}(h:tl σ H fun x H1=>∃ a,x=.ref a/\(∃ xs,SqL K H1 a xs)/\CompW (Itl K a) σ js tc te Q H1):tComp (iList K tl) js tc te σ H Q:=h
theorem y6c {ta:TA}{js:List Nat}{tc:TT}{te:TE}{σ:St}{H:Hp}{Q:VK}(h:ta σ H fun vs H1=>∃ j:Int,vs=[.int j]/\-(2 ^ 62)<=j/\j<2 ^ 62/\CompW (Itr 0 j.toNat) σ js tc te Q H1):tComp (iRng1 ta) js tc te σ H Q:=h
theorem z7p {ta:TA}{js:List Nat}{tc:TT}{te:TE}{σ:St}{H:Hp}{Q:VK}(h:ta σ H fun vs H1=>∃ i j:Int,vs=[.int i,.int j]/\(-(2 ^ 62)<=i/\i<2 ^ 62/\-(2 ^ 62)<=j/\j<2 ^ 62)/\CompW (Itr i (j-i).toNat) σ js tc te Q H1):tComp (iRng2 ta) js tc te σ H Q:=h
end L2
namespace L2
open PySem PySem.Spec PyProof.Rows
theorem z7l {t u:TS}{D:Ends}{σ:St}{H:Hp}(h:t { D with nx:=u D } σ H):tSeq t u D σ H:=h
theorem z7u {te:TE}{g:TG}{D:Ends}{σ:St}{H:Hp}(h:te σ H fun x H1=>g x σ H1 D.nx):tAsg te g D σ H:=h
theorem w2a {te:TE}{D:Ends}{σ:St}{H:Hp}(h:te σ H D.rt):tRet te D σ H:=h
theorem y4z {ta:TE}{tr:TA}{σ:St}{H:Hp}{Q:List V->Hp->Prop}(h:ta σ H fun x H1=>tr σ H1 fun xs H2=>Q (x::xs) H2):tCons ta tr σ H Q:=h
end L2
namespace L2
open PySem PySem.Spec PyProof.Rows
section
variable {X:Cx}
def w0f:V->List V->Hp->VK->Prop:=fun x vs H Q=>∃ (l:Addr) (xs:List V) (i:Nat) (y:V),x=.ref l/\vs=[.int i,y]/\H l=some (.lst xs)/\i<=xs.length/\xs.length<sizeLine/\Q .non (upd H l (.lst (xs.take i++y::xs.drop i)))
theorem x5m:MtM X "list.insert" w0f:=by
 intro pins s σ H x vs v us Q I rx rv h
 obtain⟨l,xs,i,y,rfl,rfl,hH,hi,hz,q⟩:=h
 cases rx
 obtain⟨u,w',rfl,ru,rw'⟩:=rv.two
 obtain⟨t,rfl⟩:=ru
 obtain⟨z,its,n,r,hl,e⟩:=I.lstM hH
 have hlen:=r.length
 have hs:=sizeLine_eq
 have hi2:(i:Int)<16777216:=by rw[hs]at hz;omega
 have hfit:¬ (!Builtin.List.listFitsIndex (i:Int))=true:=by
  have:Builtin.List.listFitsIndex (i:Int)=true:=fitsIndex_both (Int.le_trans (by decide) (Int.natCast_nonneg i)) (Int.lt_trans hi2 (by decide))
  rw[this];decide
 have hsz:its.toArray.size<=sizeLine:=by rw[List.size_toArray];omega
 have h0:¬ ((i:Int)<0):=by omega
 have h1:min (i:Int).toNat its.toArray.size=i:=by simp;omega
 revert hfit h0 h1
 generalize (i:Int)=xi
 intro hfit h0 h1
 refine call_meets F.slot_list_insert ⟨_,e,rfl⟩ F.entry_list_insert (F.args_list_insert_3 _ _ _) (AutoSeq1.list_insert_list_int_val_1 l its.toArray n xi t w' hfit hsz) ⟨e,?_⟩
 refine⟨.non,_,I.lset (its':=its.take i++w'::its.drop i) hH e ?_ ((r.take i).append (.cons rw' (r.drop i))) ?_,rfl,q⟩
 ·show (_:Array Value)=_
  simp only[h0,if_false,h1]
  apply Array.ext'
  simp
  exact List.take_of_length_le (by simp)
 ·simp;omega
def tDSet (td ty tx:TE):TE:=fun σ H Q=>td σ H fun x H1=>∃ a,x=.ref a/\IsD H1 a/\ty σ H1 fun y H2=>tx σ H2 fun z H3=>∃ (kvs:List (Key×V)) (k:Key),H3 a=some (.dK kvs)/\y=kV k/\kvs.length<sizeLine /\
 (∀ v,valV kvs k=some v->Q v H3)/\(valV kvs k=none->Q z (upd H3 a (.dK (putK kvs k z))))
variable {o e f:Expr}{td ty tx:TE}{apos cpos:Pos}
theorem x2m (ho:PE X o td)(he:PE X e ty)(hf:PE X f tx)(m:M2 X o "setdefault" apos e f cpos):PE X (.Call (.Attribute o "setdefault" apos) [e,f] [] cpos) (tDSet td ty tx):=by
 intro pins s σ H Q I h
 refine wpAny_Call_method m.base m.few m.line PySem.F.plainAttrs_dict PySem.F.slot_dict_setdefault PySem.F.type_dict_setdefault (thn (ho pins s σ H _ I h) fun u s1 ⟨x,H1,I1,rx,a,ex,d,q1⟩=>?_)
 subst ex
 obtain rfl:u=Value.ref a:=rx
 obtain⟨t1,t2,_⟩:=x1m I1 d
 refine⟨t1,t2,?_⟩
 rw[m.trees]
 refine Calls.callWith_builtin rfl (Calls.evalArgs_plain (Calls.spliced_cons (thn (he pins s1 σ H1 _ I1 q1) fun iv s2 ⟨y,H2,I2,ry,q2⟩ =>
  Calls.spliced_cons (thn (hf pins s2 σ H2 _ I2 q2) fun fv s3 ⟨z,H3,I3,rz,kvs,k,hd,ey,hl,qs,qn⟩=>Calls.spliced_nil ?_))))
 subst ey
 obtain⟨hz,lo,vs,rel,dd⟩:=dk_of I3.hok hd
 refine call_meetsIn PySem.F.slot_dict_setdefault dd.typeIs PySem.F.entry_dict_setdefault (PySem.F.args_dict_setdefault_3 _ _ _) (PySem.kt_meets_setdefault (z1q X.prog X.w) a (kV_is ry) lo fv) ⟨vs,dd,by rw[←rel.length];exact hz,fun v' hv=>?_,fun hn h' dd' hs=>?_⟩
 ·have r1:=rel.val k
  rw[hv]at r1
  cases e1:valV kvs k with
  | none=>rw[e1]at r1;exact r1.elim
  | some v=>rw[e1]at r1;exact⟨v,H3,I3.tok _,r1,qs v e1⟩
 ·have r1:=rel.val k
  rw[hn]at r1
  have e1:valV kvs k=none:=by
   cases e1:valV kvs k with
   | none=>rfl
   | some v=>rw[e1]at r1;exact r1.elim
  have he2:∃ q,h'.get? a=some q:=let ⟨q,_,_,hq,_⟩:=dd';⟨q,hq⟩
  have hl2:(putK kvs k z).length<=sizeLine:=by have:=z9f kvs k z;omega
  exact⟨z,_,y5t I3 (by rw[hd];exact True.intro) hs he2 (x6t hl2 lo (rel.put k rz) dd'),rz,qn e1⟩
end
section
variable {X:Cx}
def rGetL (K:W.Frag):V->V->Hp->VK->Prop:=fun x y H Q=>∃ (p:Addr) (xs:List V) (i:Nat) (v:V),x=.ref p/\y=.int i/\SqL K H p xs/\xs[i]?=some v/\Q v H
theorem x1n:PGet X (rGetL X.K):=by
 intro pins s σ H o i ov iv Q I ro ri h
 obtain⟨p,xs,k,v,rfl,rfl,hq,hx,q⟩:=h
 cases ro
 obtain⟨t,rfl⟩:=ri
 obtain⟨its,r,pl,hz⟩:=I.list hq
 obtain⟨w',ew,rw'⟩:=r.get hx
 have hk:k<xs.length:=(List.getElem?_eq_some_iff.mp hx).1
 have hn:=y2q
 exact wpAny_getItem_list pl.isList (Int.natCast_nonneg k) (by omega) (by simpa using ew) ⟨v,H,I,rw',q⟩
end
section
variable {X:Cx}{elts:List Expr} {k1}{tpos:Pos}
end
end L2
namespace L2
open PySem PySem.Spec PyProof.Rows
section
variable {P:Program}{w:World}{H H':Hp}{h h' B:Heap}{fs:List Addr}
theorem HOk.keptT (x:HOk P w H h)(k:∀ b u,H b≠none->h.get? b=some u->h'.get? b=some u):HOk P w H h':=fun a o e =>
 (x a o e).stay (fun b u hb q=>k b u (by
  rcases hb with z|z
  ·rw[z,e];simp
  ·rw[z];simp) q) (fun _ q=>q) fun _ _ q=>q
structure UnB (fs:List Addr)(H H':Hp)(h B:Heap):Prop where
 keep:∀ b o,h.get? b=some o->H b=none->b ∉ fs->B.get? b=some o
 free:∀ b o,h.get? b=some o->H b=none->H' b=none
 there:∀ b o,h.get? b=some o->b ∉ fs->∃ o',B.get? b=some o'
 tups:∀ b xs,H b=some (.tup xs)->H' b=some (.tup xs)
 frzs:∀ b o u,H b=some (.frz o u)->H' b=some (.frz o u)
 tbls:∀ b ps,H b=some (.tbl ps)->∃ more,H' b=some (.tbl (ps++more))
theorem UnB.un (u:UnB fs H H' h B)(k:B.StaysIn h')(sl:∀ b o,b∈fs->h.get? b=some o->∃ sl,h'.get? b=some { o with slots:=sl }):Un fs [] H H' h h' :=
 ⟨fun b o e n hb _=>k b o (u.keep b o e n hb),fun b o e _ hb _=>sl b o hb e,fun b o e n _=>u.free b o e n,fun b o e _=>by
  by_cases hb:b∈fs
  ·obtain⟨s,q⟩:=sl b o hb e;exact⟨_,q⟩
  ·obtain⟨o',q⟩:=u.there b o e hb;exact⟨o',k b o' q⟩,u.tups,u.frzs,u.tbls⟩
end
def Fly (P:Program)(w:World):CXT:=fun outer H s E e s'=>∃ (a C t:Addr) (H':Hp) (B:Heap),e=.ref a/\s'.os=s.os/\AllBare s'.gens/\UnB (frs outer) H H' s.heap B/\HOk P w H' B /\
 Heap.FlyingW B outer a (.ref C) (.ref t) s'.heap/\(∀ b o,b∈frs outer->s.heap.get? b=some o->∃ sl,s'.heap.get? b=some { o with slots:=sl })/\E (.ref C) none H'
theorem x5v {P:Program}{w:World}{K:W.Frag}{mg:Str->Option Value}{base:Heap}{N:List Str}{qual:Str}{scope:Scope}{f:Addr}{cd:Value}{A:Around}{outer:List Env}{s:Shared}{H:Hp}{E:XK}
 {pins:List (Addr×Obj)} {σ:St} {H1:Hp} {s1:Shared} {h':Heap} {e C:Addr} {vs:List Value} (I:Inv (cxOf (Fly P w) P w K mg base N qual scope f cd A outer s H E) pins σ H1 s1) (hx:Heap.MadeExcOf s1.heap h' e (.ref C) vs) (q:E (.ref C) none H1) :
 (cxOf (Fly P w) P w K mg base N qual scope f cd A outer s H E).xe (.ref e) { s1 with heap:=h' }:=by
 have hin:∀ env∈(envOfC qual scope s.heap.objs.size f cd::outer),∀ b,env.frame=some b->b∈frs (envOfC qual scope s.heap.objs.size f cd::outer):=fun env he b hb=>List.mem_filterMap.mpr ⟨env,he,hb⟩
 have hst:s1.heap.FunFrames base (envOfC qual scope s.heap.objs.size f cd::outer):=I.stack
 have hsz:s.heap.objs.size<=s1.heap.objs.size:=I.sz
 refine wpAny_leaves_madeW (base:=PySem.W.hideAll s1.heap (frs (envOfC qual scope s.heap.objs.size f cd::outer))) (h:=s1.heap) (L:=s.heap.objs.size) (outer:=outer) I.ok.frames rfl (fun b o q=>PySem.W.of_hideAll _ q) (PySem.W.funFrames_hide hst hin) hx fun h2 t fl _ _ up=>?_
 have hfs:∀ b,b∈frs (envOfC qual scope s.heap.objs.size f cd::outer)->b=s.heap.objs.size∨b∈frs outer:=fun b hb=>by
  have:=I.stkSub b hb
  exact List.mem_cons.mp this
 refine⟨e,C,t,H1,_,rfl,I.os,I.bare,⟨fun b o e0 n hb=>?_,fun b o e0 n=>I.base.free b o e0 n (fun z=>nomatch z),fun b o e0 hb=>?_,I.base.tups,I.base.frzs,I.base.tbls⟩,?_,fl,fun b o hb e0=>?_,q⟩
 ·refine PySem.W.hideAll_get _ (I.base.keep b o e0 n hb (fun z=>nomatch z)) fun z=>?_
  rcases hfs b z with y|y
  ·rw[y]at e0;exact absurd (Heap.lt_size e0) (Nat.lt_irrefl _)
  ·exact hb y
 ·obtain⟨o',e1⟩:=I.base.there b o e0 (fun z=>nomatch z)
  refine⟨o',PySem.W.hideAll_get _ e1 fun z=>?_⟩
  rcases hfs b z with y|y
  ·rw[y]at e0;exact absurd (Heap.lt_size e0) (Nat.lt_irrefl _)
  ·exact hb y
 ·exact I.hok.keptT fun b u hn e0=>PySem.W.hideAll_get _ e0 fun z=>hn (I.stkFree b z)
 ·have hn:H b=none:=I.ok.frf b hb
  obtain⟨sl,e1⟩:=I.base.slot b o e0 hn hb (fun z=>nomatch z)
  obtain⟨_,o2,e2,hd⟩:=I.funs.mem hb
  rw[e1]at e2
  have e3:=Option.some.inj e2
  obtain⟨sl2,e4⟩:=up b _ (hx.keeps b _ e1) (fun vs z=>hd vs (by rw[←e3];exact z))
  exact⟨sl2,e4⟩
def w1q (C:Addr)(E:XK)(te:TE):TS:=fun _ σ H=>te σ H fun _ H1=>E (.ref C) none H1
theorem x0w {P:Program}{w:World}{K:W.Frag}{mg:Str->Option Value}{base:Heap}{N:List Str}{qual:Str}{scope:Scope}{f:Addr}{cd:Value}{A:Around}{outer:List Env}{s:Shared}{H:Hp}{E:XK}
 {x:Str} {C:Addr} {B newId initId:String} {bm:List Value} {np cpos pos:Pos} {e₀:Expr} {te:TE} (O:OwnCls x C bm newId mg base) (FB:ExcBaseFacts B newId initId bm)
 (ha:PE (cxOf (Fly P w) P w K mg base N qual scope f cd A outer s H E) e₀ te) (hg:Gl (cxOf (Fly P w) P w K mg base N qual scope f cd A outer s H E) x:=by rfl) (hd:(x==("__debug__" : Str))=false:=by decide)
 (he:starEach [e₀] (envOfC qual scope s.heap.objs.size f cd)=[(false,eval e₀ (envOfC qual scope s.heap.objs.size f cd))]:=by rfl) :
 PS (cxOf (Fly P w) P w K mg base N qual scope f cd A outer s H E) (.Raise (some (.Call (.Name x np) [e₀] [] cpos)) none pos) (w1q C E te):=by
 intro pins s1 σ H1 D I h
 obtain⟨tl,Nn,nm,q,bs,hdct,sn,sub,ab,col,dd,k0,k1,k2,k3,k5,mN,hC,hN,hni,T⟩:=O.obj
 refine wpAny_Raise_call_subT (C:=C) (nm:=nm) (q:=q) (N:=Nn) (bs:=bs) (bm:=tl) (hdct:=hdct) (sn:=sn) (sub:=sub) (ab:=ab) (col:=col) (dd:=dd) (k0:=k0) (k1:=k1) (k2:=k2) (k3:=k3) (k5:=k5)
  FB (mN:=mN) (T.hasType FB.hasBase) (I.ok.hd rfl) (by show (backTo cpos (starEach [e₀] (envOfC qual scope s.heap.objs.size f cd))).any (·.1)=false;rw[he];rfl) hni (y2r I hg O.bound ⟨rfl,?_⟩ hd)
 show wpAny _ _ (evalArgs _ _ (backTo cpos (starEach [e₀] (envOfC qual scope s.heap.objs.size f cd))) _) _ _ _
 rw[he]
 refine Calls.evalArgs_plain ?_
 refine Calls.spliced_cons (thn (ha pins s1 σ H1 _ I h) fun v s2 ⟨y,H2,I2,r,q2⟩=>Calls.spliced_nil ?_)
 exact⟨rfl,(by show 1<=sizeLine;decide),I2.bk _ _ hC,hN.keeps I2.bk,T.keeps I2.bk,fun h' e hm=>x5v I2 hm q2⟩
def z9i (base:Heap)(C D:Addr):Prop:=∀ (M:Model) (A:Around) (E:Value->Shared->Prop) (s:Shared) (e:Addr) (oe:Obj) (Q:Bool->Shared->Prop),(∀ b o,base.get? b=some o->s.heap.get? b=some o)->s.heap.get? e=some oe->oe.cls=.ref C->Q true s ->
 wpAny M A (excMatches (.ref e) (.ref D)) Q E s
theorem y8f {x:Str}{C:Addr}{bm:List Value}{newId:String}{mg:Str->Option Value}{base:Heap}(O:OwnCls x C bm newId mg base)(hb:bm.contains (.type "BaseException")=true):z9i base C C:=by
 intro M A E s e oe Q k he hc q
 obtain⟨tl,Nn,nm,qn,bs,hdct,sn,sub,ab,col,dd,k0,k1,k2,k3,k5,mN,hC,hN,hni,T⟩:=O.obj
 obtain⟨h,g,d,t,os⟩:=s
 exact wpAny_excMatches_sub_self (k _ _ hC) he hc (T.hasType hb) q
theorem z8w {M:Model}{A:Around}{E:Value->Shared->Prop}{nm q:Str}{C N:Addr}{bs bm:List Value}{hdct:Bool}{sn:List Str}{sub:List Value}{ab:Bool}{col:Option Bool}{dd:Option Addr}{k0 k1 k2 k3 k5:Option Value}{newId:String}
 {nm' q':Str} {C' N':Addr} {bs' bm':List Value} {hdct':Bool} {sn':List Str} {sub':List Value} {ab':Bool} {col':Option Bool} {dd':Option Addr} {k0' k1' k2' k3' k5':Option Value} {newId':String}
 {h:Heap} {g:Array GenState} {d:Drawn} {t:Nat} {os:OsState} {e:Addr} {oe:Obj} {Q:Bool->Shared->Prop}
 (hC:h.get? C=some (excClassObj nm q C N bs bm hdct sn sub ab col dd k0 k1 k2 k3 k5 newId)) (hD:h.get? C'=some (excClassObj nm' q' C' N' bs' bm' hdct' sn' sub' ab' col' dd' k0' k1' k2' k3' k5' newId')) (he:h.get? e=some oe) (hcls:oe.cls=.ref C)
 (hbase:bm'.contains (.type "BaseException")=true) (hin:(Value.ref C::bm).contains (.ref C')=true) (hq:Q true ⟨h,g,d,t,os⟩):wpAny M A (excMatches (.ref e) (.ref C')) Q E ⟨h,g,d,t,os⟩:=by
 have hcB:(Value.ref C'::bm').contains (.type "BaseException")=true:=by rw[List.contains_cons,hbase,Bool.or_true]
 have f:=tc_notTuple
 unfold excMatches
 repeat (first | (with_reducible refine wpAny_loadPart_at he ?_;rw[hcls]) | with_reducible refine wpAny_loadPart_at hC ?_ | with_reducible refine wpAny_loadPart_at hD ?_ | (with_reducible refine wpAny_isSubtype_exc hD ?_;rw[hcB]) | (with_reducible refine wpAny_isSubtype_exc hC ?_;rw[hin]) | wp_step)
 exact hq
abbrev Cx.suite (X:Cx)(e:Addr):Cx:={ X with A:=X.A.mark (some (.ref e)),calm:=false,xe:=fun _ _=>False }
theorem Inv.suite {X:Cx}{pins:List (Addr×Obj)}{σ:St}{H:Hp}{s:Shared}(I:Inv X pins σ H s)(e:Addr):Inv (X.suite e) pins σ H s :=
 ⟨⟨I.ok.mod,I.ok.kind,I.ok.glob,I.ok.blt,I.ok.above,I.ok.inj,I.ok.has,I.ok.cab,(fun z=>nomatch z),I.ok.frames,I.ok.stk,I.ok.exf,I.ok.bs,I.ok.bsz,I.ok.noex,I.ok.exfs,I.ok.funs,I.ok.frf⟩,I.os,I.bare,I.base,I.loc,I.cell,I.free,I.freeC,I.pin,I.hok,I.len⟩
theorem Inv.unsuite {X:Cx}{pins:List (Addr×Obj)}{σ:St}{H:Hp}{s:Shared}{e:Addr}(hc:X.Ok)(I:Inv (X.suite e) pins σ H s):Inv X pins σ H s :=
 ⟨hc,I.os,I.bare,I.base,I.loc,I.cell,I.free,I.freeC,I.pin,I.hok,I.len⟩
theorem SP.unsuite {X:Cx}{pins:List (Addr×Obj)}{D:Ends}{f:Flow}{s':Shared}{e:Addr}(hc:X.Ok)(h:SP (X.suite e) pins D f s'):SP X pins D f s':=by
 cases f with
 | next=>obtain⟨σ',H',I,q⟩:=h;exact⟨σ',H',I.unsuite hc,q⟩
 | brk=>obtain⟨σ',H',I,q⟩:=h;exact⟨σ',H',I.unsuite hc,q⟩
 | cont=>obtain⟨σ',H',I,q⟩:=h;exact⟨σ',H',I.unsuite hc,q⟩
 | ret u=>obtain⟨v,σ',H',I,r,q⟩:=h;exact⟨v,σ',H',I.unsuite hc,r,q⟩
theorem Inv.flown {X:Cx}{pins:List (Addr×Obj)}{σ:St}{H H':Hp}{s s':Shared}{B:Heap}{a C t:Addr}(I:Inv X pins σ H s)(os:s'.os=s.os)(bare:AllBare s'.gens)(u:UnB (frs X.stack) H H' s.heap B)(hok:HOk X.prog X.w H' B)
 (fl:B.StaysIn s'.heap) (sl:∀ b o,b∈frs X.stack->s.heap.get? b=some o->∃ sl,s'.heap.get? b=some { o with slots:=sl }):Inv X pins σ H' s' :=
 I.call' (ch:=[]) os (u.un fl sl) (hok.kept fl) bare (fun b z=>nomatch z)
theorem x7c {X:Cx}{pins:List (Addr×Obj)}{σ:St}{H:Hp}{s s':Shared}{e:Value}{C D:Addr}{R:Hp->Prop}{cn:Str}{np hp:Pos}{b₀:Stmt}{suite:List Stmt}{Q:Flow->Shared->Prop}(hst:X.stack=X.env::X.outer)(hfr:X.env.frame=some X.env.locals)
 (I:Inv X pins σ H s) (fl:Fly X.prog X.w X.stack H s (fun c _ H2=>c=.ref C/\R H2) e s') (hg:Gl X cn) (hm:X.mg cn=some (.ref D)) (hcat:z9i X.base C D) (hd:(cn==("__debug__" : Str))=false)
 (k:∀ (ea:Addr) (s6:Shared) (H2:Hp),Inv X pins σ H2 s6->R H2->wpAny (model X.prog X.w) (X.A.mark (some (.ref ea))) (execs (b₀::suite) X.env) Q (fun _ _=>False) s6) :
 wpAny (model X.prog X.w) X.A (noteFrame e X.env) (fun _ s₂=>wpAny (model X.prog X.w) X.A (setFlight e none) (fun _ s₃=>wpAny (model X.prog X.w) X.A (handleBy e X.env [.ExceptHandler (some (.Name cn np)) none (b₀::suite) hp]) Q (fun _ _=>False) s₃) (fun _ _=>False) s₂) (fun _ _=>False) s':=by
 obtain⟨ea,C',t,H2,B,rfl,os,bare,u,hok,fly,sl,hC,hR⟩:=fl
 cases hC
 have frf:∀ b∈frs X.stack,∀ o,s.heap.get? b=some o->∀ vs,o.data≠.fields vs:=fun b hb o e0 vs z=>by
  obtain⟨_,o2,e2,hd⟩:=I.stack.mem hb
  rw[e0]at e2;cases e2;exact hd vs z
 have up:∀ {h4:Heap},s'.heap.UpToSlots h4->∀ b o,b∈frs X.stack->s.heap.get? b=some o->∃ sl,h4.get? b=some { o with slots:=sl }:=fun {h4} x b o hb e0=>by
  obtain⟨s1,e1⟩:=sl b o hb e0
  obtain⟨s2,e2⟩:=x b _ e1 (frf b hb o e0)
  exact⟨s2,e2⟩
 have hfs:X.A.frames=some (X.env::X.outer):=by rw[←hst];exact I.ok.frames
 rw[hst]at fly
 refine wpAny_looks_onW hfs hfr fly fun h₄ hheld₄ hsm₄=>?_
 refine wpAny_landsW hheld₄ fun h₅ hfl₅ hsm₅'=>?_
 have hsm₅:=hsm₄.trans hsm₅'
 have I5:Inv X pins σ H2 { s' with heap:=h₅ }:=I.flown (a:=ea) (C:=C) (t:=t) os bare u hok hfl₅.1 (up hsm₅)
 obtain⟨ob,hob,hobc⟩:=hfl₅.there
 refine wpAny_handleBy_cons (codeAny_handlers_test ?_) (by intro q;cases q)
 refine y2r (X:=X.suite ea) (I5.suite ea) hg hm ?_ hd
 refine hcat _ _ _ _ ea ob _ I5.bk hob hobc (codeAny_handlers_suite ?_)
 refine lands_againW hfl₅ fun h₆ hfl₆ hsm₆=>?_
 have I6:Inv X pins σ H2 { s' with heap:=h₆ }:=I.flown (a:=ea) (C:=C) (t:=t) os bare u hok hfl₆.1 (up (hsm₅.trans hsm₆))
 exact wpAny_mono (k ea _ H2 I6 hR) (fun _ _ z=>z) fun _ _ z=>False.elim z
theorem w0e {X:Cx}{CX:CXT}{k:Nat}{f:Addr}{fd:FuncData}{ps:List Str}{sp:Sp}{E:XK}{pins:List (Addr×Obj)}{σ:St}{H:Hp}{s:Shared}{Q:VK}{us:List Value}{vs:List V}(F:FnOk X.prog X.w X.K X.mg X.base CX k f fd ps sp)(hr:Room k X.A)(hb:Binds X.K fd ps [])
 (hx:∀ e s',CX X.stack H s E e s'->X.xe e s') (I:Inv X pins σ H s) (r:Vals vs us) (h:sp vs H Q E):wpAny (model X.prog X.w) X.A (call (.ref f) us) (EP X pins σ Q) X.xe s:=by
 have hl:us.length=ps.length:=by rw[←r.length];exact F.len _ _ _ _ h
 have hb':=hb s us I.kIn (by rw[List.append_nil];exact hl)
 rw[List.append_nil]at hb'
 refine wpAny_call (codeAny_mono (F.run X.A X.stack s H ⟨us,[]⟩ us vs Q E hr I.env0 hb' r h) fun r s' hq=>?_)
 cases r with
 | error e=>exact hx e s' hq
 | ok fl =>
  cases fl with
  | ret u=>exact I.after hq
  | next=>exact False.elim hq
  | brk=>exact False.elim hq
  | cont=>exact False.elim hq
structure CalX (P:Program)(w:World)(K:W.Frag)(mg:Str->Option Value)(base:Heap)(k:Nat)(x:Str)(ps:List Str)(sp:Sp):Prop where
 ex:∃ f fd,FnOk P w K mg base (Fly P w) k f fd ps sp/\mg x=some (.ref f)/\PySem.W.keepIn K (.ref f)=true/\Binds K fd ps []
theorem Fun.okX {P:Program}{w:World}{K:W.Frag}{mg:Str->Option Value}{base:Heap}{x qual:Str}{st:Stmt}{f:Addr}{fd:FuncData}{N ps:List Str}{k:Nat}{sp:Sp}(F:Fun K x qual st f fd)(S:FnScope N ps (z0g st))(len:∀ vs H Q E,sp vs H Q E->vs.length=ps.length)
 (hbody:∀ (cdv:Value) (A:Around) (outer:List Env) (s:Shared) (H:Hp) (vs:List V) (Q:VK) (E:XK),Room k (A.deeper (envOfC qual (z0g st) s.heap.objs.size f cdv))->sp vs H Q E ->
  ∃ t,PSs (cxOf (Fly P w) P w K mg base N qual (z0g st) f cdv A outer s H E) (z0m st) t/\t { nx:=fun _ H'=>Q .non H',rt:=Q } (start N vs) H):FnOk P w K mg base (Fly P w) (k+1) f fd ps sp:=by
 obtain⟨oc,od,kV,doc,pm,an,cdv,ct,osl,rfl,lk,hcd⟩:=F.ex
 exact fn_of lk hcd S len fun A outer s H vs Q E hr hsp=>hbody cdv A outer s H vs Q E hr hsp
theorem SP.wishN {X:Cx}{pins:List (Addr×Obj)}{D:Ends}{f:Flow}{s':Shared}{E:Value->Shared->Prop}(h:SP X pins D f s'):SP (X.wish E) pins D f s':=by
 cases f with
 | next=>obtain⟨σ',H',I,q⟩:=h;exact⟨σ',H',I.wish E,q⟩
 | brk=>obtain⟨σ',H',I,q⟩:=h;exact⟨σ',H',I.wish E,q⟩
 | cont=>obtain⟨σ',H',I,q⟩:=h;exact⟨σ',H',I.wish E,q⟩
 | ret u=>obtain⟨v,σ',H',I,r,q⟩:=h;exact⟨v,σ',H',I.wish E,r,q⟩
theorem Def.calX {P:Program}{w:World}{K:W.Frag}{mg:Str->Option Value}{base:Heap}{x:Str}{st:Stmt}{N ps:List Str}{k:Nat}{sp:Sp}(D:Def K mg x st ps)(S:FnScope N ps (z0g st))(len:∀ vs H Q E,sp vs H Q E->vs.length=ps.length)
 (hbody:∀ (f:Addr) (cdv:Value) (A:Around) (outer:List Env) (s:Shared) (H:Hp) (vs:List V) (Q:VK) (E:XK),Room k (A.deeper (envOfC x (z0g st) s.heap.objs.size f cdv))->sp vs H Q E ->
  ∃ t,PSs (cxOf (Fly P w) P w K mg base N x (z0g st) f cdv A outer s H E) (z0m st) t/\t { nx:=fun _ H'=>Q .non H',rt:=Q } (start N vs) H):CalX P w K mg base (k+1) x ps sp:=by
 obtain⟨f,fd,F,hm,hb⟩:=D.ex
 exact⟨f,fd,F.okX S len (hbody f),hm,F.kp,hb⟩
abbrev Land (X:Cx)(hs:List ExceptHandler)(Q:Flow->Shared->Prop):Value->Shared->Prop:=fun e s₁=>wpAny (model X.prog X.w) X.A (noteFrame e X.env) (fun _ s₂=>wpAny (model X.prog X.w) X.A (setFlight e none) (fun _ s₃=>wpAny (model X.prog X.w) X.A (handleBy e X.env hs) Q (fun _ _=>False) s₃) (fun _ _=>False) s₂) (fun _ _=>False) s₁
end L2
namespace L2
open PySem PySem.Spec PyProof.Rows
structure ExcKit (K:W.Frag)(C:Addr):Prop where
 ga:PySem.W.findIn K (.ref C) "__getattribute__" = some (some (.builtin "BaseException.__getattribute__"))
 cl:PySem.W.findIn K (.ref C) "__class__" = some (some (.builtin "object.__class__"))
 sb:PySem.W.subIn K (.ref C) (.type "BaseException")=some true
 so:PySem.W.subIn K (.ref C) (.type "object")=some true
 ic:(PySem.W.clsIn K C).isSome=true
 na:PySem.W.findIn K (.ref C) "__getattr__" = some none
section
variable {prog:Program}{w:World}{A:Around}{E:Value->Shared->Prop}{h:Heap}{g:Array GenState}{d:Drawn}{t:Nat}{os:OsState}{a C:Addr}{o:Obj}{K:W.Frag}{bmB:List Value}
end
section
variable {X:Cx}
end
end L2
namespace L2
open PySem PySem.Spec PyProof.Rows
theorem ObjOk.there {P:Program}{w:World}{H:Hp}{h:Heap}{a:Addr}{o:HO}(x:ObjOk P w H h a o):∃ u,h.get? a=some u:=by
 cases o with
 | lst xs=>obtain⟨_,_,_,_,e⟩:=x;exact⟨_,e⟩
 | tup xs=>obtain⟨_,_,_,ob,e,_⟩:=x;exact⟨_,e⟩
 | dK kvs=>obtain⟨_,_,_,_,o,_,_,e,_⟩:=x;exact⟨_,e⟩
 | dT kvs=>obtain⟨_,_,_,_,o,_,_,e,_⟩:=x;exact⟨_,e⟩
 | set S n=>obtain⟨o,_,_,_,e,_⟩:=x;exact⟨_,e⟩
 | ins C dx fs=>obtain⟨_,_,_,e,_⟩:=x;exact⟨_,e⟩
 | own y=>obtain⟨_,e⟩:=x;exact⟨_,e⟩
 | xd fs=>obtain⟨_,⟨_,_,_,e,_⟩,_⟩:=x;exact⟨_,e⟩
 | rng lo hi=>obtain⟨_,_,_,e⟩:=x;exact⟨_,e⟩
 | frz ob u=>obtain⟨e,_⟩:=x;exact⟨_,e⟩
 | tbl ps=>exact⟨_,(show h.get? a=some _ from x)⟩
 | met f y=>exact⟨_,(show h.get? a=some _ from x)⟩
 | ext φ=>obtain⟨_,⟨_,e⟩,_⟩:=x;exact⟨_,e⟩
end L2
namespace L2
open PySem PySem.Spec PyProof.Rows
section
variable {X:Cx}
def tFStr (te:TE):TE:=fun σ H Q=>te σ H fun v H1=>∃ i:Int,v=.int i/\i.natAbs<2 ^ 64/\∀ z,Q (.str z) H1
theorem x4r {x:Str}{j:Nat}{p1 p2 pos:Pos}{e:Expr}{te:TE}(he:PE X e te)(hx:x.length<=1000:=by decide):PE X (.JoinedStr [.Constant (.str x) j p1,.FormattedValue e (-1) none p2] pos) (tFStr te):=by
 intro pins s σ H Q I h
 refine JoinedStr_many (joinParts_cons ?_)
 refine thn (y2d pins s σ H (fun v H1=>v=.str x/\H1=H) I ⟨rfl,rfl⟩) fun v s1 ⟨y,H1,I1,r,e1,e2⟩=>?_
 subst e1 e2
 obtain⟨t,rfl⟩:=r
 have e0:Str.empty++x=x:=by
  obtain⟨c⟩:=x
  show Str.mk (#[]++c)=Str.mk c
  simp
 refine⟨by rw[e0,sizeLine_eq];omega,joinParts_cons (FormattedValue_plain (thn (he pins s1 σ H1 _ I1 h) fun v s2 ⟨z,H2,I2,r2,i,ei,hs,q⟩=>?_))⟩
 subst ei
 obtain⟨t2,rfl⟩:=r2
 have hl:i.natAbs.log2<64:=by
  by_cases z:i.natAbs=0
  ·rw[z];decide
  ·exact (Nat.log2_lt z).mpr hs
 have hd:i.natAbs.log2<1920:=Nat.lt_trans hl (by decide)
 refine wpAny_formatField_int hd ?_
 have ht:=int_text_length_le (a:=i) (k:=64) (by decide) hl
 refine⟨by rw[e0,strLen_append,PySem.ofString_length,sizeLine_eq];omega,joinParts_nil ?_ (by rw[e0,strLen_append,PySem.ofString_length,sizeLine_eq];omega)⟩
 exact⟨.str _,H2,(I2.tok _).tok _,⟨_,rfl⟩,q _⟩
end
end L2
namespace L2
open PySem PySem.Spec PyProof.Rows
section
variable {X:Cx}{tg:Expr}
end
end L2
namespace L2
open PySem PySem.Spec PyProof.Rows
def x5o (K:W.Frag)(C D:Addr):Bool:=match K.lookup C with
 | some ⟨_,_,.cls cd,_⟩=>cd.mro.contains (.ref D)
 | _=>false
theorem y3f {K:W.Frag}{C:Addr}{bmB:List Value}{newId:String}(z:PySem.W.excIn K C bmB newId=true) :
 ∃ bm N nm qn bs hdct sn sub ab col dd k0 k1 k2 k3 k5,K.lookup C=some (excClassObj nm qn C N bs bm hdct sn sub ab col dd k0 k1 k2 k3 k5 newId)/\PySem.W.tailIn K bmB bm=true/\PySem.W.nsOkIn K N=true/\PySem.W.nsIn K N "__init__" = some none:=by
 unfold PySem.W.excIn at z
 split at z
 ·rename_i dv cv sv look
  split at z
  ·rename_i C2 bm s0 s1 s2 s3 nw s5 em es
   rw[Bool.and_eq_true,Bool.and_eq_true,Bool.and_eq_true,Bool.and_eq_true,Bool.and_eq_true]at z
   obtain⟨⟨⟨⟨⟨z1,z2⟩,z3⟩,z4⟩,z5⟩,z6⟩:=z
   have z1':=eq_of_beq z1
   have z2':=eq_of_beq z2
   have z6':=eq_of_beq z6
   subst z1' z2'
   obtain⟨c1,c2,c3,c4,c5,c6,c7,c8,c9,c10,c11⟩:=cv
   dsimp only at em z3 z5 z6'
   subst em
   have z3':c11=false:=by simpa using z3
   subst z3'
   have hs:sv=#[s0,s1,s2,s3,some (.builtin nw),s5]:=by
    obtain⟨ll⟩:=sv
    have es':ll=[s0,s1,s2,s3,some (.builtin nw),s5]:=es
    rw[es']
   subst hs
   exact⟨bm,c4,c1,c5,c2,c6,c7,c8,c9,c10,dv,s0,s1,s2,s3,s5,look,z4,z5,z6'⟩
  ·cases z
 ·cases z
theorem w2f {K:W.Frag}{h:Heap}{mg:Str->Option Value}{x:Str}{C:Addr}{bmB:List Value}{newId:String}(X:K.In h)(G:h.Ns mainGlobals mg)(e:PySem.W.nsIn K mainGlobals x=some (some (.ref C)))(z:PySem.W.excIn K C bmB newId=true):OwnCls x C bmB newId mg h:=by
 obtain⟨bm,N,nm,qn,bs,hdct,sn,sub,ab,col,dd,k0,k1,k2,k3,k5,lk,ht,hok,hni⟩:=y3f z
 exact⟨PySem.W.mg_of X G e,bm,N,nm,qn,bs,hdct,sn,sub,ab,col,dd,k0,k1,k2,k3,k5,_,X _ _ lk,.of_isNs (PySem.W.isNs_of_in X hok),PySem.W.nsMap_none_of_in X hok hni,PySem.W.tail_of_in X ht⟩
theorem x8v {K:W.Frag}{h:Heap}{C D:Addr}{bmB:List Value}{newId:String}(X:K.In h)(zC:PySem.W.excIn K C bmB newId=true)(zD:PySem.W.excIn K D bmB newId=true)(hb:bmB.contains (.type "BaseException")=true)(m:x5o K C D=true):z9i h C D:=by
 obtain⟨bm,N,nm,qn,bs,hdct,sn,sub,ab,col,dd,k0,k1,k2,k3,k5,lk,ht,hok,hni⟩:=y3f zC
 obtain⟨bm',N',nm',qn',bs',hdct',sn',sub',ab',col',dd',k0',k1',k2',k3',k5',lk',ht',hok',hni'⟩:=y3f zD
 unfold x5o at m
 rw[lk]at m
 intro M A E s e oe Q k he hc q
 obtain⟨hp,g,d,t,os⟩:=s
 exact z8w (k _ _ (X _ _ lk)) (k _ _ (X _ _ lk')) he hc ((PySem.W.tail_of_in X ht').hasType hb) m q
abbrev bmVE:List Value:=[.type "ValueError",.type "Exception",.type "BaseException",.type "object"]
structure ExcTop (x:Str)(K:W.Frag)(mg:Str->Option Value)(base:Heap)(C CL:Addr):Prop where
 own:OwnCls x C bmVE "ValueError.__new__" mg base
 le:mg "LampError" = some (.ref CL)
 catL:z9i base C CL
 kit:ExcKit K C
 ve:mg "ValueError" = none
 k3:PySem.W.kitOne K (.ref C) (.type "ValueError")=some true
theorem ExcTop.catS {x:Str}{K:W.Frag}{mg:Str->Option Value}{base:Heap}{C CL:Addr}(Z:ExcTop x K mg base C CL):z9i base C C:=y8f Z.own (by decide +kernel)
end L2
namespace L2
open PySem PySem.Spec PyProof.Rows
theorem z7m {t u:TS}{D:Ends}{σ:St}{H:Hp}(I:St->Hp->Prop)(h1:∀ N:St->Hp->Prop,(∀ σ' H',I σ' H'->N σ' H')->t { D with nx:=N } σ H) (h2:∀ σ' H',I σ' H'->u D σ' H'):tSeq t u D σ H:=h1 _ h2
section
variable {X:Cx}{K:W.Frag}
theorem w0o (hK:X.K=K)(hu:X.A.units<cLine):OpR X (compareOp .Eq) (fun x y H Q=>(∃ k,LCmp K H x y k/\Q (.bl k) H)∨(x=.non/\(∃ b ys,y=.ref b/\SqL K H b ys)/\Q (.bl false) H)):=hK▸y2h hu
def w2b (K:W.Frag):R2:=fun x y H Q=>∃ (p a:Addr) (ps:List (Addr×List V)),x=.ref p/\y=.ref a/\H p=some (.lst [])/\SqL K H a (ps.map fun q=>V.ref q.1)/\(∀ q∈ps,H q.1=some (.lst q.2))/\Q (.bl (ps.any fun q=>q.2.isEmpty)) H
theorem x1c (hu:X.A.units+1<cLine):OpR X (compareOp .In) (w2b X.K):=by
 intro pins s σ H x y v u Q I rx ry h
 obtain⟨p,a,ps,rfl,rfl,hp,ha,hq,q⟩:=h
 cases (show v=Value.ref p from rx)
 cases (show u=Value.ref a from ry)
 obtain⟨its,r,pl,hz⟩:=I.list ha
 have eit:its=ps.map fun q=>Value.ref q.1:=by
  clear q hz pl ha
  have:∀ (ps:List (Addr×List V)) (its:List Value),Vals (ps.map fun q=>V.ref q.1) its->its=ps.map fun q=>Value.ref q.1:=by
   intro ps
   induction ps with
   | nil=>intro its r;cases r;rfl
   | cons q ps ih =>
    intro its r
    cases r with
    | cons r1 r2=>rw[show _=Value.ref q.1 from r1,ih _ r2];rfl
  exact this ps its r
 have ans:∃ e:Value->Bool,∀ q∈ps,e (.ref q.1)=q.2.isEmpty:=by
  refine⟨fun u=>match u with | .ref b=>(match H b with|some (.lst ys)=>ys.isEmpty | _=>false) | _=>false,fun q hq'=>?_⟩
  show (match H q.1 with|some (.lst ys)=>ys.isEmpty | _=>false)=_
  rw[hq q hq']
 obtain⟨e,he⟩:=ans
 have hany:its.any e=ps.any fun q=>q.2.isEmpty:=by
  rw[eit,List.any_map]
  clear eit r pl ha q hz
  induction ps with
  | nil=>rfl
  | cons q ps ih =>
   rw[List.any_cons,List.any_cons,ih (fun q hq'=>hq q (List.mem_cons_of_mem _ hq')) (fun q hq'=>he q (List.mem_cons_of_mem _ hq'))]
   congr 1
   exact he q List.mem_cons_self
 refine SeqAt.in_listAt e pl.isList (fun w hw=>?_) ⟨.bl _,H,I,rfl,?_⟩
 ·have hw':w∈its:=by simpa using hw
  rw[eit]at hw'
  obtain⟨z,hzm,rfl⟩:=List.mem_map.mp hw'
  rw[he z hzm]
  by_cases hne:z.1=p
  ·have:=hq z hzm
   rw[hne,hp]at this
   injection this with this
   injection this with this
   rw[hne,←this]
   exact SeqAt.EqAt.same _
  ·refine SeqAt.EqAt.of_refs hne ?_
   have hu1:X.A.in1.units<cLine:=by rw[units_in1];exact hu
   obtain⟨i1,r1,p1,z1⟩:=I.list (qLo (K:=X.K) (hq z hzm))
   obtain⟨i2,r2,p2,z2⟩:=I.list (qLo (K:=X.K) hp)
   have l1:=r1.length
   have l2:=r2.length
   cases hzc:z.2 with
   | nil =>
    rw[hzc]at l1
    have e1:i1=[]:=List.length_eq_zero_iff.mp (by simpa using l1.symm)
    have e2:i2=[]:=List.length_eq_zero_iff.mp (by simpa using l2.symm)
    subst e1 e2
    exact SeqAt.RcAt.lists (e:=fun _=>true) p1.isList p2.isList rfl hu1 (fun j h1=>absurd h1 (by simp))
   | cons x xs =>
    rw[hzc]at l1
    refine SeqAt.RcAt.lists_lengths p1.isList p2.isList ?_ hu1
    have e2:i2=[]:=List.length_eq_zero_iff.mp (by simpa using l2.symm)
    subst e2
    rw[bne_iff_ne]
    simp at l1 ⊢
    intro z;rw[z]at l1;simp at l1
 ·rw[show its.toArray.any e=its.any e by simp,hany]
  exact q
def x3s (C:Addr)(sp:Sp)(ta:TA)(tb:TE)(rr:R2)(ts:TS):TS:=fun D σ H=>ta σ H fun vs H1=>sp vs H1 (fun v H2=>tb σ H2 fun y H3=>rr v y H3 D.rt) (fun c _ H2=>c=.ref C/\ts D σ H2)
theorem y8y {X:Cx}{k m:Nat}{x cn:Str}{ps:List Str}{sp:Sp}{C Dc:Addr}{e b:Expr}{es:List Expr}{ta:TA}{tb:TE}{rr:R2}{ts:TS}{p p2 p3 pc np hp pos:Pos}{b₀:Stmt}{suite:List Stmt}(G:CalX X.prog X.w X.K X.mg X.base k x ps sp)(hr:Room m X.A)(hk:k<=m)
 (hm:X.mg cn=some (.ref Dc)) (hcat:z9i X.base C Dc) (ha:∀ E,PA (X.wish E) (e::es) ta) (hb:∀ E,PE (X.wish E) b tb) (ho:∀ E,OpR (X.wish E) (compareOp .Eq) rr) (hs:∀ ea,PSs (X.suite ea) (b₀::suite) ts)
 (hmk:behindInMarks .Eq b=false) (hst:X.stack=X.env::X.outer:=by rfl) (hfr:X.env.frame=some X.env.locals:=by rfl) (hg:Gl X x:=by rfl) (hgc:Gl X cn:=by rfl)
 (hdb:(x==("__debug__" : Str))=false:=by decide) (hdc:(cn==("__debug__" : Str))=false:=by decide) (he:starEach (e::es) X.env=(false,eval e X.env)::starEach es X.env:=by rfl) (hpl:(backTo p2 (starEach es X.env)).any (·.1)=false:=by rfl) :
 PS X.nox (.Try [.Return (some (.Compare (.Call (.Name x p) (e::es) [] p2) [.Eq] [b] pc)) p3] [.ExceptHandler (some (.Name cn np)) none (b₀::suite) hp] [] [] pos) (x3s C sp ta tb rr ts):=by
 intro pins s σ H D I h
 obtain⟨f,fd,F,hmx,hkp,hbn⟩:=G.ex
 have I0:Inv X pins σ H s:=I.unwish
 refine wpAny_Try_except ?_
 refine wpAny_execs_cons ?_
 refine wpAny_Return_some ?_
 refine wpAny_Compare1 ?_ hmk
 refine wpAny_Call_Name_kw (y2r I hg hmx ?_ hdb)
 refine PySem.W.callWith_K (h₀:=X.base) I.ok.mod.kin hkp (thn (ha (Land X [.ExceptHandler (some (.Name cn np)) none (b₀::suite) hp] (SP X.nox pins D)) _ pins s σ H _ (I0.wish _) h) fun us s1 ⟨vs,H1,I1,r,q⟩=>⟨I1.kIn,?_⟩) he hpl
 refine thn (w0e (X:=X.wish (Land X [.ExceptHandler (some (.Name cn np)) none (b₀::suite) hp] (SP X.nox pins D))) F (hr.mono hk) hbn (fun e' s' fl=>?_) I1 r q) fun v s2 ⟨z,H2,I2,r2,q2⟩=>?_
 ·refine x7c (X:=X) hst hfr I1.unwish fl hgc hm hcat hdc fun ea s6 H2 I6 hR=>?_
  exact wpAny_mono (hs ea pins s6 σ H2 D (I6.suite ea) hR) (fun _ _ z=>(z.unsuite I0.ok:SP X pins D _ _).wishN) fun _ _ z=>False.elim z
 ·refine thn (hb (Land X [.ExceptHandler (some (.Name cn np)) none (b₀::suite) hp] (SP X.nox pins D)) pins s2 σ H2 _ I2 q2) fun u s3 ⟨y,H3,I3,r3,q3⟩=>?_
  refine thn (ho (Land X [.ExceptHandler (some (.Name cn np)) none (b₀::suite) hp] (SP X.nox pins D)) pins s3 σ H3 z y v u _ I3 r2 r3 q3) fun w' s4 ⟨z4,H4,I4,r4,q4⟩=>?_
  exact⟨z4,σ,H4,I4.unwish.wish _,r4,q4⟩
end
end L2
namespace L2
open PySem PySem.Spec PyProof.Rows
structure MCal (P:Program)(w:World)(K:W.Frag)(mg:Str->Option Value)(base:Heap)(k:Nat)(C:Addr)(m:Str)(ps:List Str)(sp:Sp):Prop where
 ex:∃ f fd,FnOk P w K mg base CX0 k f fd ps sp/\Meth K C m f/\Binds K fd ps []
structure MDef (K:W.Frag)(C:Addr)(m qual:Str)(st:Stmt)(ps:List Str):Prop where
 ex:∃ f fd,Fun K m qual st f fd/\Meth K C m f/\Binds K fd ps []
theorem MDef.cal {P:Program}{w:World}{K:W.Frag}{mg:Str->Option Value}{base:Heap}{C:Addr}{m qual:Str}{st:Stmt}{N ps:List Str}{k:Nat}{sp:Sp}(D:MDef K C m qual st ps)(S:FnScope N ps (z0g st))(len:∀ vs H Q E,sp vs H Q E->vs.length=ps.length)
 (hbody:∀ (f:Addr) (cdv:Value) (A:Around) (outer:List Env) (s:Shared) (H:Hp) (vs:List V) (Q:VK) (E:XK),Room k (A.deeper (envOfC qual (z0g st) s.heap.objs.size f cdv))->sp vs H Q E ->
  ∃ t,PSs (cxOf CX0 P w K mg base N qual (z0g st) f cdv A outer s H E).nox (z0m st) t/\t { nx:=fun _ H'=>Q .non H',rt:=Q } (start N vs) H):MCal P w K mg base (k+1) C m ps sp:=by
 obtain⟨f,fd,F,hm,hb⟩:=D.ex
 exact⟨f,fd,F.ok S len (hbody f),hm,hb⟩
theorem z7z {K:W.Frag}{C:Addr}{m qual:Str}{st:Stmt}{ps:List Str}{f:Addr}{oc:Value}{od an:Option Addr}{osl:Array (Option Value)}{kV doc pm cdv ct:Value}
 (a:PySem.W.findIn K (.ref C) m=some (some (.ref f))) (i:PySem.W.isFn K (.ref f)=true) (l:K.lookup f=some ⟨oc,od,.func (PySem.W.fnOf m qual (z0r st) (z0m st) (z0g st) .none kV doc pm an cdv ct),osl⟩) (c:PySem.W.codeIn K cdv qual=true) (k:PySem.W.keepIn K (.ref f)=true)
 (b:∀ (kV doc pm:Value) (an:Option Addr) (cdv ct:Value) (us:List Value),us.length=ps.length->bindArgs (PySem.W.fnOf m qual (z0r st) (z0m st) (z0g st) .none kV doc pm an cdv ct) ⟨us,[]⟩=pure (ps.zip us)):MDef K C m qual st ps :=
 ⟨f,_,y7t l c k,⟨a,i,k⟩,(y7t l c k).binds b⟩
structure Made (P:Program)(w:World)(K:W.Frag)(mg:Str->Option Value)(base:Heap)(k:Nat)(x:Str)(C:Addr)(ps:List Str)(sp:Sp):Prop where
 ex:∃ f fd,FnOk P w K mg base CX0 k f fd ps sp/\Mk K C f/\Binds K fd ps []/\mg x=some (.ref C)
section
variable {X:Cx}{k n:Nat}{C:Addr}{m x:Str}{ps:List Str}{sp:Sp}{p pos apos:Pos}{e o:Expr}{es:List Expr}{ta:TE}{t:TA}
theorem z6s {pl:Sem Bool}(G:MCal X.prog X.w X.K X.mg X.base k C m ps sp)(c:Cls X.K C)(hr:Room n X.A)(hk:k<=n)(he:PE X o ta)(ha:PA X (e::es) t)
 (hst:starEach (e::es) X.env=(false,eval e X.env)::starEach es X.env:=by rfl) (hpl:(backTo pos (starEach es X.env)).any (·.1)=false:=by rfl)
 (ht:eval (.Call (.Attribute o m apos) (e::es) [] pos) X.env=(do
  let ov ←eval o X.env
  standAt apos.atName
  let (f,first) ←holding [ov] (getMethod ov m pl)
  callWith pos f first (backTo pos (starEach (e::es) X.env)) (backToKw pos (keywordEach [] X.env))):=by rfl) :
 PE X (.Call (.Attribute o m apos) (e::es) [] pos) (tMeth C m sp [] E0 ta t):=by
 obtain⟨f,fd,F,hm,hb⟩:=G.ex
 exact w0i he c hm F (hr.mono hk) hb .nil pass0 ha hst hpl ht
theorem z9o {pl:Sem Bool}(G:MCal X.prog X.w X.K X.mg X.base k C m ps sp)(c:Cls X.K C)(hr:Room n X.A)(hk:k<=n)(he:PE X o ta)
 (ht:eval (.Call (.Attribute o m apos) [] [] pos) X.env=(do
  let ov ←eval o X.env
  standAt apos.atName
  let (f,first) ←holding [ov] (getMethod ov m pl)
  callWith pos f first (backTo pos (starEach [] X.env)) (backToKw pos (keywordEach [] X.env))):=by rfl) :
 PE X (.Call (.Attribute o m apos) [] [] pos) (tMeth C m sp [] E0 ta tNil):=by
 obtain⟨f,fd,F,hm,hb⟩:=G.ex
 exact x7s he c hm F (hr.mono hk) hb .nil pass0 ht
theorem w0k (G:Made X.prog X.w X.K X.mg X.base k x C ps sp)(hr:Room n X.A)(hk:k+1<=n)(ha:PA X (e::es) t)(hg:Gl X x:=by rfl)
 (hdb:(x==("__debug__" : Str))=false:=by decide) (he:starEach (e::es) X.env=(false,eval e X.env)::starEach es X.env:=by rfl) (hpl:(backTo pos (starEach es X.env)).any (·.1)=false:=by rfl) :
 PE X (.Call (.Name x p) (e::es) [] pos) (tMake C sp [] E0 t):=by
 obtain⟨f,fd,F,M,hb,hm⟩:=G.ex
 exact w0j M F (hr.mono hk) hg hm hb .nil pass0 ha hdb he hpl
theorem y9a {K:W.Frag}{f:Str}(hK:X.K=K)(he:PE X e ta)(hb:attributeBase e f X.env (eval e X.env)=eval e X.env):PE X (.Attribute e f pos) (tFld K ta f):=hK▸z1n he hb
theorem x7d (hc:X.calm=true):CallR X (.builtin "min") (fun xs H Q=>∃ (a:Addr)(kvs:List (Key×V))(ns:List Int),xs=[V.ref a]/\Rd H a (.dK kvs)/\kvs.map (·.1)=ns.map Sum.inl/\ns≠[]/\∀ y∈ns,(∀ z∈ns,y<=z)->Q (.int y) H):=by
 intro pins s σ H xs us Q I r h
 obtain⟨a,kvs,ns,rfl,ha,hks,hne,q⟩:=h
 obtain⟨u,rfl,ru⟩:=vals1 r
 cases (show u=Value.ref a from ru)
 obtain⟨hz,lo,vs,rel,o,es,ep,h1,h2,h3,h4,h5,h6⟩:=dk_rd I.hok ha
 have hok:s.heap.DictAt (z1q X.prog X.w) a vs ep:=⟨o,es,h1,h2,h3,h4,h5,h6⟩
 have hkeys:vs.map (·.1)=ns.map Sum.inl:=by rw[←rel.keys];exact hks
 have hlen:vs.length=ns.length:=by simpa using congrArg List.length hkeys
 have hpos:0<vs.length:=by rw[hlen];exact List.length_pos_iff.mpr hne
 refine call_min_walk (wpAny_pyIter_dict lo hok ?_)
 have hval:∀ (i:Nat) (v:Value),(∃ k x,vs[i]?=some (k,x)/\(z1q X.prog X.w).is k v=true)->∃ t,v=.int (ns.getD i 0) t:=by
  rintro i v ⟨k,x,e1,e2⟩
  have e3:(vs.map (·.1))[i]?=some k:=by rw[List.getElem?_map,e1];rfl
  rw[hkeys,List.getElem?_map]at e3
  cases e4:ns[i]? with
  | none=>rw[e4]at e3;cases e3
  | some z =>
   rw[e4]at e3
   have e5:(Sum.inl z:Key)=k:=Option.some.inj e3
   subst e5
   have e2':keyIs (Sum.inl z) v=true:=e2
   rcases z1s e2' with ⟨j,t,ej,ev⟩|⟨y,t,ej,ev⟩
   ·cases ej
    exact⟨t,by rw[ev];simp[List.getD,e4]⟩
   ·cases ej
 refine⟨s.heap.objs.size,[s.heap.objs.size,a],[s.heap.objs.size],vs.length,_,_,_,rfl,Walks.dictKeys (A:=X.A.in1) (knd:=z1q X.prog X.w) (I.ok.hd hc) _ a (Nat.ne_of_lt hok.lt_size) vs ep,⟨⟨_,Heap.get?_push_size _ rfl,rfl,rfl⟩,hok.push _⟩,fun b hb=>?_,hpos,CmpOf.ints_lt (fun i=>ns.getD i 0) hval,fun v h' tk hP hk=>?_⟩
 ·have hsz:(s.heap.push { cls:=.type "dict_keyiterator",data:=.fields #[.ref a,.int 0 0,.int vs.length 0,.int ep 0] }).objs.size=s.heap.objs.size+1:=Heap.size_push ..
  show b<(s.heap.push { cls:=.type "dict_keyiterator",data:=.fields #[.ref a,.int 0 0,.int vs.length 0,.int ep 0] }).objs.size
  rw[hsz]
  have hb':b=s.heap.objs.size∨b=a:=by simpa using hb
  rcases hb' with z|z
  ·rw[z];exact Nat.lt_succ_self _
  ·rw[z];exact Nat.lt_succ_of_lt hok.lt_size
 ·obtain⟨t,rfl⟩:=hval _ _ hP
  obtain⟨b1,b2⟩:=argBest_lt (fun i=>ns.getD i 0) (vs.length-1)
  have hlt:argBest (fun i j=>decide (ns.getD i 0<ns.getD j 0)) (vs.length-1)<ns.length:=by omega
  refine⟨.int (ns.getD (argBest (fun i j=>decide (ns.getD i 0<ns.getD j 0)) (vs.length-1)) 0),H,I.kept (t':=tk) fun b o e=>?_,⟨t,rfl⟩,q _ ?_ ?_⟩
  ·refine hk b o (fun z=>?_) (Heap.get?_push_of_some _ e)
   have z':b=s.heap.objs.size:=by simpa using z
   rw[z']at e
   exact absurd (Heap.lt_size e) (Nat.lt_irrefl _)
  ·rw[List.getD_eq_getElem?_getD,List.getElem?_eq_getElem hlt];exact List.getElem_mem hlt
  ·intro z hz'
   obtain⟨j,hj,ej⟩:=List.mem_iff_getElem.mp hz'
   have:=b2 j (by omega)
   have e6:ns.getD j 0=z:=by rw[List.getD_eq_getElem?_getD,List.getElem?_eq_getElem hj,←ej];rfl
   rw[e6]at this
   exact this
end
end L2
namespace L2
open PySem PySem.Spec PyProof.Rows
section
variable {prog:Program}{w:World}{A:Around}{R:Result->Shared->Prop}{I:Addr}{fp wr:List Addr}{n:Nat}{P:Nat->Value->Prop}{St:Nat->Heap->Prop}
theorem w2k (W:Walks prog w A.in1 I fp wr n P St)(bt:Nat->Nat->Bool)(hcmp:CmpOf prog w A.in1 .Lt P bt)(S:Addr)(hSf:S ∉ fp)(kw:Str)(d:Value) :
 ∀ (k j:Nat) (s:Shared) (bs:List Value) (c:Nat),j+k=n->St j s.heap->(j=0/\bs=[]∨∃ u,bs=[u,u]/\0<j/\P (argBest bt (j-1)) u) ->
 s.heap.get? S=some { cls:=.type "list",dict:=none,data:=.seq bs.toArray c,slots:=#[] } ->
 (∀ v h' tk,(n=0/\v=d∨0<n/\P (argBest bt (n-1)) v)->(∀ b o,b ∉ wr->b≠S->s.heap.get? b=some o->h'.get? b=some o)->R (.ok (.ret v)) { s with heap:=h',toks:=tk }) ->
 codeAny (model prog w) A (.builtin "min.loop" ⟨[.ref I,.none,.ref S],[(kw,d)]⟩) R s:=by
 have hSw:S ∉ wr:=fun h=>hSf (W.sub _ h)
 have hname:(toString "min" ++ toString ".loop" : String)="min.loop":=by decide
 intro k
 induction k with
 | zero =>
  intro j s bs c hj hst hb hS hR
  have hjn:j=n:=by omega
  subst hjn
  refine codeAny_builtin F.entry_min_loop ?_
  rw[Around.under_plainId F.plain_min_loop _]
  show wpAny _ A.in1 (seqItems? (.ref S) >>= _) _ _ s
  refine wpAny_bind (wpAny_seqItems hS rfl ?_)
  rcases hb with ⟨j0,rfl⟩|⟨u,rfl,j0,hu⟩
  ·refine wpAny_bind (wpAny_tryCatch (W.done s _ _ hst fun h' tk hk'=>?_))
   refine wpAny_bind (wpAny_rule (wpAny_pure ?_))
   exact hR d _ tk (.inl ⟨j0,rfl⟩) fun b o hbw _ e=>hk' b o hbw e
  ·refine wpAny_bind (wpAny_tryCatch (W.done s _ _ hst fun h' tk hk'=>?_))
   have hS':=hk' S _ hSw hS
   refine wpAny_bind (wpAny_updateSeq hS' rfl (wpAny_bind (wpAny_letGo (wpAny_pure ?_))))
   exact hR u _ tk (.inr ⟨j0,hu⟩) fun b o hbw hbS e=>(Heap.get?_update_other _ _ (Ne.symm hbS)).trans (hk' b o hbw e)
 | succ k ih =>
  intro j s bs c hj hst hb hS hR
  have hlt:j<n:=by omega
  refine codeAny_builtin F.entry_min_loop ?_
  rw[Around.under_plainId F.plain_min_loop _]
  show wpAny _ A.in1 (seqItems? (.ref S) >>= _) _ _ s
  refine wpAny_bind (wpAny_seqItems hS rfl ?_)
  have go:∀ (h':Heap) (tk c':Nat) (u:Value),St (j+1) h'->P (argBest bt j) u->h'.get? S=some { cls:=.type "list",dict:=none,data:=.seq #[u,u] c',slots:=#[] }->(∀ b o,b ∉ wr->b≠S->s.heap.get? b=some o->h'.get? b=some o) ->
   codeAny (model prog w) A (.builtin "min.loop" ⟨[.ref I,.none,.ref S],[(kw,d)]⟩) R { s with heap:=h',toks:=tk }:=fun h' tk c' u st hu hs hk =>
   ih (j+1) _ [u,u] c' (by omega) st (.inr ⟨u,rfl,Nat.succ_pos _,hu⟩) hs fun v h'' tk'' hv hk''=>hR v h'' tk'' hv fun b o hbw hbS e=>hk'' b o hbw hbS (hk b o hbw hbS e)
  have frS:∀ (h':Heap) (o:Obj->Obj),St (j+1) h'->St (j+1) (h'.update S o):=fun h' o st=>W.frame _ _ _ st fun b hbf x e=>(Heap.get?_update_other _ _ (fun h:S=b=>hSf (by rw[h];exact hbf))).trans e
  rcases hb with ⟨j0,rfl⟩|⟨u,rfl,j0,hu⟩
  ·subst j0
   refine wpAny_bind (wpAny_tryCatch (W.item 0 s _ _ hlt hst fun v h' tk hP hst' hk'=>?_))
   have hS':=hk' S _ hSw hS
   refine wpAny_bind (wpAny_pure ?_)
   refine wpAny_bind (wpAny_updateSeq hS' rfl ?_)
   rw[hname]
   exact wpAny_pure ⟨plainId_quiet F.plain_min_loop _,go _ tk _ v (frS _ _ hst') hP (Heap.get?_update_self _ hS' rfl) fun b o hbw hbS e=>(Heap.get?_update_other _ _ (Ne.symm hbS)).trans (hk' b o hbw e)⟩
  ·refine wpAny_bind (wpAny_tryCatch (W.item j s _ _ hlt hst fun v h' tk hP hst' hk'=>?_))
   have hS':=hk' S _ hSw hS
   obtain⟨i,rfl⟩:∃ i,j=i+1:=⟨j-1,by omega⟩
   have hu':P (argBest bt i) u:=hu
   refine wpAny_bind (wpAny_pure ?_)
   refine wpAny_bind (wpAny_tryCatch (wpAny_holding (wpAny_bind (hcmp (i+1) (argBest bt i) v u _ _ _ hP hu' ?_))))
   refine wpAny_bind (wpAny_holding (wpAny_truthy_bool ?_))
   refine wpAny_bind (wpAny_letGo (wpAny_pure ?_))
   have ea:argBest bt (i+1)=if bt (i+1) (argBest bt i)=true then i+1 else argBest bt i:=rfl
   by_cases hbt:bt (i+1) (argBest bt i)=true
   ·rw[hbt]
    rw[if_pos hbt]at ea
    refine wpAny_bind (wpAny_updateSeq hS' rfl (wpAny_bind (wpAny_letGo ?_)))
    rw[hname]
    exact wpAny_pure ⟨plainId_quiet F.plain_min_loop _,go _ tk _ v (frS _ _ hst') (by rw[ea];exact hP) (Heap.get?_update_self _ hS' rfl) fun b o hbw hbS e=>(Heap.get?_update_other _ _ (Ne.symm hbS)).trans (hk' b o hbw e)⟩
   ·have hbf:bt (i+1) (argBest bt i)=false:=by simpa using hbt
    rw[hbf]
    rw[if_neg hbt]at ea
    refine wpAny_bind (wpAny_letGo ?_)
    rw[hname]
    exact wpAny_pure ⟨plainId_quiet F.plain_min_loop _,go _ tk c u hst' (by rw[ea];exact hu') hS' fun b o hbw hbS e=>hk' b o hbw e⟩
end
section
variable {prog:Program}{w:World}{A:Around}{E:Value->Shared->Prop}{s:Shared}
theorem x7h (a d:Value):argsOk "min" ⟨[a],[(("default" : Str),d)]⟩:=by unfold argsOk;kernel_rfl
theorem y8g {id:String}{b:Builtin}{args:Args}{Q:Value->Shared->Prop}(hk:builtinKind id=none)(hp:plainId id=true)(hb:entryFor table id=some b)(ha:argsOk id args)
 (hc:wpAny (model prog w) A.in1 (b args) (fun fin s'=>match fin with
  | .done f=>(match (Except.ok f:Result) with | .ok (.ret v)=>Q v s' | .ok _=>False | .error e=>E e s')
  | .again c'=>c'.quiet=true/\codeAny (model prog w) A c' (fun r s'=>match r with | .ok (.ret v)=>Q v s' | .ok _=>False | .error e=>E e s') s') E s) :
 wpAny (model prog w) A (call (.builtin id) args.pos args.kw) Q E s:=by
 refine wpAny_call (codeAny_call_builtin hp hb ?_)
 simp only[checkBuiltinCall,hk]
 cases hsig:Manifest.signature? id with
 | none=>exact wpAny_pure hc
 | some sig =>
  have h2:Bind.checkArgs id sig args=pure ():=by simpa only[argsOk,hsig] using ha
  show wpAny _ A.in1 (Bind.checkArgs id sig args) _ _ s
  rw[h2];exact wpAny_pure hc
theorem x0c {x d:Value}{Q:Value->Shared->Prop}
 (h:wpAny (model prog w) A.in1 (pyIter x) (fun it s2=>∃ I fp wr n P St bt,it=.ref I/\Walks prog w A.in1 I fp wr n P St/\St 0 s2.heap/\(∀ b∈fp,b<s2.heap.objs.size)/\CmpOf prog w A.in1 .Lt P bt /\
  ∀ v h' tk,(n=0/\v=d∨0<n/\P (argBest bt (n-1)) v)->(∀ b o,b ∉ wr->s2.heap.get? b=some o->h'.get? b=some o)->Q v { s2 with heap:=h',toks:=tk }) E s) :
 wpAny (model prog w) A (call (.builtin "min") [x] [(("default" : Str),d)]) Q E s:=by
 have hname:(toString "min" ++ toString ".loop" : String)="min.loop":=by decide
 refine y8g (args:=⟨[x],[(("default" : Str),d)]⟩) F.kind_min F.plain_min F.entry_min (x7h x d) ?_
 show wpAny _ A.in1 (Builtin.Builtins.bindParams "min" ["key","default"] 0 ⟨[],[(("default" : Str),d)]⟩ >>= _) _ _ s
 refine wpAny_bind (wpAny_of_eq (show Builtin.Builtins.bindParams "min" ["key","default"] 0 ⟨[],[(("default" : Str),d)]⟩=pure [none,some d] from rfl) ?_)
 refine wpAny_bind (wpAny_pure ?_)
 refine wpAny_bind (wpAny_mono h (fun it s2 h2=>?_) fun _ _ e=>e)
 obtain⟨I,fp,wr,n,P,St,bt,rfl,W,hst,hfp,hcmp,hQ⟩:=h2
 refine wpAny_bind (wpAny_newObj_type ?_)
 have hSf:s2.heap.objs.size ∉ fp:=fun hm=>Nat.lt_irrefl _ (hfp _ hm)
 rw[hname]
 exact wpAny_pure ⟨plainId_quiet F.plain_min_loop _,w2k W bt hcmp s2.heap.objs.size hSf "default" d n 0 _ [] _ (by omega) (W.frame _ _ _ hst fun b _ o e=>Heap.get?_push_of_some _ e) (.inl ⟨rfl,rfl⟩) (Heap.get?_push_size _ rfl)
  fun v h' tk hv hk=>hQ v h' tk hv fun b o hbw e=>hk b o hbw (Nat.ne_of_lt (Heap.lt_size e)) (Heap.get?_push_of_some _ e)⟩
end
section
variable {X:Cx}{e v:Expr}{te tv:TE}{p pos kp:Pos}
def w1s (te tv:TE):TE:=fun σ H Q=>te σ H fun x H1=>tv σ H1 fun y H2=>∃ (a:Addr) (kvs:List (Key×V)) (ns:List Int),x=.ref a/\Rd H2 a (.dK kvs)/\kvs.map (·.1)=ns.map Sum.inl/\(ns=[]->Q y H2)/\∀ z∈ns,(∀ u∈ns,z<=u)->Q (.int z) H2
def w2l (tv:TE)(σ:St)(Q:VK):List V->Hp->Prop:=fun xs H1=>match xs with
 | [x]=>tv σ H1 fun y H2=>∃ (a:Addr) (kvs:List (Key×V)) (ns:List Int),x=.ref a/\Rd H2 a (.dK kvs)/\kvs.map (·.1)=ns.map Sum.inl/\(ns=[]->Q y H2)/\∀ z∈ns,(∀ u∈ns,z<=u)->Q (.int z) H2
 | _=>False
theorem x7r (hc:X.calm=true)(hm:X.mg "min" = none)(he:PE X e te)(hv:PE X v tv)(hg:Gl X "min":=by rfl) (hse:starEach [e] X.env=[(false,eval e X.env)]:=by rfl)
 (hB:backTo pos (starEach [e] X.env)=(false,eval e X.env)::backTo pos (starEach [] X.env):=by rfl) (hpl:(backTo pos (starEach [e] X.env)).any (·.1)=false:=by rfl):PE X (.Call (.Name "min" p) [e] [⟨some "default",v,kp⟩] pos) (w1s te tv):=by
 intro pins s σ H Q I h
 refine wpAny_Call_Name_kw (y1a I hg hm x7g ?_)
 refine callWith_kw (thn ((z0a he z0d hse) pos pins s σ H (w2l tv σ Q) I h) fun us s1 ⟨vs,H1,I1,r1,q1⟩=>?_) hB hpl
 have hx:∃ x,vs=[x]:=by
  cases vs with
  | nil=>exact q1.elim
  | cons x l =>
   cases l with
   | nil=>exact⟨x,rfl⟩
   | cons _ _=>exact q1.elim
 obtain⟨x,rfl⟩:=hx
 obtain⟨u,rfl,ru⟩:=vals1 r1
 refine kws_cons (thn (hv pins s1 σ H1 _ I1 q1) fun d s2 ⟨y,H2,I2,ry,a,kvs,ns,ex,ha,hks,qn,qm⟩=>kws_nil ?_)
 subst ex
 cases (show u=Value.ref a from ru)
 show wpAny _ _ (call (.builtin "min") [Value.ref a] [(("default" : Str),d)]) _ _ _
 obtain⟨hz,lo,ws,rel,o,es,ep,h1,h2,h3,h4,h5,h6⟩:=dk_rd I2.hok ha
 have hok:s2.heap.DictAt (z1q X.prog X.w) a ws ep:=⟨o,es,h1,h2,h3,h4,h5,h6⟩
 have hkeys:ws.map (·.1)=ns.map Sum.inl:=by rw[←rel.keys];exact hks
 have hlen:ws.length=ns.length:=by simpa using congrArg List.length hkeys
 refine x0c (wpAny_pyIter_dict lo hok ?_)
 have hval:∀ (i:Nat) (v:Value),(∃ k x,ws[i]?=some (k,x)/\(z1q X.prog X.w).is k v=true)->∃ t,v=.int (ns.getD i 0) t:=by
  rintro i v ⟨k,x,e1,e2⟩
  have e3:(ws.map (·.1))[i]?=some k:=by rw[List.getElem?_map,e1];rfl
  rw[hkeys,List.getElem?_map]at e3
  cases e4:ns[i]? with
  | none=>rw[e4]at e3;cases e3
  | some z =>
   rw[e4]at e3
   have e5:(Sum.inl z:Key)=k:=Option.some.inj e3
   subst e5
   have e2':keyIs (Sum.inl z) v=true:=e2
   rcases z1s e2' with ⟨j,t,ej,ev⟩|⟨y,t,ej,ev⟩
   ·cases ej
    exact⟨t,by rw[ev];simp[List.getD,e4]⟩
   ·cases ej
 refine⟨s2.heap.objs.size,[s2.heap.objs.size,a],[s2.heap.objs.size],ws.length,_,_,_,rfl,Walks.dictKeys (A:=X.A.in1) (knd:=z1q X.prog X.w) (I2.ok.hd hc) _ a (Nat.ne_of_lt hok.lt_size) ws ep,⟨⟨_,Heap.get?_push_size _ rfl,rfl,rfl⟩,hok.push _⟩,fun b hb=>?_,CmpOf.ints_lt (fun i=>ns.getD i 0) hval,fun v h' tk hP hk=>?_⟩
 ·have hsz:(s2.heap.push { cls:=.type "dict_keyiterator",data:=.fields #[.ref a,.int 0 0,.int ws.length 0,.int ep 0] }).objs.size=s2.heap.objs.size+1:=Heap.size_push ..
  show b<(s2.heap.push { cls:=.type "dict_keyiterator",data:=.fields #[.ref a,.int 0 0,.int ws.length 0,.int ep 0] }).objs.size
  rw[hsz]
  have hb':b=s2.heap.objs.size∨b=a:=by simpa using hb
  rcases hb' with z|z
  ·rw[z];exact Nat.lt_succ_self _
  ·rw[z];exact Nat.lt_succ_of_lt hok.lt_size
 ·have Ik:Inv X pins σ H2 { s2 with heap:=h',toks:=tk }:=I2.kept (t':=tk) fun b o e=>by
   refine hk b o (fun z=>?_) (Heap.get?_push_of_some _ e)
   have z':b=s2.heap.objs.size:=by simpa using z
   rw[z']at e
   exact absurd (Heap.lt_size e) (Nat.lt_irrefl _)
  rcases hP with ⟨n0,rfl⟩|⟨hpos,hP⟩
  ·exact⟨y,H2,Ik,ry,qn (List.length_eq_zero_iff.mp (by omega))⟩
  ·obtain⟨t,rfl⟩:=hval _ _ hP
   obtain⟨b1,b2⟩:=argBest_lt (fun i=>ns.getD i 0) (ws.length-1)
   have hlt:argBest (fun i j=>decide (ns.getD i 0<ns.getD j 0)) (ws.length-1)<ns.length:=by omega
   refine⟨.int (ns.getD (argBest (fun i j=>decide (ns.getD i 0<ns.getD j 0)) (ws.length-1)) 0),H2,Ik,⟨t,rfl⟩,qm _ ?_ ?_⟩
   ·rw[List.getD_eq_getElem?_getD,List.getElem?_eq_getElem hlt];exact List.getElem_mem hlt
   ·intro z hz'
    obtain⟨j,hj,ej⟩:=List.mem_iff_getElem.mp hz'
    have:=b2 j (by omega)
    have e6:ns.getD j 0=z:=by rw[List.getD_eq_getElem?_getD,List.getElem?_eq_getElem hj,←ej];rfl
    rw[e6]at this
    exact this
end
section
variable {X:Cx}{a:Expr}{ta:TE}{pos:Pos}
end
end L2
namespace L2
open PySem PySem.Spec PyProof.Rows
section
variable {X:Cx}
theorem PS.nox {st:Stmt}{t:TS}(h:PS X.nox st t):PS X st t:=fun pins s σ H D I hw =>
 wpAny_mono (h pins s σ H D (I.wish _) hw) (fun _ _ q=>q.unwish) fun _ _ z=>False.elim z
end
end L2
namespace L2
open PySem PySem.Spec PyProof.Rows
theorem rd_k {t u:TS}{D:Ends}{σ:St}{H:Hp}(h:∀ N:St->Hp->Prop,(∀ σ' H',u D σ' H'->N σ' H')->t { D with nx:=N } σ H):tSeq t u D σ H:=h (u D) fun _ _ q=>q
theorem y2z {K:W.Frag}{a:Addr}{xs:List V}{g:TG}{tb:TS}{D:Ends}{σ:St}{H:Hp}{R:VK}(Pv:Nat->St->Hp->Prop)(h0:Pv 0 σ H)(hl:∀ i σ H,i<=xs.length->Pv i σ H->SqL K H a xs)
 (hs:∀ i x σ H (N B:St->Hp->Prop),xs[i]?=some x->Pv i σ H->(∀ σ' H',Pv (i+1) σ' H'->N σ' H')->g x σ H fun σ2 H2=>tb { nx:=N,rt:=R,bk:=B,ct:=N } σ2 H2) (hd:∀ σ H,Pv xs.length σ H->D.nx σ H) (hR:D.rt=R:=by rfl) :
 ∃ W:Nat->Nat->St->Hp->Prop,(∃ m,W 0 m σ H)/\∀ i m σ H,W i m σ H ->
  ((Itl K a).stop i H/\D.nx σ H)∨((Itl K a).go i H/\∃ N:St->Hp->Prop,(∀ σ' H',N σ' H'->∃ m',m'<m/\W (i+1) m' σ' H')/\∀ x H',(Itl K a).yld i H x H'->g x σ H' fun σ2 H2=>tb { D with nx:=N,ct:=N,bk:=D.nx } σ2 H2):=by
 subst hR
 exact z2z Pv h0 hl (fun i x σ H hx hp=>hs i x σ H _ _ hx hp fun _ _ h=>h) hd
theorem x3o {c:TT}{tb:TS}{D:Ends}{σ:St}{H:Hp}{R:VK}(W:Nat->St->Hp->Prop)(h0:∃ m,W m σ H)
 (hs:∀ m σ H,W m σ H->∀ Y X:St->Hp->Prop,(∀ σ' H',(∃ m',m'<m/\W m' σ' H')->Y σ' H')->(∀ σ' H',D.nx σ' H'->X σ' H') ->
  c σ H fun b H1=>if b=true then ∃ N:St->Hp->Prop,(∀ σ' H',N σ' H'->Y σ' H')/\tb { nx:=N,rt:=R,bk:=X,ct:=N } σ H1 else X σ H1) (hR:D.rt=R:=by rfl):x9g c tb D σ H:=by
 subst hR
 exact⟨W,h0,fun m σ H w=>hs m σ H w _ _ (fun _ _ h=>h) fun _ _ h=>h⟩
end L2
namespace L2
open PySem PySem.Spec PyProof.Rows
section
variable {X:Cx}
theorem w2g:OpR X (compareOp .Is) (fun x y H Q=>∃ b c:Bool,x=.bl b/\y=.bl c/\Q (.bl (b==c)) H):=by
 intro pins s σ H x y v u Q I rx ry h
 obtain⟨b,c,rfl,rfl,q⟩:=h
 cases rx
 cases ry
 refine wpAny_is_plain rfl (z1u I q ?_)
 cases b<;>cases c<;>rfl
end
end L2
namespace L2
open PySem
def Rise (xs:Array Nat):Prop:=xs.toList.Pairwise (· < ·)
theorem Rise.lt {xs:Array Nat}(h:Rise xs){i k:Nat}(hik:i<k)(hk:k<xs.size):xs[i]'(by omega)<xs[k]:=by
 have:=List.pairwise_iff_getElem.mp h i k (by simp;omega) (by simpa using hk) hik
 simpa using this
def Cut (xs:Array Nat)(j p:Nat):Prop:=p<=xs.size/\(∀ i (_:i<p) (h:i<xs.size),xs[i]<j)/\∀ i (_:p<=i) (h:i<xs.size),j<=xs[i]
theorem y5w {xs:Array Nat}{j:Nat}(hr:Rise xs):∀ (fuel lo hi:Nat),hi-lo<=fuel->lo<=hi->hi<=xs.size->(∀ i (_:i<lo)(h:i<xs.size),xs[i]<j)->(∀ i (_:hi<=i)(h:i<xs.size),j<=xs[i])->Cut xs j (SetTable.below.go xs j fuel lo hi)
 | 0,lo,hi,hf,hl,hh,h1,h2=>by
  have e:lo=hi:=by omega
  subst e
  show Cut xs j lo
  exact⟨hh,h1,h2⟩
 | fuel+1,lo,hi,hf,hl,hh,h1,h2=>by
  rw[SetTable.below.go]
  by_cases hlt:lo<hi
  ·rw[if_pos hlt]
   have hm:(lo+hi) / 2<xs.size:=by omega
   have hg:xs.getD ((lo+hi) / 2) j=xs[(lo+hi) / 2]:=by simp[hm]
   dsimp only
   by_cases c:xs.getD ((lo+hi) / 2) j<j
   ·rw[if_pos c]
    rw[hg]at c
    refine y5w hr fuel _ _ (by omega) (by omega) hh (fun i hi' h=>?_) h2
    by_cases e:i=(lo+hi) / 2
    ·subst e;exact c
    ·exact Nat.lt_trans (hr.lt (show i<(lo+hi) / 2 by omega) hm) c
   ·rw[if_neg c]
    rw[hg]at c
    refine y5w hr fuel _ _ (by omega) (by omega) (by omega) h1 fun i hi' h=>?_
    by_cases e:i=(lo+hi) / 2
    ·subst e;omega
    ·have:=hr.lt (show (lo+hi) / 2<i by omega) h;omega
  ·rw[if_neg hlt]
   have e:lo=hi:=by omega
   subst e
   exact⟨hh,h1,h2⟩
theorem y3i {xs:Array Nat}(hr:Rise xs)(j:Nat):Cut xs j (SetTable.below xs j) :=
 y5w hr xs.size 0 xs.size (by omega) (by omega) (Nat.le_refl _) (fun i h=>by omega) fun i h h'=>by omega
theorem Cut.uniq {xs:Array Nat}{j p q:Nat}(hp:Cut xs j p)(hq:Cut xs j q):p=q:=by
 by_cases h:p<q
 ·have h1:=hq.2.1 p h (by have:=hq.1;omega)
  have h2:=hp.2.2 p (Nat.le_refl _) (by have:=hq.1;omega)
  omega
 ·by_cases h':q<p
  ·have h1:=hp.2.1 q h' (by have:=hp.1;omega)
   have h2:=hq.2.2 q (Nat.le_refl _) (by have:=hp.1;omega)
   omega
  ·omega
theorem y4i {xs:Array Nat}(hr:Rise xs):SetTable.below xs 0=0 :=
 (y3i hr 0).uniq ⟨Nat.zero_le _,fun i h=>by omega,fun i _ h=>Nat.zero_le _⟩
theorem y4j {xs:Array Nat}(hr:Rise xs){i:Nat}(hi:i<xs.size):SetTable.below xs (xs[i]+1)=i+1 :=
 (y3i hr _).uniq ⟨hi,fun k hk h=>by
  by_cases e:k=i
  ·subst e;omega
  ·have:=hr.lt (show k<i by omega) hi;omega,fun k hk h=>by have:=hr.lt (show i<k by omega) h;omega⟩
theorem y1x {α:Type}(xs:Array α)(p:Nat)(x:α)(hp:p<=xs.size):(SetTable.insertAt xs p x).toList=xs.toList.take p++x::xs.toList.drop p:=by
 unfold SetTable.insertAt
 simp[List.take_of_length_le]
theorem Rise.insert {xs:Array Nat}{j:Nat}(hr:Rise xs)(hn:xs[SetTable.below xs j]?≠some j):Rise (SetTable.insertAt xs (SetTable.below xs j) j):=by
 have c:=y3i hr j
 generalize SetTable.below xs j=p at c hn
 unfold Rise
 rw[y1x xs p j c.1]
 refine List.pairwise_append.mpr ⟨List.Pairwise.sublist (List.take_sublist _ _) hr,List.pairwise_cons.mpr ⟨fun y hy=>?_,List.Pairwise.sublist (List.drop_sublist _ _) hr⟩,fun a ha b hb=>?_⟩
 ·obtain⟨i,hi,e⟩:=List.mem_iff_getElem.mp hy
  rw[List.getElem_drop]at e
  have hsz:p+i<xs.size:=by simp at hi;omega
  have h1:=c.2.2 (p+i) (by omega) hsz
  have h2:xs[p+i]=y:=by simpa using e
  by_cases z:y=j
  ·exfalso
   by_cases z0:i=0
   ·subst z0
    apply hn
    rw[Array.getElem?_eq_getElem (by simpa using hsz)]
    have:xs[p]'(by simpa using hsz)=y:=by simpa using h2
    rw[this,z]
   ·have h3:=hr.lt (show p<p+i by omega) hsz
    have h4:=c.2.2 p (Nat.le_refl _) (by omega)
    omega
  ·omega
 ·obtain⟨i,hi,e⟩:=List.mem_iff_getElem.mp ha
  rw[List.getElem_take]at e
  have hi':i<p/\i<xs.size:=by simp at hi;omega
  have h1:=c.2.1 i hi'.1 hi'.2
  have h2:xs[i]'hi'.2=a:=by simpa using e
  rcases List.mem_cons.mp hb with z|z
  ·rw[z];omega
  ·obtain⟨k,hk,e'⟩:=List.mem_iff_getElem.mp z
   rw[List.getElem_drop]at e'
   have hsz:p+k<xs.size:=by simp at hk;omega
   have h3:=c.2.2 (p+k) (by omega) hsz
   have h4:xs[p+k]=b:=by simpa using e'
   omega
theorem x2k (n:Nat):Rise (Array.range n):=by
 unfold Rise
 rw[Array.toList_range]
 exact List.pairwise_lt_range
theorem x2l:Rise #[]:=List.Pairwise.nil
def TabOk (L:Bool)(t:SetTable):Prop:=t.led=L/\Rise t.place
theorem x3r (L:Bool)(f m:Nat):TabOk L (.fresh f m L):=⟨rfl,x2l⟩
theorem y6j {t:SetTable}{j:Nat}(h:t.slot j=.empty∨t.slot j=.dummy):t.place[SetTable.below t.place j]?≠some j:=by
 intro e
 have hs:t.slot j=.live (SetTable.below t.place j):=by
  unfold SetTable.slot
  dsimp only
  rw[e];simp
 rw[hs]at h
 rcases h with z|z<;>cases z
theorem y5b {t:SetTable}{hashAt:Nat->Int}{h:Int}:∀ (fuel:Nat)(p:SetTable.Probe)(j:Nat)(d:Option Nat),(∀ x,p.dummy=some x->t.slot x=.dummy)->SetTable.probe.go t hashAt h fuel p=some (.empty j d)->t.slot j=.empty/\∀ x,d=some x->t.slot x=.dummy
 | 0,p,j,d,hd,e=>by rw[SetTable.probe.go]at e;cases e
 | fuel+1,p,j,d,hd,e=>by
  rw[SetTable.probe.go]at e
  have adv:∀ q:SetTable.Probe,(t.advance q).dummy=q.dummy:=fun q=>by
   unfold SetTable.advance
   split<;>rfl
  cases hs:t.slot p.j with
  | empty =>
   rw[hs]at e
   cases e
   exact⟨hs,hd⟩
  | dummy =>
   rw[hs]at e
   refine y5b fuel _ j d (fun x hx=>?_) e
   rw[adv]at hx
   cases hx
   exact hs
  | live i =>
   rw[hs]at e
   dsimp only at e
   split at e
   ·cases e
   ·refine y5b fuel _ j d (fun x hx=>?_) e
    rw[adv]at hx
    exact hd x hx
theorem x6n {t:SetTable}{h:Int}{j:Nat}{b:Bool}(e:t.freeSlot h=some (j,b)):t.place[SetTable.below t.place j]?≠some j:=by
 unfold SetTable.freeSlot at e
 split at e
 ·rename_i j0 d hp
  have e1:d.getD j0=j:=congrArg (·.1) (Option.some.inj e)
  have hh:=y5b (10*SetTable.turns t.mask) (t.probeStart h) j0 d (fun x hx=>by cases hx) hp
  cases d with
  | none =>
   have:j0=j:=e1
   subst this
   exact y6j (.inl hh.1)
  | some x =>
   have:x=j:=e1
   subst this
   exact y6j (.inr (hh.2 x rfl))
 ·cases e
theorem z6y {L:Bool}{t:SetTable}(h:TabOk L t)(n:Nat):TabOk L (t.standIn n):=⟨h.1,x2k n⟩
theorem y4n {L:Bool}{t:SetTable}(h:TabOk L t)(n:Nat):TabOk L (t.orStandIn n):=by
 unfold SetTable.orStandIn
 split
 ·exact h
 ·exact z6y h n
theorem x2f {L:Bool}{t:SetTable}(h:TabOk L t)(es:Array (Int×Value))(k:Int)(x:Value):TabOk L (layNew t es k x).2.1:=by
 unfold layNew
 split
 ·rename_i slot wasDummy e
  exact y4n (t:=(t.put slot).1) ⟨h.1,h.2.insert (x6n e)⟩ _
 ·exact z6y h _
theorem x4h (mask:Nat)(owner:Array (Option Nat)):Rise ((((List.range (mask+1)).filterMap fun j=>(owner.getD j none).map fun k=>(j,k)).map (·.1)).toArray):=by
 unfold Rise
 rw[List.toList_toArray]
 have:∀ l:List Nat,l.Pairwise (· < ·)->(((l.filterMap fun j=>(owner.getD j none).map fun k=>(j,k)).map (·.1)).Pairwise (· < ·)):=by
  intro l
  induction l with
  | nil=>intro _;simp
  | cons a r ih =>
   intro hp
   obtain⟨h1,h2⟩:=List.pairwise_cons.mp hp
   cases ho:owner.getD a none with
   | none =>
    rw[List.filterMap_cons_none (by rw[ho];rfl)]
    exact ih h2
   | some k =>
    rw[List.filterMap_cons_some (b:=(a,k)) (by rw[ho];rfl),List.map_cons]
    refine List.pairwise_cons.mpr ⟨fun b hb=>?_,ih h2⟩
    obtain⟨q,hq,rfl⟩:=List.mem_map.mp hb
    obtain⟨j,hj,e⟩:=List.mem_filterMap.mp hq
    cases hj2:owner.getD j none with
    | none=>rw[hj2]at e;cases e
    | some k2=>rw[hj2]at e;cases e;exact h1 j hj
 exact this _ List.pairwise_lt_range
theorem y6d {L:Bool}{t:SetTable}(h:TabOk L t)(es:Array (Int×Value))(n:Nat):TabOk L (relayAll t es n).2.1:=by
 unfold relayAll
 split
 ·rename_i t' order e
  dsimp only
  split
  ·unfold SetTable.relaid SetTable.laid at e
   cases ho:SetTable.layClean (SetTable.sizeAbove n-1) (es.map (·.1)) with
   | none=>rw[ho]at e;cases e
   | some owner =>
    rw[ho]at e
    have e1:=Option.some.inj e
    have e2:t'=_:=(congrArg (·.1) e1).symm
    rw[e2]
    exact⟨h.1,x4h _ owner⟩
  ·exact z6y h _
 ·exact z6y h _
theorem x3q {L:Bool}{t:SetTable}(h:TabOk L t)(b:Bool):TabOk L { t with plain:=b }:=h
end L2
namespace L2
open PySem PySem.Spec PyProof.Rows
abbrev ledOf (w:World):Bool:=!(w.params.followText "set-order")
section
variable {prog:Program}{w:World}{A:Around}{E:Value->Shared->Prop}{s:Shared}
def SetT (prog:Program)(w:World)(L:Bool)(h:Heap)(a:Addr)(S:Int->Bool)(n:Nat):Prop :=
 ∃ o es ep t,h.get? a=some o/\o.ExactSet/\o.data=.set es ep t/\ElemsOf (intKind prog w) es.toList/\(∀ k,S k=true↔∃ e∈es.toList,(intKind prog w).is k e.2=true)/\es.size<scanBound/\t.fits es.size=true/\es.size=n/\TabOk L t
theorem SetT.of {L:Bool}{h:Heap}{a:Addr}{S:Int->Bool}{n:Nat}(x:SetT prog w L h a S n):h.SetOf (intKind prog w) a S n :=
 let ⟨o,es,ep,t,a1,a2,a3,a4,a5,a6,a7,a8,_⟩:=x;⟨o,es,ep,t,a1,a2,a3,a4,a5,a6,a7,a8⟩
theorem SetT.store {L:Bool}{h:Heap}{a:Addr}{o:Obj}{es es1:Array (Int×Value)}{ep:Nat}{t t1:SetTable}{S:Int->Bool}(ho:h.get? a=some o)(hex:o.ExactSet)(hd:o.data=.set es ep t)(hel:ElemsOf (intKind prog w) es1.toList)
 (hm:∀ k,S k=true↔∃ e∈es1.toList,(intKind prog w).is k e.2=true) (hb:es1.size<scanBound) (hf:t1.fits es1.size=true) (ht:TabOk L t1) :
 (∃ o',(h.update a (Obj.putSet es1 t1)).get? a=some o'/\o'.ExactSet/\∃ ep',o'.data=.set es1 ep' t1)/\SetT prog w L (h.update a (Obj.putSet es1 t1)) a S es1.size:=by
 obtain⟨ho1,hS1⟩:=SetOf_store (knd:=intKind prog w) ho hex hd hel hm hb hf
 have e:=ho1
 refine⟨⟨_,ho1,hex,_,rfl⟩,⟨_,es1,_,t1,ho1,hex,rfl,hel,hm,hb,hf,rfl,ht⟩⟩
theorem x9f {L:Bool}{g:Bool->Sem Unit}(hg:∀ (b:Bool)(s₁:Shared)(Q':Unit->Shared->Prop),Q' () s₁->wpAny (model prog w) A (g b) Q' E s₁)
 {a:Addr} {o:Obj} {es es1:Array (Int×Value)} {ep:Nat} {t t2:SetTable} {S:Int->Bool} (ho:s.heap.get? a=some o) (hex:o.ExactSet) (hd:o.data=.set es ep t) (hel:ElemsOf (intKind prog w) es1.toList)
 (hm:∀ k,S k=true↔∃ e∈es1.toList,(intKind prog w).is k e.2=true) (hb:es1.size<scanBound) (hf:t2.fits es1.size=true) (ht:TabOk L t2) {wasDummy:Bool} {R:Option Bool->Shared->Prop}
 (h:∀ h',Heap.SameBut a s.heap h'->SetT prog w L h' a S es1.size->R (some true) { s with heap:=h' }) :
 wpAny (model prog w) A (do
  storeSet a es1 t2
  if (!wasDummy&&t2.tooFull)=true then do
      g (relayAll t2 es1 (SetTable.grown es1.size)).2.2
      storeSet a (relayAll t2 es1 (SetTable.grown es1.size)).1 (relayAll t2 es1 (SetTable.grown es1.size)).2.1
      pure (some true)
   else pure (some true)) R E s:=by
 obtain⟨⟨o1,ho1,hex1,ep1,hd1⟩,hS1⟩:=SetT.store ho hex hd hel hm hb hf ht
 have hsb:=Heap.SameBut.update s.heap a (Obj.putSet es1 t2)
 refine wpAny_bind (wpAny_storeSet_of ho hd ?_ (fits_of_scanBound hb))
 split
 ·have hp:=relayAll_perm t2 es1 (SetTable.grown es1.size)
  have hfr:=relayAll_fits t2 es1 (SetTable.grown es1.size)
  have htr:=y6d ht es1 (SetTable.grown es1.size)
  generalize relayAll t2 es1 (SetTable.grown es1.size)=Rl at hp hfr htr ⊢
  obtain⟨es2,t3,gave⟩:=Rl
  dsimp only at hp hfr htr ⊢
  have hsz:es2.size=es1.size:=by rw[←Array.length_toList,hp.length_eq,Array.length_toList]
  have hb2:es2.size<scanBound:=by rw[hsz];exact hb
  refine wpAny_bind (hg _ _ _ ?_)
  refine wpAny_bind (wpAny_storeSet_of ho1 hd1 ?_ (fits_of_scanBound hb2))
  obtain⟨_,hS2⟩:=SetT.store (S:=S) ho1 hex1 hd1 (hel.perm hp) (fun k=>(hm k).trans ⟨fun ⟨e,he,q⟩=>⟨e,hp.mem_iff.mpr he,q⟩,fun ⟨e,he,q⟩=>⟨e,hp.mem_iff.mp he,q⟩⟩) hb2 hfr htr
  rw[hsz]at hS2
  exact wpAny_pure (h _ (hsb.trans (Heap.SameBut.update _ a _)) hS2)
 ·exact wpAny_pure (h _ hsb hS1)
theorem add_T {L:Bool}{a:Addr}{S:Int->Bool}{n:Nat}{k:Int}{x:Value}{Q:Bool->Shared->Prop}(hkey:(intKind prog w).is k x=true)(hsc:x.scannable=true)(hS:SetT prog w L s.heap a S n)(hroom:n+1<scanBound)
 (h:∀ h',Heap.SameBut a s.heap h'->SetT prog w L h' a (fun k'=>S k'||decide (k'=k)) (if S k then n else n+1)->Q (!S k) { s with heap:=h' }) :
 wpAny (model prog w) A (setAddHashed a x ((intKind prog w).hash k)) Q E s:=by
 obtain⟨o,es,ep,t,ho,hex,hd,hel,hmem,hb,hf,hn,ht⟩:=hS
 unfold setAddHashed setAddHashedIn
 refine wpAny_holding (wpAny_bind (wpAny_setState_of ho hd hf ?_))
 dsimp only
 rw[byScan_of hsc hb hel]
 simp only[↓reduceIte]
 unfold setAddByScan
 refine wpAny_bind (wpAny_bind (wpAny_rule (wpAny_bind (wpAny_setScan_of hkey ho hd hf hel ?_))))
 cases hr:List.findIdx? (fun e=>(intKind prog w).is k e.2) es.toList with
 | some j =>
  dsimp only
  obtain⟨hj,hpj,_⟩:=List.findIdx?_eq_some_iff_getElem.mp hr
  have hSk:S k=true:=(hmem k).mpr ⟨es.toList[j],List.getElem_mem hj,hpj⟩
  have:=h s.heap (Heap.SameBut.refl a s.heap) ⟨o,es,ep,t,ho,hex,hd,hel,fun k'=>by
   rw[←hmem k',Bool.or_eq_true,decide_eq_true_eq]
   exact⟨fun z=>z.elim id fun e=>e▸hSk,.inl⟩,hb,hf,by rw[hSk];exact hn,ht⟩
  rw[hSk]at this
  exact wpAny_pure (wpAny_pure this)
 | none =>
  dsimp only
  have hSk:S k=false:=by
   cases hk:S k with
   | false=>rfl
   | true=>obtain⟨e,he,hp⟩:=(hmem k).mp hk;have:=List.findIdx?_eq_none_iff.mp hr e he;rw[hp]at this;exact Bool.noConfusion this
  have hgw:∀ (b:Bool) {s₁:Shared} {Q':Unit->Shared->Prop},Q' () s₁->wpAny (model prog w) A (match b with|true=>rule "set.scan.the-table-gave-way" | false=>pure ()) Q' E s₁ :=
   fun b s₁ Q' hq=>by cases b<;>first | exact wpAny_pure hq | exact wpAny_rule hq
  have hperm:=layNew_perm t es ((intKind prog w).hash k) x
  have hfits:=layNew_fits t es ((intKind prog w).hash k) x
  have htab:=x2f ht es ((intKind prog w).hash k) x
  generalize layNew t es ((intKind prog w).hash k) x=Lr at hperm hfits htab ⊢
  obtain⟨es1,t1,wasDummy,gave⟩:=Lr
  dsimp only at hperm hfits htab ⊢
  rw[Array.toList_push]at hperm
  have hel1:ElemsOf (intKind prog w) es1.toList:=(hel.push hkey hsc).perm hperm
  have hmem1:=mem_push_iff hkey hmem hperm
  have hsz1:es1.size=n+1:=by rw[←Array.length_toList,hperm.length_eq,List.length_append,Array.length_toList,hn];rfl
  have hb1:es1.size<scanBound:=by omega
  refine wpAny_bind (hgw _ ?_)
  have hend:∀ h',Heap.SameBut a s.heap h'->SetT prog w L h' a (fun k'=>S k'||decide (k'=k)) es1.size->Q true { s with heap:=h' }:=fun h' hsb hS'=>by
   have:=h h' hsb
   rw[hSk]at this
   rw[hsz1]at hS'
   exact this hS'
  split
  ·refine wpAny_bind ?_
   rw[hashByValue_scannable 8 hsc]
   refine wpAny_pure ?_
   refine x9f (L:=L) ?_ ho hex hd hel1 hmem1 hb1 ?_ ?_ ?_
   ·intro b s₁ Q' hq;cases b<;>first | exact wpAny_pure hq | exact wpAny_rule hq
   ·split
    ·exact hfits
    ·exact SetTable.fits_plain_off hfits
   ·split
    ·exact htab
    ·exact x3q htab _
   ·intro h' hsb hS';exact wpAny_pure (hend h' hsb hS')
  ·refine wpAny_bind (wpAny_pure ?_)
   simp only[↓reduceIte]
   refine x9f (L:=L) ?_ ho hex hd hel1 hmem1 hb1 hfits htab ?_
   ·intro b s₁ Q' hq;cases b<;>first | exact wpAny_pure hq | exact wpAny_rule hq
   ·intro h' hsb hS';exact wpAny_pure (hend h' hsb hS')
end
end L2
namespace L2
open PySem PySem.Spec PyProof.Rows
def addI (acc:List Int)(n:Int):List Int:=if n∈acc then acc else acc++[n]
def uniq (ns:List Int):List Int:=ns.foldl addI []
theorem y6a (ns:List Int)(n:Int):uniq (ns++[n])=addI (uniq ns) n:=by unfold uniq;rw[List.foldl_append];rfl
theorem x1j {acc:List Int}{n x:Int}:x∈addI acc n↔x∈acc∨x=n:=by
 unfold addI
 split
 ·rename_i h
  exact⟨.inl,fun z=>z.elim id fun e=>e▸h⟩
 ·simp
theorem x1l (acc:List Int)(n:Int):(addI acc n).length=if decide (n∈acc)=true then acc.length else acc.length+1:=by
 unfold addI
 by_cases h:n∈acc<;>simp[h]
theorem y5n:∀ (ns acc:List Int),(ns.foldl addI acc).length<=acc.length+ns.length
 | [],_=>by simp
 | n::ns,acc=>by
  rw[List.foldl_cons]
  have h1:=y5n ns (addI acc n)
  have h2:=x1l acc n
  have:(addI acc n).length<=acc.length+1:=by rw[h2];split<;>omega
  simp only[List.length_cons];omega
theorem x2w {acc:List Int}{n:Int}(h:acc.Nodup):(addI acc n).Nodup:=by
 unfold addI
 split
 ·exact h
 ·rename_i hn
  exact List.nodup_append.mpr ⟨h,by simp,fun a ha b hb e=>hn (by
   have:b=n:=by simpa using hb
   rw[←this,←e];exact ha)⟩
section
variable {prog:Program}{w:World}{A:Around}{E:Value->Shared->Prop}{s:Shared}
theorem SetT.congr {L:Bool}{h:Heap}{a:Addr}{S S':Int->Bool}{n n':Nat}(x:SetT prog w L h a S n)(e:∀ k,S k=S' k)(en:n=n'):SetT prog w L h a S' n':=by
 have:S=S':=funext e
 subst this;subst en;exact x
theorem SetT.at {L:Bool}{h h':Heap}{a:Addr}{S:Int->Bool}{n:Nat}(x:SetT prog w L h a S n)(k:∀ o,h.get? a=some o->h'.get? a=some o):SetT prog w L h' a S n :=
 let ⟨o,es,ep,t,a1,rest⟩:=x;⟨o,es,ep,t,k _ a1,rest⟩
theorem w2m {L:Bool}{R:Result->Shared->Prop}{I:Addr}{fp wr:List Addr}{G:Array GenState->Array GenState->Prop}{P:Nat->Value->Prop}{St:Nat->Shared->Prop}{ns:List Int}
 (W:WalksS prog w A.in1 I fp wr G ns.length P St) (S:Addr) (hSf:S ∉ fp) (hval:∀ i v,P i v->∃ t,v=.int (ns.getD i 0) t) (hb:ns.length+1<scanBound) :
 ∀ (k i:Nat) (s:Shared),ns.length-i=k->i<=ns.length->St i s->SetT prog w L s.heap S (fun k'=>decide (k'∈uniq (ns.take i))) (uniq (ns.take i)).length ->
  (∀ s',Moved (S::wr) G s s'->SetT prog w L s'.heap S (fun k'=>decide (k'∈uniq ns)) (uniq ns).length->R (.ok (.ret .none)) s') ->
  codeAny (model prog w) A (.builtin "set.update.loop" ⟨[.ref S,.ref I],[]⟩) R s:=by
 have hSw:S ∉ wr:=fun h=>hSf (W.sub _ h)
 have hsub:∀ b∈wr,b∈S::wr:=fun b hb=>List.mem_cons_of_mem _ hb
 intro k
 induction k with
 | zero =>
  intro i s hk hi hst hS hR
  have hin:i=ns.length:=by omega
  subst hin
  rw[List.take_length]at hS
  refine codeAny_builtin F.entry_set_update_loop ?_
  rw[Around.under_plainId F.plain_set_update_loop _]
  show wpAny _ A.in1 (pyNext (.ref I) >>= _) _ _ s
  refine wpAny_bind (W.done s _ _ hst fun s' hm=>?_)
  show wpAny _ A.in1 (ret Value.none) _ _ s'
  exact wpAny_pure (hR s' (hm.mono hsub) (hS.at fun o e=>hm.heap S o hSw e))
 | succ k ih =>
  intro i s hk hi hst hS hR
  have hlt:i<ns.length:=by omega
  refine codeAny_builtin F.entry_set_update_loop ?_
  rw[Around.under_plainId F.plain_set_update_loop _]
  show wpAny _ A.in1 (pyNext (.ref I) >>= _) _ _ s
  refine wpAny_bind (W.item i s _ _ hlt hst fun v s' hP hst' hm=>?_)
  obtain⟨t,rfl⟩:=hval i v hP
  have hS':=hS.at (h':=s'.heap) fun o e=>hm.heap S o hSw e
  show wpAny _ A.in1 (holding [Value.int (ns.getD i 0) t] (setAdd S (.int (ns.getD i 0) t)) >>= _) _ _ s'
  refine wpAny_bind (wpAny_holding ?_)
  unfold setAdd
  refine wpAny_holding ?_
  refine wpAny_bind ((intKind prog w).pyHash (k:=ns.getD i 0) (intKind_is _ _ _ _) ?_)
  have hl0:=y5n (ns.take i) []
  have hl1:(ns.take i).length<=i:=List.length_take_le _ _
  have hroom:(uniq (ns.take i)).length+1<scanBound:=by
   have:(uniq (ns.take i)).length<=(ns.take i).length:=by simpa[uniq] using hl0
   omega
  refine add_T (L:=L) (s:={ s' with toks:=s'.toks+1 }) (intKind_is _ _ _ _) rfl hS' hroom fun h' hsb hS2=>?_
  have et:ns.take (i+1)=ns.take i++[ns.getD i 0]:=by rw[List.take_add_one,List.getElem?_eq_getElem hlt];simp[hlt]
  have hSi:SetT prog w L h' S (fun k'=>decide (k'∈uniq (ns.take (i+1)))) (uniq (ns.take (i+1))).length:=hS2.congr (fun k'=>by
   rw[et,y6a,Bool.eq_iff_iff]
   simp only[Bool.or_eq_true,decide_eq_true_eq,x1j]) (by rw[et,y6a,x1l])
  refine wpAny_pure ⟨plainId_quiet F.plain_set_update_loop _,ih (i+1) _ (by omega) hlt (W.frame _ s' _ _ hst' (Nat.le_succ _) fun b hb o e=>?_) hSi fun s'' hm'' hS''=>?_⟩
  ·rw[hsb.2 b (fun h:b=S=>hSf (by rw[←h];exact hb))];exact e
  ·refine hR s'' (Moved.trans W.gtrans ((hm.mono hsub).then_heap (Nat.le_succ _) fun b o hb e=>?_) hm'') hS''
   rw[hsb.2 b (fun h:b=S=>hb (by rw[h];exact List.mem_cons_self))];exact e
end
end L2
namespace L2
open PySem PySem.Spec PyProof.Rows
theorem slot_si_next:Slot "set_iterator" "__next__" "set_iterator.__next__" :=
 .of (owner:="set_iterator") (n:="__next__") (by rw[typeLookup_type,builtinLookup_eq_fast];kernel_rfl) (by decide +kernel) (by decide +kernel) (by decide +kernel)
  (by first | exact .inl (by decide +kernel) | exact .inr (by decide +kernel)) (by rw[isSubtype_type];kernel_rfl)
theorem z5o:entryFor table "set_iterator.__next__" = some Builtin.«set_iterator.__next__»:=entryFor_of_tree (by kernel_rfl)
theorem z6r (a:Value):argsOk "set_iterator.__next__" ⟨[a],[]⟩:=by unfold argsOk;kernel_rfl
def SI (h:Heap)(it:Addr)(first:Value)(i:Nat)(a:Addr)(n ep:Nat):Prop:=∃ o,h.get? it=some o/\o.cls=.type "set_iterator"/\o.data=.fields #[first,.int i 0,.ref a,.int n 0,.int ep 0]
theorem SI.typeIs {s:Shared}{it:Addr}{first:Value}{i:Nat}{a:Addr}{n ep:Nat}(x:SI s.heap it first i a n ep):s.TypeIs (.ref it) "set_iterator":=let ⟨o,h1,h2,_⟩:=x;⟨o,h1,h2⟩
section
variable {prog:Program}{w:World}{A:Around}{E:Value->Shared->Prop}{s:Shared}
def SAt (h:Heap)(a:Addr)(es:Array (Int×Value))(ep:Nat)(t:SetTable):Prop:=∃ o,h.get? a=some o/\o.data=.set es ep t/\t.fits es.size=true
theorem x9z {it a:Addr}{es:Array (Int×Value)}{ep i slot slot':Nat}{t:SetTable}{v:Value}{Q:Option Value->Shared->Prop}(hne:a≠it)(hi:SI s.heap it (.int slot 0) i a es.size ep)(hs:SAt s.heap a es ep t)
 (hN:∀ (A:Around) (E:Value->Shared->Prop) (Q:Option (Value×Nat)->Shared->Prop),Q (some (v,slot')) s->wpAny (model prog w) A (setNext a slot i ep) Q E s)
 (hQ:∀ h',SI h' it (.int slot' 0) (i+1) a es.size ep->Heap.SameBut it s.heap h'->Q (some v) { s with heap:=h' }):wpAny (model prog w) A (pyNext (.ref it)) Q E s:=by
 obtain⟨o,ho,hc,hd⟩:=id hi
 obtain⟨os,hos,hds,hf⟩:=hs
 unfold pyNext
 refine wpAny_bind (wpAny_attempt (wpAny_callSpecial?_slot (name:=Str.ofString "__next__") hi.typeIs slot_si_next
  (wpAny_call_entry slot_si_next hi.typeIs z5o ?_ (z6r _))))
 show wpAny _ _ (fieldsOf (.ref it) >>= _) _ _ s
 refine wpAny_bind (wpAny_fieldsOf ho hd ?_)
 show wpAny _ _ (setEntries a >>= _) _ _ s
 refine wpAny_bind (wpAny_setEntries_of hos hds hf ?_)
 rw[if_neg (by simp)]
 show wpAny _ _ (setNext a (slot:Int).toNat (i:Int).toNat (ep:Int).toNat >>= _) _ _ s
 rw[Int.toNat_natCast,Int.toNat_natCast,Int.toNat_natCast]
 refine wpAny_bind (hN _ _ _ ?_)
 dsimp only
 refine wpAny_bind (wpAny_setField ho hd (by simp) ?_)
 have ho1:(s.heap.update it (Obj.mapFields (·.setIfInBounds 0 (rawInt slot')))).get? it=some (Obj.mapFields (·.setIfInBounds 0 (rawInt slot')) o):=Heap.get?_update_self _ ho (Obj.isFreed_of_fields (Obj.data_mapFields hd _))
 have hd1:=Obj.data_mapFields hd (·.setIfInBounds 0 (rawInt slot'))
 refine wpAny_bind (wpAny_setField ho1 hd1 (by simp) (wpAny_pure ⟨v,rfl,wpAny_pure (hQ _ ?_ ((Heap.SameBut.update ..).trans (Heap.SameBut.update ..)))⟩))
 refine⟨_,Heap.get?_update_self _ ho1 (Obj.isFreed_of_fields (Obj.data_mapFields hd1 _)),?_,?_⟩
 ·rw[Obj.cls_mapFields,Obj.cls_mapFields];exact hc
 ·rw[Obj.data_mapFields hd1];simp[rawInt]
theorem w1y {it a:Addr}{es:Array (Int×Value)}{ep i slot:Nat}{t:SetTable}{Q:Option Value->Shared->Prop}(hh:A.handled=none)(hi:SI s.heap it (.int slot 0) i a es.size ep)(hs:SAt s.heap a es ep t)
 (hN:∀ (A:Around) (E:Value->Shared->Prop) (Q:Option (Value×Nat)->Shared->Prop),Q none s->wpAny (model prog w) A (setNext a slot i ep) Q E s)
 (hQ:∀ h',Heap.ExtBut it s.heap h'->Q none { s with heap:=h' }):wpAny (model prog w) A (pyNext (.ref it)) Q E s:=by
 obtain⟨o,ho,hc,hd⟩:=id hi
 obtain⟨os,hos,hds,hf⟩:=hs
 unfold pyNext
 refine wpAny_bind (wpAny_attempt (wpAny_callSpecial?_slot (name:=Str.ofString "__next__") hi.typeIs slot_si_next
  (wpAny_call_entry slot_si_next hi.typeIs z5o ?_ (z6r _))))
 show wpAny _ _ (fieldsOf (.ref it) >>= _) _ _ s
 refine wpAny_bind (wpAny_fieldsOf ho hd ?_)
 show wpAny _ _ (setEntries a >>= _) _ _ s
 refine wpAny_bind (wpAny_setEntries_of hos hds hf ?_)
 rw[if_neg (by simp)]
 show wpAny _ _ (setNext a (slot:Int).toNat (i:Int).toNat (ep:Int).toNat >>= _) _ _ s
 rw[Int.toNat_natCast,Int.toNat_natCast,Int.toNat_natCast]
 refine wpAny_bind (hN _ _ _ ?_)
 dsimp only
 refine wpAny_bind (wpAny_setField ho hd (by simp) ?_)
 show wpAny _ _ (newExc (.type "StopIteration") [] >>= _) _ _ _
 refine wpAny_bind ?_
 simp only[newExc,newTuple]
 refine wpAny_bind (wpAny_newObj_type ?_ (by size_fits))
 refine wpAny_bind (m:=firstArgMember _ _) (wpAny_of_eq (a:=Value.none) (by first | rfl | (simp only[firstArgMember];rfl)) ?_)
 refine wpAny_newObj_type ?_ (by size_fits)
 simp only[raiseNew]
 refine wpAny_bind (wpAny_handled ?_)
 rw[show A.in1.handled=none from hh]
 refine wpAny_bind (wpAny_pure (wpAny_throw ?_))
 refine wpAny_bind (wpAny_isInstance (T:="StopIteration") (b:=true) ⟨_,Heap.get?_push_size _ rfl,rfl⟩ isSubtype_stop ?_)
 exact wpAny_pure (hQ _ (((Heap.SameBut.update ..).extBut.push _).push _))
theorem w0c {it a tp:Addr}{es:Array (Int×Value)}{ep i pl:Nat}{ps:List Nat}{t:SetTable}{hv:Int}{v:Value}{Q:Option Value->Shared->Prop}(hi:SI s.heap it (.ref tp) i a es.size ep)(hs:SAt s.heap a es ep t)
 {otp:Obj} {ntp:Nat} (htp:s.heap.get? tp=some otp) (hdt:otp.data=.seq (ps.map fun (j:Nat)=>rawInt j).toArray ntp) (hp:ps[i]?=some pl) (hv:es[pl]?=some (hv,v))
 (hQ:∀ h',SI h' it (.ref tp) (i+1) a es.size ep->Heap.SameBut it s.heap h'->Q (some v) { s with heap:=h' }):wpAny (model prog w) A (pyNext (.ref it)) Q E s:=by
 obtain⟨o,ho,hc,hd⟩:=id hi
 obtain⟨os,hos,hds,hf⟩:=hs
 unfold pyNext
 refine wpAny_bind (wpAny_attempt (wpAny_callSpecial?_slot (name:=Str.ofString "__next__") hi.typeIs slot_si_next
  (wpAny_call_entry slot_si_next hi.typeIs z5o ?_ (z6r _))))
 show wpAny _ _ (fieldsOf (.ref it) >>= _) _ _ s
 refine wpAny_bind (wpAny_fieldsOf ho hd ?_)
 show wpAny _ _ (setEntries a >>= _) _ _ s
 refine wpAny_bind (wpAny_setEntries_of hos hds hf ?_)
 rw[if_neg (by simp)]
 show wpAny _ _ (seqItems? (.ref tp) >>= _) _ _ s
 refine wpAny_bind (wpAny_seqItems htp hdt ?_)
 have hg:((ps.map fun (j:Nat)=>rawInt j).toArray)[(i:Int).toNat]?=some (rawInt pl):=by
  rw[Int.toNat_natCast,List.getElem?_toArray,List.getElem?_map,hp];rfl
 show wpAny _ _ (match ((ps.map fun (j:Nat)=>rawInt j).toArray)[(i:Int).toNat]? with|some (.int place _)=>_ | some _=>_ | none=>_) _ _ s
 rw[hg]
 show wpAny _ _ (setNextDrawn a (pl:Int).toNat (ep:Int).toNat >>= _) _ _ s
 rw[Int.toNat_natCast,Int.toNat_natCast]
 refine wpAny_bind ?_
 unfold setNextDrawn
 refine wpAny_bind (wpAny_setState_of hos hds hf ?_)
 dsimp only
 rw[if_neg (by simp),hv]
 refine wpAny_pure ?_
 refine wpAny_bind (wpAny_setField ho hd (by simp) (wpAny_pure ⟨v,rfl,wpAny_pure (hQ _ ?_ (Heap.SameBut.update ..))⟩))
 exact⟨_,Heap.get?_update_self _ ho (Obj.isFreed_of_fields (Obj.data_mapFields hd _)),(Obj.cls_mapFields ..).trans hc,by rw[Obj.data_mapFields hd];simp[rawInt]⟩
end
end L2
namespace L2
open PySem PySem.Spec PyProof.Rows
section
variable {prog:Program}{w:World}{A:Around}{E:Value->Shared->Prop}{s:Shared}
theorem w1z {it a tp:Addr}{es:Array (Int×Value)}{ep i:Nat}{ps:List Nat}{t:SetTable}{Q:Option Value->Shared->Prop}(hh:A.handled=none)(hi:SI s.heap it (.ref tp) i a es.size ep)(hs:SAt s.heap a es ep t)
 {otp:Obj} {ntp:Nat} (htp:s.heap.get? tp=some otp) (hdt:otp.data=.seq (ps.map fun (j:Nat)=>rawInt j).toArray ntp) (hp:ps[i]?=none)
 (hQ:∀ h',Heap.ExtBut it s.heap h'->Q none { s with heap:=h' }):wpAny (model prog w) A (pyNext (.ref it)) Q E s:=by
 obtain⟨o,ho,hc,hd⟩:=id hi
 obtain⟨os,hos,hds,hf⟩:=hs
 unfold pyNext
 refine wpAny_bind (wpAny_attempt (wpAny_callSpecial?_slot (name:=Str.ofString "__next__") hi.typeIs slot_si_next
  (wpAny_call_entry slot_si_next hi.typeIs z5o ?_ (z6r _))))
 show wpAny _ _ (fieldsOf (.ref it) >>= _) _ _ s
 refine wpAny_bind (wpAny_fieldsOf ho hd ?_)
 show wpAny _ _ (setEntries a >>= _) _ _ s
 refine wpAny_bind (wpAny_setEntries_of hos hds hf ?_)
 rw[if_neg (by simp)]
 show wpAny _ _ (seqItems? (.ref tp) >>= _) _ _ s
 refine wpAny_bind (wpAny_seqItems htp hdt ?_)
 have hg:((ps.map fun (j:Nat)=>rawInt j).toArray)[(i:Int).toNat]?=none:=by
  rw[Int.toNat_natCast,List.getElem?_toArray,List.getElem?_map,hp];rfl
 show wpAny _ _ (match ((ps.map fun (j:Nat)=>rawInt j).toArray)[(i:Int).toNat]? with|some (.int place _)=>_ | some _=>_ | none=>_) _ _ s
 rw[hg]
 dsimp only
 refine wpAny_bind (wpAny_setField ho hd (by simp) ?_)
 have ho1:(s.heap.update it (Obj.mapFields (·.setIfInBounds 0 (rawInt 0)))).get? it=some (Obj.mapFields (·.setIfInBounds 0 (rawInt 0)) o):=Heap.get?_update_self _ ho (Obj.isFreed_of_fields (Obj.data_mapFields hd _))
 have hd1:=Obj.data_mapFields hd (·.setIfInBounds 0 (rawInt 0))
 refine wpAny_bind (wpAny_setField ho1 hd1 (by simp) ?_)
 show wpAny _ _ (newExc (.type "StopIteration") [] >>= _) _ _ _
 refine wpAny_bind ?_
 simp only[newExc,newTuple]
 refine wpAny_bind (wpAny_newObj_type ?_ (by size_fits))
 refine wpAny_bind (m:=firstArgMember _ _) (wpAny_of_eq (a:=Value.none) (by first | rfl | (simp only[firstArgMember];rfl)) ?_)
 refine wpAny_newObj_type ?_ (by size_fits)
 simp only[raiseNew]
 refine wpAny_bind (wpAny_handled ?_)
 rw[show A.in1.handled=none from hh]
 refine wpAny_bind (wpAny_pure (wpAny_throw ?_))
 refine wpAny_bind (wpAny_isInstance (T:="StopIteration") (b:=true) ⟨_,Heap.get?_push_size _ rfl,rfl⟩ isSubtype_stop ?_)
 exact wpAny_pure (hQ _ ((((Heap.SameBut.update ..).trans (Heap.SameBut.update ..)).extBut.push _).push _))
theorem x5f {a:Addr}{es:Array (Int×Value)}{ep slot i:Nat}{t:SetTable}{Q:Option (Value×Nat)->Shared->Prop}(hb:w.params.followText "set-order" = true)(hs:SAt s.heap a es ep t)
 (h:Q (((pickOrder (w.params.setOrder a ep) es)[i]?).map fun e=>(e.2,slot)) s):wpAny (model prog w) A (setNext a slot i ep) Q E s:=by
 obtain⟨os,hos,hds,hf⟩:=hs
 unfold setNext
 refine wpAny_bind (wpAny_setState_of hos hds hf ?_)
 dsimp only
 unfold setsByText
 refine wpAny_bind (wpAny_bind (wpAny_askSetting (wpAny_pure ?_)))
 show wpAny _ _ (if w.params.followText "set-order" = true then _ else _) _ _ _
 rw[if_pos hb,if_neg (by simp)]
 refine wpAny_bind ?_
 unfold setWalk
 refine wpAny_bind (wpAny_setState_of hos hds hf ?_)
 dsimp only
 unfold setsByText
 refine wpAny_bind (wpAny_bind (wpAny_askSetting (wpAny_pure ?_)))
 show wpAny _ _ (if w.params.followText "set-order" = true then _ else _) _ _ _
 rw[if_pos hb]
 refine wpAny_bind (wpAny_askSetting (wpAny_pure ?_))
 exact wpAny_pure h
theorem x1d {a:Addr}{es:Array (Int×Value)}{ep slot i:Nat}{t:SetTable}{Q:Option (Value×Nat)->Shared->Prop}(hb:w.params.followText "set-order" = false)(hs:SAt s.heap a es ep t)(hpl:(!t.plain&&decide (es.size > 1))=false)(hled:t.led=true)
 (h:Q (match es[SetTable.below t.place slot]?,t.place[SetTable.below t.place slot]? with|some (_,x),some j=>some (x,j+1) | _,_=>none) s):wpAny (model prog w) A (setNext a slot i ep) Q E s:=by
 obtain⟨os,hos,hds,hf⟩:=hs
 unfold setNext
 refine wpAny_bind (wpAny_setState_of hos hds hf ?_)
 dsimp only
 unfold setsByText
 refine wpAny_bind (wpAny_bind (wpAny_askSetting (wpAny_pure ?_)))
 show wpAny _ _ (if w.params.followText "set-order" = true then _ else _) _ _ _
 rw[if_neg (by rw[hb];exact Bool.false_ne_true)]
 show wpAny _ _ (if (!t.plain&&decide (es.size > 1))=true then _ else _) _ _ _
 rw[if_neg (by rw[hpl];exact Bool.false_ne_true)]
 show wpAny _ _ ((if (!t.led&&!es.isEmpty)=true then _ else _) >>= _) _ _ _
 rw[if_neg (by rw[hled];simp)]
 exact wpAny_bind (wpAny_pure (wpAny_pure h))
end
end L2
namespace L2
open PySem
theorem z7b {α:Type}:∀ {l:List α}{i:Nat}{x:α},l[i]?=some x->(x::l.eraseIdx i).Perm l
 | [],i,x,h=>by simp at h
 | a::l,0,x,h=>by
  have:a=x:=by simpa using h
  subst this
  exact List.Perm.refl _
 | a::l,i+1,x,h=>by
  have h':l[i]?=some x:=by simpa using h
  rw[List.eraseIdx_cons_succ]
  exact (List.Perm.swap a x _).trans ((z7b h').cons a)
theorem x4o {α:Type}(next:Nat->Nat):∀ (fuel k:Nat)(left:List α)(out:Array α),left.length=fuel->(pickOrder.go next fuel k left out).toList.Perm (out.toList++left)
 | 0,k,left,out,h=>by
  rw[pickOrder.go]
  have:left=[]:=List.eq_nil_of_length_eq_zero h
  rw[this,List.append_nil]
 | fuel+1,k,left,out,h=>by
  rw[pickOrder.go]
  have hlt:next k % left.length<left.length:=Nat.mod_lt _ (by omega)
  have hg:left[next k % left.length]?=some left[next k % left.length]:=by simp[hlt]
  rw[hg]
  dsimp only
  refine (x4o next fuel (k+1) _ _ (by rw[List.length_eraseIdx_of_lt hlt];omega)).trans ?_
  rw[Array.toList_push,List.append_assoc]
  exact List.Perm.append_left _ (z7b hg)
theorem z9n {α:Type}(next:Nat->Nat)(xs:Array α):(pickOrder next xs).toList.Perm xs.toList:=by
 have:=x4o next xs.size 0 xs.toList #[] (by simp)
 simpa[pickOrder] using this
theorem y5z {M:Model}{A:Around}{E:Value->Shared->Prop}{s:Shared}{src:Source}{n:Nat}{Q:Nat->Shared->Prop}(hn:n≠0)(h:∀ i d,i<n->Q i { s with drawn:=d }):wpAny M A (choose src n) Q E s :=
 fun _ _ _=>⟨hn,h _ _ (Nat.mod_lt _ (Nat.pos_of_ne_zero hn))⟩
theorem y0q {α:Type}{M:Model}{A:Around}{E:Value->Shared->Prop}:∀ (n:Nat)(xs:List α)(s:Shared)(Q:List α->Shared->Prop),xs.length=n->(∀ ys d,ys.Perm xs->Q ys { s with drawn:=d })->wpAny M A (drawOrder n xs) Q E s
 | 0,xs,s,Q,h,q=>by
  have:xs=[]:=List.eq_nil_of_length_eq_zero h
  subst this
  rw[drawOrder]
  exact wpAny_pure (q [] s.drawn (List.Perm.refl _))
 | n+1,[],s,Q,h,q=>by simp at h
 | n+1,x::xs,s,Q,h,q=>by
  rw[drawOrder.eq_3 _ _ (by simp)]
  refine wpAny_bind (y5z (by simp) fun i d hi=>?_)
  have hg:(x::xs)[i]?=some (x::xs)[i]:=by simp[hi]
  rw[hg]
  refine wpAny_bind (y0q n _ _ _ (by rw[List.length_eraseIdx_of_lt hi];omega) fun ys d' hp=>?_)
  exact wpAny_pure (q _ d' ((hp.cons _).trans (z7b hg)))
end L2
namespace L2
open PySem PySem.Spec PyProof.Rows
theorem z8d:entryFor table "set.__iter__" = some Builtin.«frozenset.__iter__»:=entryFor_alias (id':="frozenset.__iter__") (by kernel_rfl) rfl (by decide +kernel) (by kernel_rfl)
abbrev siObj (first:Value)(a:Addr)(n ep:Nat):Obj:={ cls:=.type "set_iterator",data:=.fields #[first,.int 0 0,.ref a,.int n 0,.int ep 0] }
section
variable {prog:Program}{w:World}{A:Around}{E:Value->Shared->Prop}{s:Shared}
theorem y4b {a:Addr}{es:Array (Int×Value)}{ep:Nat}{t:SetTable}{Q:Value->Shared->Prop}(hT:s.TypeIs (.ref a) "set")(hs:SAt s.heap a es ep t)(hd:(!(w.params.followText "set-order")&&(!t.plain&&decide (es.size > 1)))=false)
 (hQ:Q (.ref s.heap.objs.size) { s with heap:=s.heap.push (siObj (.int 0 0) a es.size ep) }):wpAny (model prog w) A (pyIter (.ref a)) Q E s:=by
 obtain⟨os,hos,hds,hf⟩:=hs
 refine wpAny_pyIter_slot hT PySem.F.slot_set_iter (wpAny_call_entry PySem.F.slot_set_iter hT z8d ?_ (PySem.F.args_set_iter_1 _))
 unfold Builtin.«frozenset.__iter__»
 refine wpAny_bind (wpAny_pure ?_)
 refine wpAny_bind ?_
 unfold Builtin.Frozenset.sizeOf
 refine wpAny_bind (wpAny_setEntries_of hos hds hf (wpAny_pure ?_))
 refine wpAny_bind ?_
 unfold setDrawn
 refine wpAny_bind (wpAny_setState_of hos hds hf ?_)
 dsimp only
 unfold setsByText
 refine wpAny_bind (wpAny_bind (wpAny_askSetting (wpAny_pure ?_)))
 refine wpAny_pure ?_
 show wpAny _ _ (if (!(w.params.followText "set-order")&&(!t.plain&&decide (es.size > 1)))=true then _ else _) _ _ _
 rw[if_neg (by rw[hd];exact Bool.false_ne_true)]
 refine wpAny_bind (wpAny_pure ?_)
 unfold setEpoch
 refine wpAny_bind (wpAny_bind (wpAny_setState_of hos hds hf (wpAny_pure ?_)))
 refine wpAny_bind ?_
 unfold newFields
 refine wpAny_newObj_type (wpAny_pure ⟨_,rfl,"set_iterator",_,⟨_,Heap.get?_push_size _ rfl,rfl⟩,slot_si_next.lookup,?_⟩)
 exact hQ
theorem x3d {a:Addr}{es:Array (Int×Value)}{ep:Nat}{t:SetTable}{Q:Value->Shared->Prop}(hT:s.TypeIs (.ref a) "set")(hs:SAt s.heap a es ep t)(hb:es.size<scanBound)(hd:(!(w.params.followText "set-order")&&(!t.plain&&decide (es.size > 1)))=true)
 (hQ:∀ (ps:List Nat) d,ps.Perm (List.range es.size)->Q (.ref (s.heap.objs.size+1)) { s with heap:=(s.heap.push { cls:=.type "tuple",data:=.seq (ps.map fun (j:Nat)=>rawInt j).toArray }).push (siObj (.ref s.heap.objs.size) a es.size ep),drawn:=d }):wpAny (model prog w) A (pyIter (.ref a)) Q E s:=by
 obtain⟨os,hos,hds,hf⟩:=hs
 refine wpAny_pyIter_slot hT PySem.F.slot_set_iter (wpAny_call_entry PySem.F.slot_set_iter hT z8d ?_ (PySem.F.args_set_iter_1 _))
 unfold Builtin.«frozenset.__iter__»
 refine wpAny_bind (wpAny_pure ?_)
 refine wpAny_bind ?_
 unfold Builtin.Frozenset.sizeOf
 refine wpAny_bind (wpAny_setEntries_of hos hds hf (wpAny_pure ?_))
 refine wpAny_bind ?_
 unfold setDrawn
 refine wpAny_bind (wpAny_setState_of hos hds hf ?_)
 dsimp only
 unfold setsByText
 refine wpAny_bind (wpAny_bind (wpAny_askSetting (wpAny_pure ?_)))
 refine wpAny_pure ?_
 show wpAny _ _ (if (!(w.params.followText "set-order")&&(!t.plain&&decide (es.size > 1)))=true then _ else _) _ _ _
 rw[if_pos hd]
 refine wpAny_bind (y0q es.size _ _ _ (by simp) fun ps d hp=>?_)
 have hl:ps.length=es.size:=by rw[hp.length_eq];simp
 refine wpAny_bind (wpAny_newTuple ?_ (by have:=sizeLine_eq;unfold scanBound at hb;simp;omega))
 unfold setEpoch
 refine wpAny_bind (wpAny_bind (wpAny_setState_of (s:={ s with heap:=s.heap.push _,drawn:=d }) (Heap.get?_push_of_some _ hos) hds hf (wpAny_pure ?_)))
 refine wpAny_bind ?_
 unfold newFields
 refine wpAny_newObj_type (wpAny_pure ⟨_,rfl,"set_iterator",_,⟨_,Heap.get?_push_size _ rfl,rfl⟩,slot_si_next.lookup,?_⟩)
 have:=hQ ps d hp
 show Q (.ref (s.heap.push _).objs.size) _
 rw[Heap.size_push]
 exact this
end
end L2
namespace L2
open PySem PySem.Spec PyProof.Rows
theorem y0r:Slot "set_iterator" "__iter__" "set_iterator.__iter__" :=
 .of (owner:="set_iterator") (n:="__iter__") (by rw[typeLookup_type,builtinLookup_eq_fast];kernel_rfl) (by decide +kernel) (by decide +kernel) (by decide +kernel)
  (by first | exact .inl (by decide +kernel) | exact .inr (by decide +kernel)) (by rw[isSubtype_type];kernel_rfl)
theorem y5s:entryFor table "set_iterator.__iter__" = some Builtin.«dict_keyiterator.__iter__»:=entryFor_alias (id':="dict_keyiterator.__iter__") (by kernel_rfl) rfl (by decide +kernel) (by kernel_rfl)
theorem y8m (a:Value):argsOk "set_iterator.__iter__" ⟨[a],[]⟩:=by unfold argsOk;kernel_rfl
section
variable {prog:Program}{w:World}{A:Around}{E:Value->Shared->Prop}{s:Shared}
theorem x4b {it a:Addr}{first:Value}{i n ep:Nat}{Q:Value->Shared->Prop}(hi:SI s.heap it first i a n ep)(h:Q (.ref it) s):wpAny (model prog w) A (pyIter (.ref it)) Q E s:=by
 refine wpAny_pyIter_slot hi.typeIs y0r (wpAny_call_entry y0r hi.typeIs y5s ?_ (y8m _))
 show wpAny _ _ (ret (.ref it)) _ _ s
 exact wpAny_pure ⟨_,rfl,"set_iterator",_,hi.typeIs,slot_si_next.lookup,h⟩
theorem SI.at {h h':Heap}{it a:Addr}{first:Value}{i n ep:Nat}(x:SI h it first i a n ep)(k:∀ o,h.get? it=some o->h'.get? it=some o):SI h' it first i a n ep:=let ⟨o,h1,r⟩:=x;⟨o,k _ h1,r⟩
theorem SAt.at {h h':Heap}{a:Addr}{es:Array (Int×Value)}{ep:Nat}{t:SetTable}(x:SAt h a es ep t)(k:∀ o,h.get? a=some o->h'.get? a=some o):SAt h' a es ep t:=let ⟨o,h1,r⟩:=x;⟨o,k _ h1,r⟩
theorem x8j {r:Addr}{Q:Bool->Shared->Prop}(hT:s.TypeIs (.ref r) "set")(h:Q false s):wpAny (model prog w) A (Builtin.List.listLengthHint (.ref r)) Q E s:=by
 unfold Builtin.List.listLengthHint
 refine wpAny_bind (wpAny_specialOf hT PySem.F.slot_set_len.lookup ?_)
 generalize hid:("set.__len__" : String)=id0
 wp_delta
 rw[show splitId id0=some ("set","__len__") from by subst hid;decide +kernel]
 subst hid
 refine wpAny_bind (wpAny_isInstance (T:="set") (b:=true) hT (by rw[isSubtype_type];kernel_rfl) ?_)
 refine wpAny_ite_split (fun hab=>absurd hab (by decide)) (fun _=>?_)
 refine wpAny_ite_split (fun _=>?_) (fun hab=>absurd (by decide +kernel) hab)
 refine wpAny_bind (wpAny_typeOf hT ?_)
 exact wpAny_pure h
theorem y1t (hh:A.handled=none)(I a:Addr)(hne:a≠I)(es:Array (Int×Value))(ep:Nat)(t:SetTable)(ord:List Value)(hl:ord.length=es.size)(sl:Nat->Nat)
 (hN:∀ (i:Nat) (v:Value) (s:Shared),ord[i]?=some v->SAt s.heap a es ep t->∀ (A:Around) (E:Value->Shared->Prop) (Q:Option (Value×Nat)->Shared->Prop),Q (some (v,sl (i+1))) s->wpAny (model prog w) A (setNext a (sl i) i ep) Q E s)
 (hE:∀ (s:Shared),SAt s.heap a es ep t->∀ (A:Around) (E:Value->Shared->Prop) (Q:Option (Value×Nat)->Shared->Prop),Q none s->wpAny (model prog w) A (setNext a (sl es.size) es.size ep) Q E s) :
 Walks prog w A I [I,a] [I] es.size (fun i v=>ord[i]?=some v) (fun i h=>SI h I (.int (sl i) 0) i a es.size ep/\SAt h a es ep t) where
 sub:=fun b hb=>by simp at hb;simp[hb]
 frame:=fun _ _ _ st hk=>⟨st.1.at fun o e=>hk I (by simp) o e,st.2.at fun o e=>hk a (by simp) o e⟩
 item:=fun i s Q E hi st hQ=>by
  have hg:ord[i]?=some (ord[i]'(by omega)):=by simp[hl,hi]
  refine x9z hne st.1 st.2 (hN i _ s hg st.2) fun h' hit' hs'=>?_
  exact hQ _ h' s.toks hg ⟨hit',st.2.at fun o e=>hs'.extBut a o hne e⟩ fun b o hb e=>hs'.extBut b o (fun h=>hb (by simp[h])) e
 done:=fun s Q E st hQ=>w1y hh st.1 st.2 (hE s st.2) fun h' he'=>hQ h' s.toks fun b o hb e=>he' b o (fun h=>hb (by simp[h])) e
 self:=fun _ _ _ _ st hQ=>x4b st.1 hQ
theorem y8n (hh:A.handled=none)(I a tp:Addr)(hne:a≠I)(hnt:tp≠I)(es:Array (Int×Value))(ep:Nat)(t:SetTable)(ps:List Nat)(hp:ps.Perm (List.range es.size))(otp:Obj)(ntp:Nat)(hdt:otp.data=.seq (ps.map fun (j:Nat)=>rawInt j).toArray ntp) :
 Walks prog w A I [I,a,tp] [I] es.size (fun i v=>(ps.map fun j=>((es[j]?).map (·.2)).getD .none)[i]?=some v) (fun i h=>SI h I (.ref tp) i a es.size ep/\SAt h a es ep t/\h.get? tp=some otp) where
 sub:=fun b hb=>by simp at hb;simp[hb]
 frame:=fun _ _ _ st hk=>⟨st.1.at fun o e=>hk I (by simp) o e,st.2.1.at fun o e=>hk a (by simp) o e,hk tp (by simp) _ st.2.2⟩
 item:=fun i s Q E hi st hQ=>by
  have hl:ps.length=es.size:=by rw[hp.length_eq];simp
  have hg:ps[i]?=some (ps[i]'(by omega)):=by simp[hl,hi]
  have hlt:ps[i]'(by omega)<es.size:=by
   have:=hp.mem_iff.mp (List.getElem_mem (l:=ps) (n:=i) (by omega))
   simpa using this
  have he:es[ps[i]'(by omega)]?=some ((es[ps[i]'(by omega)]'hlt).1,(es[ps[i]'(by omega)]'hlt).2):=by simp[hlt]
  refine w0c st.1 st.2.1 st.2.2 hdt hg he fun h' hit' hs'=>?_
  refine hQ _ h' s.toks (by rw[List.getElem?_map,hg];simp[hlt]) ⟨hit',st.2.1.at fun o e=>hs'.extBut a o hne e,hs'.extBut tp _ hnt st.2.2⟩ fun b o hb e=>hs'.extBut b o (fun h=>hb (by simp[h])) e
 done:=fun s Q E st hQ=>by
  have hl:ps.length=es.size:=by rw[hp.length_eq];simp
  exact w1z hh st.1 st.2.1 st.2.2 hdt (by simp[hl]) fun h' he'=>hQ h' s.toks fun b o hb e=>he' b o (fun h=>hb (by simp[h])) e
 self:=fun _ _ _ _ st hQ=>x4b st.1 hQ
end
end L2
namespace L2
open PySem PySem.Spec PyProof.Rows
section
variable {prog:Program}{w:World}{A:Around}{E:Value->Shared->Prop}{s:Shared}
structure Itr1 (prog:Program)(w:World)(s:Shared)(a:Addr)(es:Array (Int×Value))(I:Addr)(h2:Heap)(fp:List Addr)(P:Nat->Value->Prop)(St:Nat->Heap->Prop):Prop where
 walks:∀ A:Around,A.handled=none->Walks prog w A I fp [I] es.size P St
 start:St 0 h2
 keeps:∀ b o,s.heap.get? b=some o->h2.get? b=some o
 fp:∀ b∈fp,b=a∨s.heap.objs.size<=b
 new:s.heap.objs.size<=I
 perm:∀ acc:Array Value,ItemsOf P acc es.size->acc.toList.Perm (es.toList.map (·.2))
theorem y5p {ord:List Value}{n:Nat}{acc:Array Value}(hl:ord.length=n)(h:ItemsOf (fun i v=>ord[i]?=some v) acc n):acc.toList=ord:=by
 refine List.ext_getElem (by simp[h.1,hl]) fun i h1 h2=>?_
 have:ord[i]?=some (acc[i]'(by simpa using h1)):=h.2 i _ (by simp at h1;simp[h1])
 rw[List.getElem?_eq_getElem h2]at this
 have:=Option.some.inj this
 simpa using this.symm
theorem it_T {a:Addr}{es:Array (Int×Value)}{ep:Nat}{t:SetTable}{Q:Value->Shared->Prop}(hT:s.TypeIs (.ref a) "set")(hs:SAt s.heap a es ep t)(hb:es.size<scanBound)(ht:TabOk (ledOf w) t)(hsz:t.place.size=es.size)
 (hQ:∀ (I:Addr) (h2:Heap) (d:Drawn) (fp:List Addr) (P:Nat->Value->Prop) (St:Nat->Heap->Prop),Itr1 prog w s a es I h2 fp P St->Q (.ref I) { s with heap:=h2,drawn:=d }):wpAny (model prog w) A (pyIter (.ref a)) Q E s:=by
 have hlt:a<s.heap.objs.size:=by obtain⟨o,h1,_⟩:=hs;exact Heap.lt_size h1
 have hne:a≠s.heap.objs.size:=Nat.ne_of_lt hlt
 by_cases hx:w.params.followText "set-order" = true
 ·refine y4b hT hs (by rw[hx];rfl) ?_
  refine hQ s.heap.objs.size _ s.drawn [s.heap.objs.size,a] _ _ ⟨fun A hh=>y1t hh s.heap.objs.size a hne es ep t ((pickOrder (w.params.setOrder a ep) es).toList.map (·.2)) (by have:=(z9n (w.params.setOrder a ep) es).length_eq;simpa using this) (fun _=>0)
   (fun i v s hv hs A E Q q=>x5f hx hs ?_) (fun s hs A E Q q=>x5f hx hs ?_),⟨⟨_,Heap.get?_push_size _ rfl,rfl,rfl⟩,hs.at fun o e=>Heap.get?_push_of_some _ e⟩,fun b o e=>Heap.get?_push_of_some _ e,fun b hb=>?_,Nat.le_refl _,fun acc hi=>?_⟩
  ·rw[List.getElem?_map,Array.getElem?_toList]at hv
   cases hg:(pickOrder (w.params.setOrder a ep) es)[i]? with
   | none=>rw[hg]at hv;cases hv
   | some e=>rw[hg]at hv;cases hv;exact q
  ·have hl:(pickOrder (w.params.setOrder a ep) es).size=es.size:=by have:=(z9n (w.params.setOrder a ep) es).length_eq;simpa using this
   rw[Array.getElem?_eq_none (by omega)]
   exact q
  ·simp at hb;rcases hb with z|z
   ·exact .inr (by rw[z];exact Nat.le_refl _)
   ·exact .inl z
  ·rw[y5p (by have:=(z9n (w.params.setOrder a ep) es).length_eq;simpa using this) hi]
   exact (z9n _ _).map _
 ·have hx':w.params.followText "set-order" = false:=by simpa using hx
  have hled:t.led=true:=by rw[ht.1];show (!(w.params.followText "set-order"))=true;rw[hx'];rfl
  by_cases hd:(!t.plain&&decide (es.size > 1))=true
  ·refine x3d hT hs hb (by rw[hx',hd];rfl) fun ps d hp=>?_
   have hl:ps.length=es.size:=by rw[hp.length_eq];simp
   refine hQ (s.heap.objs.size+1) _ d [s.heap.objs.size+1,a,s.heap.objs.size] _ _ ⟨fun A hh=>y8n hh (s.heap.objs.size+1) a s.heap.objs.size (Nat.ne_of_lt (Nat.lt_succ_of_lt hlt)) (Nat.ne_of_lt (Nat.lt_succ_self _)) es ep t ps hp _ _ rfl,⟨⟨_,Heap.get?_push_at (by rw[Heap.size_push]) rfl,rfl,rfl⟩,hs.at fun o e=>Heap.get?_push_of_some _ (Heap.get?_push_of_some _ e),Heap.get?_push_of_some _ (Heap.get?_push_size _ rfl)⟩,fun b o e=>Heap.get?_push_of_some _ (Heap.get?_push_of_some _ e),fun b hb=>?_,Nat.le_succ _,fun acc hi=>?_⟩
   ·simp at hb;rcases hb with z|z | z
    ·exact .inr (by rw[z];exact Nat.le_succ _)
    ·exact .inl z
    ·exact .inr (by rw[z];exact Nat.le_refl _)
   ·rw[y5p (by simp[hl]) hi]
    refine (hp.map _).trans (List.Perm.of_eq ?_)
    refine List.ext_getElem (by simp) fun i h1 h2=>?_
    have:i<es.size:=by simpa using h1
    simp[this]
  ·have hd':(!t.plain&&decide (es.size > 1))=false:=by simpa using hd
   refine y4b hT hs (by rw[hx',hd'];rfl) ?_
   refine hQ s.heap.objs.size _ s.drawn [s.heap.objs.size,a] _ _ ⟨fun A hh=>y1t hh s.heap.objs.size a hne es ep t (es.toList.map (·.2)) (by simp) (fun i=>if h:0<i/\i-1<t.place.size then t.place[i-1]'h.2+1 else 0)
    (fun i v s hv hs A E Q q=>x1d hx' hs hd' hled ?_) (fun s hs A E Q q=>x1d hx' hs hd' hled ?_),⟨⟨_,Heap.get?_push_size _ rfl,rfl,by simp⟩,hs.at fun o e=>Heap.get?_push_of_some _ e⟩,fun b o e=>Heap.get?_push_of_some _ e,fun b hb=>?_,Nat.le_refl _,fun acc hi=>?_⟩
   ·have hil:i<es.size:=by
     have:=(List.getElem?_eq_some_iff.mp hv).1
     simpa using this
    have hbl:SetTable.below t.place (if h:0<i/\i-1<t.place.size then t.place[i-1]'h.2+1 else 0)=i:=by
     by_cases z:i=0
     ·subst z;simp;exact y4i ht.2
     ·rw[dif_pos ⟨by omega,by omega⟩,y4j ht.2 (by omega)];omega
    rw[hbl]
    have e1:es[i]?=some (es[i]'hil):=by simp[hil]
    have e2:t.place[i]?=some (t.place[i]'(by omega)):=by simp[hsz,hil]
    rw[e1,e2]
    have e3:(es[i]'hil).2=v:=by
     rw[List.getElem?_map,Array.getElem?_toList,e1]at hv
     exact Option.some.inj hv
    have e4:(if h:0<i+1/\i+1-1<t.place.size then t.place[i+1-1]'h.2+1 else 0)=t.place[i]'(by omega)+1:=by
     rw[dif_pos ⟨by omega,by omega⟩];simp
    rw[e4]at q
    rw[←e3]at q
    exact q
   ·have hbl:SetTable.below t.place (if h:0<es.size/\es.size-1<t.place.size then t.place[es.size-1]'h.2+1 else 0)=es.size:=by
     by_cases z:es.size=0
     ·rw[dif_neg (by omega),y4i ht.2,z]
     ·rw[dif_pos ⟨by omega,by omega⟩,y4j ht.2 (by omega)];omega
    rw[hbl,Array.getElem?_eq_none (Nat.le_refl _)]
    exact q
   ·simp at hb;rcases hb with z|z
    ·exact .inr (by rw[z];exact Nat.le_refl _)
    ·exact .inl z
   ·rw[y5p (by simp) hi]
end
end L2
namespace L2
open PySem PySem.Spec PyProof.Rows
section
variable {prog:Program}{w:World}{A:Around}{E:Value->Shared->Prop}{s:Shared}
theorem x7a {a:Addr}{es:Array (Int×Value)}{ep:Nat}{t:SetTable}{Q:List Value->Shared->Prop}(hh:A.handled=none)(hT:s.TypeIs (.ref a) "set")(hs:SAt s.heap a es ep t)(hb:es.size<scanBound)(ht:TabOk (ledOf w) t)(hsz:t.place.size=es.size)
 (h:∀ (vs:List Value) (h':Heap) (tk:Nat) (d:Drawn),vs.Perm (es.toList.map (·.2))->(∀ b o,s.heap.get? b=some o->h'.get? b=some o)->s.heap.objs.size<h'.objs.size->Q vs { s with heap:=h',toks:=tk,drawn:=d }):wpAny (model prog w) A (collect (.ref a)) Q E s:=by
 have hlt:a<s.heap.objs.size:=by obtain⟨o,h1,_⟩:=hs;exact Heap.lt_size h1
 have hn:es.size<=sizeLine:=by unfold scanBound at hb;have:=sizeLine_eq;omega
 unfold collect
 refine wpAny_bind (wpAny_runValue (codeAny_builtin entry_proto_collect' ?_))
 show wpAny _ _ (do again (.builtin "list.__iadd__" ⟨[←newList [],.ref a],[]⟩)) _ _ s
 refine wpAny_bind (wpAny_newList (wpAny_pure ⟨Code.quiet_builtin _ (by decide +kernel),codeAny_builtin entry_list_iadd' ?_⟩))
 show wpAny _ _ (Builtin.List.listExtendWith (.ref s.heap.objs.size) (.ref a) (.ref s.heap.objs.size)) _ _ { s with heap:=s.heap.push (seqObj "list" #[] 0) }
 unfold Builtin.List.listExtendWith
 have hT1:Shared.TypeIs { s with heap:=s.heap.push (seqObj "list" #[] 0) } (.ref a) "set":=by obtain⟨o,h1,h2⟩:=hT;exact⟨o,Heap.get?_push_of_some _ h1,h2⟩
 have hs1:SAt (s.heap.push (seqObj "list" #[] 0)) a es ep t:=hs.at fun o e=>Heap.get?_push_of_some _ e
 refine wpAny_bind (wpAny_typeOf (T:="set") hT1 ?_)
 have h1:Builtin.List.listSameRef (.ref s.heap.objs.size) (.ref a)=false:=by
  have:s.heap.objs.size≠a:=Nat.ne_of_gt hlt
  simp[Builtin.List.listSameRef,this]
 have h2:(Value.type "set" == Value.type "list")=false:=by decide
 have h3:(Value.type "set" == Value.type "tuple")=false:=by decide
 simp only[h1,h2,h3,Bool.or_false,Bool.false_eq_true,if_false]
 refine wpAny_bind (it_T hT1 hs1 hb ht hsz fun I hp d fp P St X=>?_)
 have hS:(s.heap.push (seqObj "list" #[] 0)).get? s.heap.objs.size=some (seqObj "list" #[] 0):=Heap.get?_push_size _ rfl
 have hszp:(s.heap.push (seqObj "list" #[] 0)).objs.size=s.heap.objs.size+1:=Heap.size_push ..
 have hSf:s.heap.objs.size ∉ fp:=fun z=>by
  rcases X.fp _ z with e|e
  ·exact absurd e (Nat.ne_of_gt hlt)
  ·have e':s.heap.objs.size+1<=s.heap.objs.size:=by rw[←hszp];exact e
   exact absurd e' (Nat.not_succ_le_self _)
 have hSI:s.heap.objs.size ∉ [I]:=fun z=>hSf ((X.walks A.in1 hh).sub _ z)
 have hS1:=X.keeps _ _ hS
 have W:=(X.walks A.in1 hh).toS
 have hT2:Shared.TypeIs { s with heap:=hp,drawn:=d } (.ref a) "set":=by obtain⟨o,e1,e2⟩:=hT1;exact⟨o,X.keeps _ _ e1,e2⟩
 refine wpAny_bind (wpAny_holding (x8j hT2 ?_))
 have key:∀ (h0:Heap) (c₁ tk:Nat),St 0 h0->(∀ b o,b≠s.heap.objs.size->hp.get? b=some o->h0.get? b=some o)->h0.get? s.heap.objs.size=some { cls:=.type "list",data:=.seq #[] c₁ } ->
  ∀ R:Result->Shared->Prop,(∀ (acc:Array Value) (h':Heap) (tk':Nat) (c:Nat),acc.toList.Perm (es.toList.map (·.2))->(∀ b o,s.heap.get? b=some o->h'.get? b=some o)->h'.get? s.heap.objs.size=some { cls:=.type "list",dict:=none,data:=.seq acc c,slots:=#[] }->R (.ok (.ret (.ref s.heap.objs.size))) { s with heap:=h',toks:=tk',drawn:=d }) ->
  codeAny (model prog w) A (.builtin "list.extend.loop" ⟨[.ref s.heap.objs.size,.ref I,.ref s.heap.objs.size],[]⟩) R { s with heap:=h0,toks:=tk,drawn:=d }:=by
  intro h0 c₁ tk hst hk hS0 R hR
  refine codeAny_extend_loopS W hn s.heap.objs.size hSf (.ref s.heap.objs.size) es.size 0 _ #[] c₁ rfl (Nat.zero_le _) hst hS0 (ItemsOf.nil _) fun s' acc' c' hm hS' hacc=>?_
  rw[Moved.eq_with hm]
  refine hR acc' s'.heap s'.toks c' (X.perm acc' hacc) (fun b o e=>?_) hS'
  have hbS:b≠s.heap.objs.size:=Nat.ne_of_lt (Heap.lt_size e)
  refine hm.heap b o (fun z=>?_) (hk b o hbS (X.keeps b o (Heap.get?_push_of_some _ e)))
  rcases List.mem_cons.mp z with z|z
  ·exact hbS z
  ·have zI:b=I:=List.mem_singleton.mp z
   have:=X.new
   rw[hszp]at this
   have hbl:=Heap.lt_size e
   rw[zI]at hbl
   exact absurd (Nat.lt_of_lt_of_le hbl (Nat.le_trans (Nat.le_succ _) this)) (Nat.lt_irrefl _)
 have fin:∀ (acc:Array Value) (h':Heap) (tk':Nat) (c:Nat),acc.toList.Perm (es.toList.map (·.2))->(∀ b o,s.heap.get? b=some o->h'.get? b=some o)->h'.get? s.heap.objs.size=some { cls:=.type "list",dict:=none,data:=.seq acc c,slots:=#[] } ->
  wpAny (model prog w) A (do
   let o ←load s.heap.objs.size
   match o.data with
   | .seq xs _=>pure xs.toList
   | _=>unsupported "internal:collect") Q E { s with heap:=h',toks:=tk',drawn:=d }:=fun acc h' tk' c hp' hk hg=>by
  refine wpAny_bind (wpAny_load hg ?_)
  exact wpAny_pure (h acc.toList h' tk' d hp' hk (Heap.lt_size hg))
 refine wpAny_ite_split (fun _=>?_) (fun _=>wpAny_pure ⟨plainId_quiet PySem.F.plain_extend_loop _,key _ _ _ X.start (fun b o _ e=>e) hS1 _ fin⟩)
 refine wpAny_bind (wpAny_rule ?_)
 refine wpAny_bind ?_
 show wpAny _ _ (updateSeq s.heap.objs.size (·.push .none) >>= fun _=>updateSeq s.heap.objs.size (·.pop)) _ _ _
 refine wpAny_bind (wpAny_updateSeq hS1 rfl ?_)
 have hS₂:=Heap.get?_update_self (Obj.mapSeq (·.push Value.none)) hS1 rfl
 refine wpAny_updateSeq (hz:=by seq_fits) hS₂ rfl ?_
 have hS₃:=Heap.get?_update_self (Obj.mapSeq (·.pop)) hS₂ rfl
 refine wpAny_pure ⟨plainId_quiet PySem.F.plain_extend_loop _,key _ _ _ ?_ (fun b o hb e=>?_) hS₃ _ fin⟩
 ·refine (X.walks A.in1 hh).frame 0 _ _ X.start fun b hb o e=>?_
  have hbS:b≠s.heap.objs.size:=fun z=>hSf (z▸hb)
  exact (Heap.get?_update_other _ _ (Ne.symm hbS)).trans ((Heap.get?_update_other _ _ (Ne.symm hbS)).trans e)
 ·exact (Heap.get?_update_other _ _ (Ne.symm hb)).trans ((Heap.get?_update_other _ _ (Ne.symm hb)).trans e)
end
end L2
namespace L2
open PySem PySem.Spec PyProof.Rows
theorem y0i:∀ (D l:List Int),D.Nodup->(∀ x∈D,x∈l)->D.length<=l.length
 | [],_,_,_=>Nat.zero_le _
 | x::D,l,nd,h=>by
  obtain⟨h1,h2⟩:=List.nodup_cons.mp nd
  have hx:=h x List.mem_cons_self
  have:=y0i D (l.erase x) h2 fun y hy=>(List.mem_erase_of_ne (fun (e:y=x)=>h1 (e▸hy))).mpr (h y (List.mem_cons_of_mem _ hy))
  rw[List.length_erase_of_mem hx]at this
  have:=List.length_pos_of_mem hx
  simp only[List.length_cons];omega
theorem y0y:∀ (D l:List Int),D.Nodup->(∀ x∈D,x∈l)->l.length=D.length->l.Nodup
 | [],l,_,_,hl=>by
  have:l=[]:=List.eq_nil_of_length_eq_zero hl
  rw[this];exact List.nodup_nil
 | x::D,l,nd,h,hl=>by
  obtain⟨h1,h2⟩:=List.nodup_cons.mp nd
  have hx:=h x List.mem_cons_self
  have hsub:∀ y∈D,y∈l.erase x:=fun y hy=>(List.mem_erase_of_ne (fun (e:y=x)=>h1 (e▸hy))).mpr (h y (List.mem_cons_of_mem _ hy))
  have hle:(l.erase x).length=D.length:=by rw[List.length_erase_of_mem hx,hl];rfl
  have ih:=y0y D (l.erase x) h2 hsub hle
  have hn:¬ x∈l.erase x:=fun z=>by
   have:=y0i (x::D) (l.erase x) nd fun y hy=>by
    rcases List.mem_cons.mp hy with e|e
    ·rw[e];exact z
    ·exact hsub y e
   rw[hle]at this
   simp only[List.length_cons]at this
   omega
  exact (List.perm_cons_erase hx).nodup_iff.mpr (List.nodup_cons.mpr ⟨hn,ih⟩)
theorem y3y:∀ (ns acc:List Int),acc.Nodup->(ns.foldl addI acc).Nodup
 | [],_,h=>h
 | n::ns,acc,h=>by rw[List.foldl_cons];exact y3y ns _ (x2w h)
theorem y7n:∀ (ns acc:List Int)(x:Int),x∈ns.foldl addI acc↔x∈acc∨x∈ns
 | [],acc,x=>by simp
 | n::ns,acc,x=>by
  rw[List.foldl_cons,y7n ns (addI acc n) x,x1j,List.mem_cons]
  constructor
  ·rintro ((h|h) | h)
   ·exact .inl h
   ·exact .inr (.inl h)
   ·exact .inr (.inr h)
  ·rintro (h|h | h)
   ·exact .inl (.inl h)
   ·exact .inl (.inr h)
   ·exact .inr h
theorem mem_uniq {ns:List Int}{x:Int}:x∈uniq ns↔x∈ns:=by unfold uniq;rw[y7n];simp
def y1c (ns zs:List Int):Prop:=zs.Pairwise (· < ·)/\∀ x,x∈zs↔x∈ns
theorem x4g {ns ks zs:List Int}(hm:∀ x,x∈ks↔x∈ns)(hl:ks.length=(uniq ns).length)(hp:zs.Perm ks)(hs:zs.Pairwise (·<=·)):y1c ns zs:=by
 have hnd:ks.Nodup:=y0y (uniq ns) ks (y3y ns [] List.nodup_nil) (fun x hx=>(hm x).mpr (mem_uniq.mp hx)) hl
 have hz:zs.Nodup:=hp.nodup_iff.mpr hnd
 refine⟨?_,fun x=>(hp.mem_iff).trans (hm x)⟩
 have:=hs.and hz
 exact this.imp fun ⟨h1,h2⟩=>by
  have h2':_≠_:=h2
  omega
theorem y2v:∀ (vs:List Value),(∀ v∈vs,∃ k t,v=Value.int k t)->∃ ks,IntsAre vs ks/\∀ x,x∈ks↔∃ t,Value.int x t∈vs
 | [],_=>⟨[],.nil,fun x=>by simp⟩
 | v::vs,h=>by
  obtain⟨k,t,rfl⟩:=h v List.mem_cons_self
  obtain⟨ks,hI,hm⟩:=y2v vs fun u hu=>h u (List.mem_cons_of_mem _ hu)
  refine⟨k::ks,.cons k t hI,fun x=>?_⟩
  rw[List.mem_cons,hm x]
  constructor
  ·rintro (e|⟨t',e⟩)
   ·exact⟨t,by rw[e];exact List.mem_cons_self⟩
   ·exact⟨t',List.mem_cons_of_mem _ e⟩
  ·rintro⟨t',e⟩
   rcases List.mem_cons.mp e with z|z
   ·cases z;exact .inl rfl
   ·exact .inr ⟨t',z⟩
section
variable {prog:Program}{w:World}{A:Around}{E:Value->Shared->Prop}{s:Shared}
theorem x7m {a:Addr}{ns:List Int}{Q:Value->Shared->Prop}(hh:A.handled=none)(hS:SetT prog w (ledOf w) s.heap a (fun k'=>decide (k'∈uniq ns)) (uniq ns).length)(h64:(uniq ns).length<64)
 (h:∀ (l:Addr) (h':Heap) (tk:Nat) (d:Drawn) (out:List Value) (zs:List Int) (n:Nat),s.heap.objs.size<=l->h'.get? l=some { cls:=.type "list",data:=.seq out.toArray n }->IntsAre out zs->y1c ns zs->(∀ b o,s.heap.get? b=some o->h'.get? b=some o)->Q (.ref l) { s with heap:=h',toks:=tk,drawn:=d }) :
 wpAny (model prog w) A (call (.builtin "sorted") [.ref a]) Q E s:=by
 obtain⟨o,es,ep,t,ho,hex,hd,hel,hmem,hb,hf,hn,ht⟩:=hS
 have hsz:t.place.size=es.size:=by
  have:(t.place.size==es.size&&decide (t.fill<=t.mask))=true:=hf
  simp at this;exact this.1
 refine Calls.call_function_entry kind_sorted plain_sorted entry_sorted (args_sorted1 _) ?_
 unfold Builtin.«sorted»
 refine wpAny_bind (m:=checkCount "sorted" 1 1 _) (wpAny_pure ?_)
 refine wpAny_bind (x7a hh ⟨o,ho,hex.1⟩ ⟨o,ho,hd,hf⟩ hb ht hsz fun vs h1 tk d hp hk hgr=>?_)
 have hvl:vs.length=(uniq ns).length:=by rw[hp.length_eq];simp[hn]
 obtain⟨ks,hI,hmk⟩:∃ ks,IntsAre vs ks/\∀ x,x∈ks↔x∈ns:=by
  obtain⟨ks,hI,hm⟩:=y2v vs fun v hv=>by
   obtain⟨e,he,e2⟩:=List.mem_map.mp (hp.mem_iff.mp hv)
   obtain⟨k,hk'⟩:=hel.keys e he
   obtain⟨t',e3⟩:=Value.isInt_shape (show Value.isInt k e.2=true from hk')
   exact⟨k,t',by rw[←e2,e3]⟩
  refine⟨ks,hI,fun x=>(hm x).trans ?_⟩
  have hx:x∈ns↔∃ e∈es.toList,(intKind prog w).is x e.2=true:=by
   rw[←hmem x,decide_eq_true_eq,mem_uniq]
  rw[hx]
  constructor
  ·rintro⟨t',hv⟩
   obtain⟨e,he,e2⟩:=List.mem_map.mp (hp.mem_iff.mp hv)
   exact⟨e,he,by rw[show e.2=Value.int x t' from e2];exact intKind_is _ _ _ _⟩
  ·rintro⟨e,he,hk'⟩
   obtain⟨t',e3⟩:=Value.isInt_shape (show Value.isInt x e.2=true from hk')
   exact⟨t',hp.mem_iff.mpr (List.mem_map.mpr ⟨e,he,e3⟩)⟩
 have hkl:ks.length=(uniq ns).length:=by
  have:∀ {vs:List Value} {ns:List Int},IntsAre vs ns->vs.length=ns.length:=by
   intro vs ns x
   induction x with
   | nil=>rfl
   | cons n t _ ih=>simp[ih]
  rw[←this hI,hvl]
 refine wpAny_bind (wpAny_newList ?_ (by have:=sizeLine_eq;omega))
 have hoL:(h1.push (seqObj "list" vs.toArray 0)).get? h1.objs.size=some (seqObj "list" vs.toArray 0):=Heap.get?_push_size _ rfl
 refine wpAny_bind (wpAny_holding (wpAny_call_entry slot_list_sort ⟨_,hoL,rfl⟩ entry_list_sort (list_sort_tree hoL hI (by omega) fun out ns' a1 a2 a3=>⟨_,rfl,?_⟩) (args_list_sort _)))
 obtain⟨n',hat⟩:=sortedHeap_at (out:=out) hoL
 have hle:s.heap.objs.size<=h1.objs.size:=Nat.le_of_lt hgr
 refine wpAny_pure ⟨_,rfl,h h1.objs.size _ tk d out.toList ns' n' hle (by simpa using hat) a1 (x4g hmk hkl a2 a3) fun b o' e=>?_⟩
 have e1:=Heap.get?_push_of_some (seqObj "list" vs.toArray 0) (hk b o' e)
 have hb1:b<h1.objs.size:=Heap.lt_size (hk b o' e)
 rw[sortedHeap_old (Nat.ne_of_lt hb1) (Heap.lt_size e1)]
 exact e1
end
end L2
namespace L2
open PySem PySem.Spec PyProof.Rows
abbrev z5i (L:Bool):Obj:={ cls:=.type "set",dict:=none,data:=.set #[] 0 (.fresh 0 0 L) }
section
variable {prog:Program}{w:World}{A:Around}{E:Value->Shared->Prop}{s:Shared}
theorem new_T (a:Value){Q₁:Value->Shared->Prop}(h:Q₁ (.ref s.heap.objs.size) { s with heap:=s.heap.push (z5i (ledOf w)) }) :
 codeAny (model prog w) A (.call (.builtin "set.__new__") ⟨[.type "set",a],[]⟩) (wants Q₁ E) s:=by
 refine codeAny_of_tree ?_
 show wpAny _ A.in1 (do checkBuiltinCall "set.__new__" ⟨[.type "set",a],[]⟩;again (.builtin "set.__new__" ⟨[.type "set",a],[]⟩)) _ _ s
 refine wpAny_bind (wpAny_of_eq (F.newCall_set_1 a) (wpAny_pure ⟨plainId_quiet F.plain_set_new _,codeAny_builtin F.entry_set_new ?_⟩))
 rw[Around.under_plainId F.plain_set_new _]
 unfold Builtin.«set.__new__» Builtin.Frozenset.newClass
 have hsub:=sub_set_self
 obtain⟨hp,g,d,tk,os⟩:=s
 dsimp only
 wp_walk
 refine wpAny_askSetting (wpAny_pure ?_)
 dsimp only
 simp only[newObj]
 refine wpAny_bind (wpAny_alloc (wpAny_pure ?_))
 exact wpAny_pure h
theorem w1b (L:Bool){h:Heap}{a:Addr}(ho:h.get? a=some (z5i L)):SetT prog w L h a (fun k'=>decide (k'∈uniq [])) (uniq []).length:=by
 refine⟨_,#[],0,_,ho,⟨rfl,rfl,rfl⟩,rfl,fun e he=>by simp at he,fun k=>by simp[uniq],by decide,by rfl,rfl,x3r L 0 0⟩
set_option maxHeartbeats 3200000 in
theorem w2y {l:Addr}{items:Array Value}{ns:List Int}{Q:Value->Shared->Prop}(hh:A.handled=none)(hl:s.heap.IsList l items)(hi:IntsAre items.toList ns)(hb:ns.length+1<scanBound)
 (h:∀ (h':Heap) (tk:Nat),SetT prog w (ledOf w) h' s.heap.objs.size (fun k'=>decide (k'∈uniq ns)) (uniq ns).length->(∀ b o,b<s.heap.objs.size->s.heap.get? b=some o->h'.get? b=some o)->Q (.ref s.heap.objs.size) { s with heap:=h',toks:=tk }) :
 wpAny (model prog w) A (call (.type "set") [.ref l]) Q E s:=by
 have hlen:items.size=ns.length:=by
  have:∀ {vs:List Value} {ns:List Int},IntsAre vs ns->vs.length=ns.length:=by
   intro vs ns x
   induction x with
   | nil=>rfl
   | cons n t _ ih=>simp[ih]
  have:=this hi;simpa using this
 obtain⟨c,tl,hmro⟩:=F.called_set.mro
 have hmade:=F.called_set.made
 have hsub:=F.called_set.sub
 refine wpAny_call (codeAny_of_tree ?_)
 show wpAny _ _ (callAny (.type "set") _) _ _ _
 refine wpAny_pure ⟨Code.quiet_builtin _ (by decide +kernel),codeAny_builtin F.entry_type_call ?_⟩
 rw[Around.under_plain (weight_type_call_type "set" [.ref l] []) rfl]
 have h1:=F.called_set.notType
 have h2:=F.called_set.canCreate
 have hct:=F.typeCall_set_1 (.ref l)
 repeat (any_goals (first | assumption | wp_step))
 refine codeAny_mono (new_T (.ref l) (E:=E) (Q₁:=fun obj s₁=>obj=.ref s.heap.objs.size/\s₁={ s with heap:=s.heap.push (z5i (ledOf w)) }) ⟨rfl,rfl⟩) fun r s₁ hr=>?_
 cases r with
 | error e=>exact hr
 | ok fl =>
  cases fl with
  | ret obj =>
   obtain⟨rfl,rfl⟩:=hr
   have hS:(s.heap.push (z5i (ledOf w))).get? s.heap.objs.size=some (z5i (ledOf w)):=Heap.get?_push_size _ rfl
   have hT:Shared.TypeIs { s with heap:=s.heap.push (z5i (ledOf w)) } (.ref s.heap.objs.size) "set":=⟨_,hS,rfl⟩
   have hli:=F.called_set.init.lookup
   have hbi:=F.called_set.init.bind (.ref s.heap.objs.size)
   repeat (any_goals (first | assumption | wp_step))
   refine codeAny_mono (codeAny_call_builtin (R:=wants (fun r s₂=>r=.none/\∃ h' tk,s₂={ s with heap:=h',toks:=tk }/\SetT prog w (ledOf w) h' s.heap.objs.size (fun k'=>decide (k'∈uniq ns)) (uniq ns).length /\
    (∀ b o,b<s.heap.objs.size->s.heap.get? b=some o->h'.get? b=some o)) E) F.called_set.init.plain F.entry_set_init (check_set_init_1 hT ?_)) fun r₂ s₂ hr₂=>?_
   ·obtain⟨ol,hol,hcl,nl,hdl⟩:=hl
    obtain⟨ocls,odict,odata,oslots⟩:=ol
    simp only at hcl hdl
    subst hcl;subst hdl
    have hol':(s.heap.push (z5i (ledOf w))).get? l=some { cls:=.type "list",dict:=odict,data:=.seq items nl,slots:=oslots }:=Heap.get?_push_of_some _ hol
    have hsls:=F.sub_list_set
    have hslf:=F.sub_list_frozenset
    have hne:(Value.type "list" == Value.type "dict")=false:=by decide
    have hl1:(s.heap.push (z5i (ledOf w))).IsList l items:=⟨_,hol',rfl,nl,rfl⟩
    unfold Builtin.«set.__init__» noKeywords Builtin.Frozenset.updateFrom
    generalize hPI:pyIter=PI
    wp_walk
    subst hPI
    refine wpAny_pyIter_list hl1 ?_
    refine wpAny_bind (wpAny_runValue ?_)
    have hlS:l<s.heap.objs.size:=Heap.lt_size hol
    have hh3:A.in1.in1.in1.handled=none:=by simp[hh]
    have hneI:l≠(s.heap.push (z5i (ledOf w))).objs.size:=by
     rw[Heap.size_push];exact Nat.ne_of_lt (Nat.lt_succ_of_lt hlS)
    have hSf:s.heap.objs.size ∉ [(s.heap.push (z5i (ledOf w))).objs.size,l]:=by
     rw[Heap.size_push];simp only[List.mem_cons,List.not_mem_nil,or_false,not_or]
     exact⟨Nat.ne_of_lt (Nat.lt_succ_self _),Nat.ne_of_gt hlS⟩
    have hval:∀ (i:Nat) (v:Value),items[i]?=some v->∃ t,v=.int (ns.getD i 0) t:=fun i v hv =>
     IntsAre.int_at hi i v (by rw[Array.getElem?_toList];exact hv)
    have W:=(Walks.list (prog:=prog) (w:=w) hh3 (s.heap.push (z5i (ledOf w))).objs.size l hneI items).toS
    rw[hlen]at W
    refine w2m (L:=ledOf w) W s.heap.objs.size hSf hval hb (ns.length-0) 0 _ (by omega) (Nat.zero_le _) ⟨⟨_,Heap.get?_push_size _ rfl,rfl,rfl⟩,(hl1.push _)⟩ ?hS0 ?hR
    case hS0 =>
     exact w1b (ledOf w) (Heap.get?_push_of_some _ hS)
    case hR =>
     intro s' hm hS'
     obtain⟨h',g',d',tk',os'⟩:=s'
     have eg:g'=s.gens:=hm.gens
     have ed:d'=s.drawn:=hm.drawn
     have eo:os'=s.os:=hm.os
     subst eg;subst ed;subst eo
     show wpAny _ _ _ _ _ _
     refine wpAny_pure ?_
     show wpAny _ _ (ret Value.none) _ _ _
     refine wpAny_pure ⟨rfl,h',tk',rfl,hS',fun b o hb e=>?_⟩
     have hb1:b≠s.heap.objs.size:=Nat.ne_of_lt hb
     have hb2:b≠(s.heap.push (z5i (ledOf w))).objs.size:=by
      rw[Heap.size_push];exact Nat.ne_of_lt (Nat.lt_succ_of_lt hb)
     exact hm.heap b o (by simp only[List.mem_cons,List.not_mem_nil,or_false,not_or];exact⟨hb1,hb2⟩) (Heap.get?_push_of_some _ (Heap.get?_push_of_some _ e))
   ·cases r₂ with
    | error e=>exact hr₂
    | ok fl₂ =>
     cases fl₂ with
     | ret r =>
      obtain⟨rfl,h',tk,rfl,hS',hk'⟩:=hr₂
      repeat (any_goals (first | assumption | wp_step))
      exact h _ _ hS' hk'
     | _=>exact hr₂.elim
  | _=>exact hr.elim
end
end L2
namespace L2
open PySem PySem.Spec PyProof.Rows
section
variable {X:Cx}
def x2g (te:TE):TE:=fun σ H Q=>te σ H fun x H1=>∃ (p:Addr) (ns:List Int),x=.ref p/\H1 p=some (.lst (ns.map V.int))/\ns.length<64/\∀ (l:Addr) (zs:List Int),H1 l=none->y1c ns zs->Q (.ref l) (upd H1 l (.lst (zs.map V.int)))
theorem y0v {e:Expr}{te:TE}{p1 p2 p3 pos:Pos}(hc:X.calm=true)(hms:X.mg "sorted" = none)(hmt:X.mg "set" = none)(he:PE X e te)(hgs:Gl X "sorted":=by rfl) (hgt:Gl X "set":=by rfl)
 (h1:starEach [.Call (.Name "set" p2) [e] [] p3] X.env=[(false,eval (.Call (.Name "set" p2) [e] [] p3) X.env)]:=by rfl) (h2:starEach [e] X.env=[(false,eval e X.env)]:=by rfl) :
 PE X (.Call (.Name "sorted" p1) [.Call (.Name "set" p2) [e] [] p3] [] pos) (x2g te):=by
 intro pins s σ H Q I h
 refine wpAny_Call_Name_kw (y1a I hgs hms boot_sorted ?_)
 refine PyProof.Rows.callWith_builtin1 ?_ h1 rfl
 rw[h1]
 refine Calls.spliced_cons ?_
 show wpAny _ _ (eval (.Call (.Name "set" p2) [e] [] p3) X.env) _ _ _
 refine wpAny_Call_Name_kw (y1a I hgt hmt (show bootBuiltins "set" = some (.type "set") by decide +kernel) ?_)
 refine PyProof.Rows.callWith_type1 ?_ h2 rfl
 rw[h2]
 refine Calls.spliced_cons ?_
 show wpAny _ _ (eval e X.env) _ _ _
 refine (thn (he pins s σ H _ I h) fun v s1 ⟨x,H1,I1,r,p,ns,ex,hp,hl,q⟩=>Calls.spliced_nil ?_)
 subst ex
 cases (show v=Value.ref p from r)
 obtain⟨_,its,n,hr,hg⟩:=(show ObjOk X.prog X.w H1 s1.heap p (.lst (ns.map V.int)) from I1.hok p _ hp)
 have hI:IntsAre its ns:=x3f hr
 refine w2y (I1.ok.hd hc) (items:=its.toArray) ⟨_,hg,rfl,n,rfl⟩ (by simpa using hI) (by unfold scanBound;omega) fun h' tk hS hk=>?_
 refine Calls.spliced_nil ?_
 have hul:(uniq ns).length<64:=by
  have:=y5n ns []
  have h3:(uniq ns).length<=ns.length:=by simpa[uniq] using this
  omega
 have hk0:∀ b o,s1.heap.get? b=some o->h'.get? b=some o:=fun b o e=>hk b o (Heap.lt_size e) e
 refine x7m (s:={ s1 with heap:=h',toks:=tk }) (I1.ok.hd hc) hS hul fun l h2 tk2 d out zs n2 hle hat hI2 hR hk2=>?_
 have hsz:s1.heap.objs.size<=h'.objs.size:=by
  obtain⟨o,_,_,_,ho,_⟩:=hS
  exact Nat.le_of_lt (Heap.lt_size ho)
 have hll:s1.heap.objs.size<=l:=Nat.le_trans hsz hle
 have J:Inv X pins σ (upd H1 l (.lst (zs.map V.int))) { s1 with heap:=h2,toks:=tk2 }:=I1.laid (fun b u e=>hk2 b u (hk0 b u e)) hll ⟨by
  have e1:∀ {vs:List Value} {ns:List Int},IntsAre vs ns->vs.length=ns.length:=by
   intro vs ns x
   induction x with
   | nil=>rfl
   | cons n t _ ih=>simp[ih]
  have hz:zs.length<=ns.length:=y0i zs ns (hR.1.imp fun h=>by
   intro z;omega) fun x hx=>(hR.2 x).mp hx
  have:=sizeLine_eq
  simp;omega,out,n2,y1v hI2,hat⟩
 have J2:=J.call (g':=s1.gens) (t':=tk2) (d':=d) (ch:=[]) (Un.kept fun _ _ e=>e) J.hok J.bare (fun b z=>nomatch z)
 exact⟨.ref l,_,J2,rfl,q l zs (I1.hok.fresh hll) hR⟩
end
end L2
namespace L2
theorem mApp {α:Type}{a:α}{s t:List α}(h:a∈s++t):a∈s∨a∈t:=List.mem_append.mp h
end L2
namespace My
open PySem L2 PySem.Spec PyProof.Rows
abbrev z5k:Stmt:=top 4
abbrev z4o:List Str:=["one","two","lamp"]
abbrev x7z:List Str:=["one","two","lamp","rest_of_one","rest_of_two"]
theorem sc_merged:FnScope x7z z4o (z0g z5k):=⟨rfl,rfl,rfl,by decide +kernel,rfl,by decide +kernel,by decide +kernel⟩
abbrev z3e:Stmt:=top 5
abbrev z4b:List Str:=["wish","taken"]
abbrev y9i:List Str:=["wish","taken","letter"]
theorem sc_left_open:FnScope y9i z4b (z0g z3e):=⟨rfl,rfl,rfl,by decide +kernel,rfl,by decide +kernel,by decide +kernel⟩
abbrev z3l:Stmt:=top 6
abbrev z3p:List Str:=["letters"]
abbrev y9p:List Str:=["letters"]
theorem y6n:FnScope y9p z3p (z0g z3l):=⟨rfl,rfl,rfl,by decide +kernel,rfl,by decide +kernel,by decide +kernel⟩
abbrev z6d:Stmt:=top 7
abbrev z6m:List Str:=["letters"]
abbrev x8a:List Str:=["letters","marks","letter"]
theorem sc_marked:FnScope x8a z6m (z0g z6d):=⟨rfl,rfl,rfl,by decide +kernel,rfl,by decide +kernel,by decide +kernel⟩
abbrev z3k:Stmt:=top 11
abbrev z4f:List Str:=["count","taken"]
abbrev y9o:List Str:=["count","taken","lamp"]
theorem sc_free_lamp:FnScope y9o z4f (z0g z3k):=⟨rfl,rfl,rfl,by decide +kernel,rfl,by decide +kernel,by decide +kernel⟩
abbrev z3j:Stmt:=top 13
abbrev z4e:List Str:=["wishes","trail","number"]
abbrev y9n:List Str:=["wishes","trail","number","shorter","steps","in_hand","letters","pair"]
theorem sc_gone_back:FnScope y9n z4e (z0g z3j):=⟨rfl,rfl,rfl,by decide +kernel,rfl,by decide +kernel,by decide +kernel⟩
abbrev z2o:Stmt:=top 14
abbrev z4q:List Str:=["wishes","steps","in_hand","pair"]
abbrev y2n:List Str:=["wishes","steps","in_hand","pair","hand","letter","why"]
theorem sc_step_back:FnScope y2n z4q (z0g z2o):=⟨rfl,rfl,rfl,by decide +kernel,rfl,by decide +kernel,by decide +kernel⟩
abbrev z6b:Stmt:=top 15
abbrev z8j:List Str:=["count","wishes"]
abbrev x7x:List Str:=["count","wishes","tally","steps"]
theorem sc_solved:FnScope x7x z8j (z0g z6b):=⟨rfl,rfl,rfl,by decide +kernel,rfl,by decide +kernel,by decide +kernel⟩
abbrev z6c:Stmt:=top 16
abbrev z7d:List Str:=["count","tally","eager"]
abbrev x7y:List Str:=["count","tally","eager","steps","number","letter"]
theorem sc_search:FnScope x7y z7d (z0g z6c):=⟨rfl,rfl,rfl,by decide +kernel,rfl,by decide +kernel,by decide +kernel⟩
abbrev z4z:Stmt:=top 17
abbrev z5s:List Str:=["tally","number"]
abbrev x5l:List Str:=["tally","number","behind","trail","step"]
theorem sc_go_back:FnScope x5l z5s (z0g z4z):=⟨rfl,rfl,rfl,by decide +kernel,rfl,by decide +kernel,by decide +kernel⟩
abbrev z2v:Stmt:=top 18
abbrev z3o:List Str:=["count","tally","eager"]
abbrev y7i:List Str:=["count","tally","eager","letter"]
theorem sc_next_guess:FnScope y7i z3o (z0g z2v):=⟨rfl,rfl,rfl,by decide +kernel,rfl,by decide +kernel,by decide +kernel⟩
abbrev z2u:Stmt:=top 19
abbrev z3n:List Str:=["count","tally"]
abbrev y7h:List Str:=["count","tally"]
theorem y4y:FnScope y7h z3n (z0g z2u):=⟨rfl,rfl,rfl,by decide +kernel,rfl,by decide +kernel,by decide +kernel⟩
abbrev z7t:Stmt:=top 21
abbrev y0g:List Str:=["wishes","steps"]
abbrev w0u:List Str:=["wishes","steps","known","step"]
theorem sc_shows:FnScope w0u y0g (z0g z7t):=⟨rfl,rfl,rfl,by decide +kernel,rfl,by decide +kernel,by decide +kernel⟩
abbrev z4i:Stmt:=top 22
abbrev z4t:List Str:=["known","step"]
abbrev x2z:List Str:=["known","step","one","two","lamp"]
theorem sc_is_right:FnScope x2z z4t (z0g z4i):=⟨rfl,rfl,rfl,by decide +kernel,rfl,by decide +kernel,by decide +kernel⟩
abbrev z6h:Stmt:=top 24
abbrev z7f:List Str:=["_law_number","_law_prime","_law_many"]
abbrev x8e:List Str:=["_law_number","_law_prime","_law_many"]
theorem x4e:FnScope x8e z7f (z0g z6h):=⟨rfl,rfl,rfl,by decide +kernel,rfl,by decide +kernel,by decide +kernel⟩
abbrev z4v:Stmt:=top 25
abbrev z5d:List Str:=["_law_found"]
abbrev x5h:List Str:=["_law_found"]
theorem x2j:FnScope x5h z5d (z0g z4v):=⟨rfl,rfl,rfl,by decide +kernel,rfl,by decide +kernel,by decide +kernel⟩
abbrev y0s:Stmt:=top 26
abbrev y3v:List Str:=["_law_script","_law_k"]
abbrev w2j:List Str:=["_law_script","_law_k"]
theorem w0d:FnScope w2j y3v (z0g y0s):=⟨rfl,rfl,rfl,by decide +kernel,rfl,by decide +kernel,by decide +kernel⟩
abbrev z4y:Stmt:=top 27
abbrev z5g:List Str:=["_law_found","_law_due"]
abbrev x5k:List Str:=["_law_found","_law_due","_law_left","_law_right","_law_one","_law_two"]
theorem sc_l_alike:FnScope x5k z5g (z0g z4y):=⟨rfl,rfl,rfl,by decide +kernel,rfl,by decide +kernel,by decide +kernel⟩
abbrev z1w:Stmt:=top 28
abbrev z3c:List Str:=["_law_cell","_law_count"]
abbrev y3s:List Str:=["_law_cell","_law_count","_law_setting","_law_k"]
theorem sc_l_setting_of:FnScope y3s z3c (z0g z1w):=⟨rfl,rfl,rfl,by decide +kernel,rfl,by decide +kernel,by decide +kernel⟩
abbrev z2d:Stmt:=top 29
abbrev z3t:List Str:=["_law_cells","_law_count"]
abbrev y5h:List Str:=["_law_cells","_law_count","_law_wishes","_law_wish","_law_k","_law_cell","_law_sign"]
theorem sc_l_wishes_of:FnScope y5h z3t (z0g z2d):=⟨rfl,rfl,rfl,by decide +kernel,rfl,by decide +kernel,by decide +kernel⟩
abbrev z4x:Stmt:=top 30
abbrev z5f:List Str:=["_law_wish","_law_setting"]
abbrev x5j:List Str:=["_law_wish","_law_setting","_law_letter"]
theorem sc_l_meets:FnScope x5j z5f (z0g z4x):=⟨rfl,rfl,rfl,by decide +kernel,rfl,by decide +kernel,by decide +kernel⟩
abbrev z3i:Stmt:=top 31
abbrev z4d:List Str:=["_law_wishes","_law_setting"]
abbrev y9m:List Str:=["_law_wishes","_law_setting","_law_wish"]
theorem sc_l_all_met:FnScope y9m z4d (z0g z3i):=⟨rfl,rfl,rfl,by decide +kernel,rfl,by decide +kernel,by decide +kernel⟩
abbrev z3h:Stmt:=top 32
abbrev z4s:List Str:=["_law_wishes","_law_setting"]
abbrev y9l:List Str:=["_law_wishes","_law_setting","_law_made","_law_wish"]
theorem sc_l_planted:FnScope y9l z4s (z0g z3h):=⟨rfl,rfl,rfl,by decide +kernel,rfl,by decide +kernel,by decide +kernel⟩
abbrev z2g:Stmt:=top 33
abbrev z3v:List Str:=["_law_count","_law_cell"]
abbrev y5k:List Str:=["_law_count","_law_cell","_law_wishes","_law_k","_law_signs","_law_wish","_law_turn"]
theorem sc_l_all_signs:FnScope y5k z3v (z0g z2g):=⟨rfl,rfl,rfl,by decide +kernel,rfl,by decide +kernel,by decide +kernel⟩
abbrev z4w:Stmt:=top 34
abbrev z5e:List Str:=["_law_one","_law_two","_law_lamp"]
abbrev x5i:List Str:=["_law_one","_law_two","_law_lamp","_law_rows","_law_most","_law_letter"]
theorem sc_l_merge:FnScope x5i z5e (z0g z4w):=⟨rfl,rfl,rfl,by decide +kernel,rfl,by decide +kernel,by decide +kernel⟩
abbrev z1x:Stmt:=top 35
abbrev z2p:List Str:=["_law_known","_law_step"]
abbrev y3t:List Str:=["_law_known","_law_step","_law_one","_law_two","_law_lamp","_law_wish"]
theorem sc_l_right_step:FnScope y3t z2p (z0g z1x):=⟨rfl,rfl,rfl,by decide +kernel,rfl,by decide +kernel,by decide +kernel⟩
abbrev z3g:Stmt:=top 36
abbrev z4r:List Str:=["_law_wishes","_law_steps"]
abbrev y9k:List Str:=["_law_wishes","_law_steps","_law_known","_law_step"]
theorem sc_l_refuted:FnScope y9k z4r (z0g z3g):=⟨rfl,rfl,rfl,by decide +kernel,rfl,by decide +kernel,by decide +kernel⟩
abbrev z6g:Stmt:=top 37
abbrev z8k:List Str:=["_law_found","_law_count"]
abbrev x8d:List Str:=["_law_found","_law_count","_law_lit"]
theorem sc_l_full:FnScope x8d z8k (z0g z6g):=⟨rfl,rfl,rfl,by decide +kernel,rfl,by decide +kernel,by decide +kernel⟩
abbrev z4h:Stmt:=top 38
abbrev z5q:List Str:=["_law_found"]
abbrev x2y:List Str:=["_law_found"]
theorem y8w:FnScope x2y z5q (z0g z4h):=⟨rfl,rfl,rfl,by decide +kernel,rfl,by decide +kernel,by decide +kernel⟩
abbrev z2w:Stmt:=top 39
abbrev z4j:List Str:=["_law_count","_law_wishes"]
abbrev y7j:List Str:=["_law_count","_law_wishes","_law_rows","_law_k","_law_row"]
theorem sc_l_first_of:FnScope y7j z4j (z0g z2w):=⟨rfl,rfl,rfl,by decide +kernel,rfl,by decide +kernel,by decide +kernel⟩
abbrev z6e:Stmt:=top 40
abbrev z6n:List Str:=["_law_wish","_law_letters"]
abbrev x8b:List Str:=["_law_wish","_law_letters","_law_found","_law_letter"]
theorem sc_l_open:FnScope x8b z6n (z0g z6e):=⟨rfl,rfl,rfl,by decide +kernel,rfl,by decide +kernel,by decide +kernel⟩
abbrev z2e:Stmt:=top 41
abbrev z2i:List Str:=["_law_wishes","_law_letters"]
abbrev y5i:List Str:=["_law_wishes","_law_letters","_law_k"]
theorem sc_l_broken_at:FnScope y5i z2i (z0g z2e):=⟨rfl,rfl,rfl,by decide +kernel,rfl,by decide +kernel,by decide +kernel⟩
abbrev z6f:Stmt:=top 42
abbrev z7e:List Str:=["_law_wishes","_law_letters"]
abbrev x8c:List Str:=["_law_wishes","_law_letters","_law_k","_law_found"]
theorem sc_l_next:FnScope x8c z7e (z0g z6f):=⟨rfl,rfl,rfl,by decide +kernel,rfl,by decide +kernel,by decide +kernel⟩
abbrev z3f:Stmt:=top 43
abbrev z4c:List Str:=["_law_known","_law_one","_law_two","_law_letter"]
abbrev y9j:List Str:=["_law_known","_law_one","_law_two","_law_letter"]
theorem y6m:FnScope y9j z4c (z0g z3f):=⟨rfl,rfl,rfl,by decide +kernel,rfl,by decide +kernel,by decide +kernel⟩
abbrev z6i:Stmt:=top 44
abbrev z7g:List Str:=["_law_known","_law_trail","_law_hand"]
abbrev x8f:List Str:=["_law_known","_law_trail","_law_hand","_law_left","_law_steps","_law_letter","_law_why"]
theorem sc_l_back:FnScope x8f z7g (z0g z6i):=⟨rfl,rfl,rfl,by decide +kernel,rfl,by decide +kernel,by decide +kernel⟩
abbrev z1v:Stmt:=top 45
abbrev z3b:List Str:=["_law_count","_law_wishes"]
abbrev y3r:List Str:=["_law_count","_law_wishes","_law_known","_law_trail","_law_letters","_law_pair","_law_number","_law_free"]
theorem sc_l_worked_out:FnScope y3r z3b (z0g z1v):=⟨rfl,rfl,rfl,by decide +kernel,rfl,by decide +kernel,by decide +kernel⟩
abbrev z2f:Stmt:=top 46
abbrev z3u:List Str:=["_law_found","_law_due"]
abbrev y5j:List Str:=["_law_found","_law_due","_law_made","_law_setting","_law_k","_law_step"]
theorem sc_l_as_worked:FnScope y5j z3u (z0g z2f):=⟨rfl,rfl,rfl,by decide +kernel,rfl,by decide +kernel,by decide +kernel⟩
abbrev s_law:Stmt:=top 47
abbrev p_law:List Str:=["_law_script"]
abbrev n_law:List Str:=["_law_script","_law_head","_law_count","_law_setting","_law_wishes","_law_handed","_law_found"]
theorem sc_law:FnScope n_law p_law (z0g s_law):=⟨rfl,rfl,rfl,by decide +kernel,rfl,by decide +kernel,by decide +kernel⟩
abbrev z2x:Stmt:=z3x (top 9) 0
abbrev z2j:List Str:=["self","wishes"]
abbrev y7k:List Str:=["self","wishes","wish"]
theorem sc_Tally_init:FnScope y7k z2j (z0g z2x):=⟨rfl,rfl,rfl,by decide +kernel,rfl,by decide +kernel,by decide +kernel⟩
abbrev z1k:Stmt:=z3x (top 9) 1
abbrev z1e:List Str:=["self","wish"]
abbrev y1g:List Str:=["self","wish","number","letters","letter"]
theorem sc_Tally_put_wish:FnScope y1g z1e (z0g z1k):=⟨rfl,rfl,rfl,by decide +kernel,rfl,by decide +kernel,by decide +kernel⟩
abbrev z3m:Stmt:=z3x (top 9) 2
abbrev z2q:List Str:=["self","letter","why"]
abbrev y9q:List Str:=["self","letter","why"]
theorem y6o:FnScope y9q z2q (z0g z3m):=⟨rfl,rfl,rfl,by decide +kernel,rfl,by decide +kernel,by decide +kernel⟩
abbrev z1j:Stmt:=z3x (top 9) 3
abbrev z1l:List Str:=["self"]
abbrev y1f:List Str:=["self","pair"]
theorem sc_Tally_take_off:FnScope y1f z1l (z0g z1j):=⟨rfl,rfl,rfl,by decide +kernel,rfl,by decide +kernel,by decide +kernel⟩
abbrev z1b:Stmt:=z3x (top 9) 4
abbrev z0y:List Str:=["self","letter","change"]
abbrev z8y:List Str:=["self","letter","change","number"]
theorem sc_Tally_count_letter:FnScope z8y z0y (z0g z1b):=⟨rfl,rfl,rfl,by decide +kernel,rfl,by decide +kernel,by decide +kernel⟩
abbrev z1p:Stmt:=z3x (top 9) 5
abbrev z1i:List Str:=["self","number"]
abbrev y2o:List Str:=["self","number"]
theorem y1e:FnScope y2o z1i (z0g z1p):=⟨rfl,rfl,rfl,by decide +kernel,rfl,by decide +kernel,by decide +kernel⟩
abbrev z1a:Stmt:=z3x (top 9) 6
abbrev z0x:List Str:=["self"]
abbrev z8x:List Str:=["self"]
theorem z7s:FnScope z8x z0x (z0g z1a):=⟨rfl,rfl,rfl,by decide +kernel,rfl,by decide +kernel,by decide +kernel⟩
abbrev z2h:Stmt:=z3x (top 9) 7
abbrev z2k:List Str:=["self"]
abbrev y5l:List Str:=["self","number"]
theorem sc_Tally_go_on:FnScope y5l z2k (z0g z2h):=⟨rfl,rfl,rfl,by decide +kernel,rfl,by decide +kernel,by decide +kernel⟩
theorem z9v {α:Type}(l:List α):l.filter (fun _=>true)=l:=List.filter_eq_self.mpr fun _ _=>rfl
def onceF (acc:List Int)(n:Int):List Int:=if n∈acc then acc else acc++[n]
def once (ns:List Int):List Int:=ns.foldl onceF []
theorem y6w (ns:List Int)(n:Int):once (ns++[n])=onceF (once ns) n:=by simp[once,List.foldl_append]
theorem x5t {acc:List Int}{n x:Int}:x∈onceF acc n↔x∈acc∨x=n:=by
 unfold onceF
 split
 ·rename_i h
  constructor
  ·exact .inl
  ·rintro (h' | rfl)
   ·exact h'
   ·exact h
 ·simp
theorem y7o:∀ (ns acc:List Int)(x:Int),x∈ns.foldl onceF acc↔x∈acc∨x∈ns
 | [],acc,x=>by simp
 | n::ns,acc,x=>by
  rw[List.foldl_cons,y7o ns,x5t,List.mem_cons]
  constructor
  ·rintro ((h|h) | h)
   ·exact .inl h
   ·exact .inr (.inl h)
   ·exact .inr (.inr h)
  ·rintro (h|h | h)
   ·exact .inl (.inl h)
   ·exact .inl (.inr h)
   ·exact .inr h
theorem mem_once {ns:List Int}{x:Int}:x∈once ns↔x∈ns:=by
 unfold once;rw[y7o];simp
theorem x4v (acc:List Int)(n:Int):(onceF acc n).length<=acc.length+1:=by
 unfold onceF;split<;>simp
theorem y7v:∀ (ns acc:List Int),(ns.foldl onceF acc).length<=acc.length+ns.length
 | [],acc=>by simp
 | n::ns,acc=>by
  rw[List.foldl_cons,List.length_cons]
  have h1:=y7v ns (onceF acc n)
  have h2:=x4v acc n
  omega
theorem z8l (ns:List Int):(once ns).length<=ns.length:=by
 have:=y7v ns []
 simpa[once] using this
def z2c (ns ts:List Int):List Int:=(once ns).filter fun n=>!decide (-n∈ts)
def z2b (ns ts:List Int):Bool:=ns.any fun n=>decide (n∈ts)
theorem y9c {acc:List Int}{n:Int}(h:acc.Nodup):(onceF acc n).Nodup:=by
 unfold onceF
 split
 ·exact h
 ·rename_i hn
  exact List.nodup_append.mpr ⟨h,by simp,fun a ha b hb=>by
   have:b=n:=by simpa using hb
   intro e
   exact hn (by rw[←this,←e];exact ha)⟩
theorem y3a:∀ (ns acc:List Int),acc.Nodup->(ns.foldl onceF acc).Nodup
 | [],_,h=>h
 | n::ns,acc,h=>by rw[List.foldl_cons];exact y3a ns _ (y9c h)
theorem y0h (ns:List Int):(once ns).Nodup:=y3a ns [] List.nodup_nil
theorem y6v (ns ts:List Int):(z2c ns ts).Nodup:=(y0h ns).sublist List.filter_sublist
theorem z7j:∀ {l:List Int}{a:Int},l.Nodup->a∈l->(l.filter fun x=>!decide (x=a)).length+1=l.length
 | [],_,_,h=>by simp at h
 | b::l,a,nd,h=>by
  obtain⟨h1,h2⟩:=List.nodup_cons.mp nd
  by_cases e:b=a
  ·subst e
   have:(l.filter fun x=>!decide (x=b))=l:=List.filter_eq_self.mpr fun x hx=>by
    have:x≠b:=fun z=>h1 (z▸hx)
    simp[this]
   rw[List.filter_cons,if_neg (by simp),this,List.length_cons]
  ·have hm:a∈l:=by
    rcases List.mem_cons.mp h with z|z
    ·exact absurd z.symm e
    ·exact z
   rw[List.filter_cons,if_pos (by simp[e]),List.length_cons,List.length_cons,z7j h2 hm]
def cnt (w T:List Int):Option Nat:=if z2b w T=true then none else some (z2c w T).length
theorem y2t (w T:List Int)(x:Int):z2b w (T++[x])=(z2b w T||decide (x∈w)):=by
 unfold z2b
 rw[Bool.eq_iff_iff,List.any_eq_true]
 simp only[Bool.or_eq_true,List.any_eq_true,decide_eq_true_eq,List.mem_append,List.mem_singleton]
 constructor
 ·rintro⟨n,hn,h|h⟩
  ·exact .inl ⟨n,hn,h⟩
  ·exact .inr (h▸hn)
 ·rintro (⟨n,hn,h⟩|h)
  ·exact⟨n,hn,.inl h⟩
  ·exact⟨x,h,.inr rfl⟩
theorem y9b (w T:List Int)(x:Int):z2c w (T++[x])=(z2c w T).filter fun n=>!decide (n=-x):=by
 unfold z2c
 rw[List.filter_filter]
 refine List.filter_congr fun n _=>?_
 have e:decide (-n∈T++[x])=(decide (-n∈T)||decide (n=-x)):=by
  rw[Bool.eq_iff_iff]
  simp only[decide_eq_true_eq,Bool.or_eq_true,List.mem_append,List.mem_singleton]
  constructor
  ·rintro (h|h)
   ·exact .inl h
   ·exact .inr (by omega)
  ·rintro (h|h)
   ·exact .inl h
   ·exact .inr (by omega)
 rw[e,Bool.not_or,Bool.and_comm]
def z0s (W:List (List Int))(T:List Int):Option Nat:=W.findIdx? fun w=>decide (cnt w T=some 0)
def oneAt (W:List (List Int))(T:List Int):Option Nat:=W.findIdx? fun w=>decide (cnt w T=some 1)
def z1y (W:List (List Int))(T:List Int):Option (Int×Nat) :=
 match z0s W T with
 | some _=>none
 | none=>match oneAt W T with
  | none=>none
  | some i=>some ((z2c (W.getD i []) T).headD 0,i)
inductive Run (W:List (List Int)):List Int->List (Int×Nat)->Prop where
 | stop {T:List Int} (h:z1y W T=none):Run W T []
 | step {T:List Int} {x:Int} {i:Nat} {r:List (Int×Nat)} (h:z1y W T=some (x,i)) (hr:Run W (T++[x]) r):Run W T ((x,i)::r)
theorem z8n {W:List (List Int)}{T:List Int}{x:Int}{i:Nat}(h:z1y W T=some (x,i)) :
 z0s W T=none/\oneAt W T=some i/\∃ w,W[i]?=some w/\z2b w T=false/\z2c w T=[x]/\x∈w/\¬ x∈T/\¬ -x∈T:=by
 unfold z1y at h
 cases hb:z0s W T with
 | some j=>rw[hb]at h;cases h
 | none =>
  rw[hb]at h
  cases ho:oneAt W T with
  | none=>rw[ho]at h;cases h
  | some j =>
   rw[ho]at h
   have h':((z2c (W.getD j []) T).headD 0,j)=(x,i):=Option.some.inj h
   have e2:j=i:=congrArg (·.2) h'
   subst e2
   have e1:(z2c (W.getD j []) T).headD 0=x:=congrArg (·.1) h'
   refine⟨rfl,rfl,?_⟩
   unfold oneAt at ho
   obtain⟨hj,hc,_⟩:=List.findIdx?_eq_some_iff_getElem.mp ho
   have hw:W[j]?=some W[j]:=by simp[hj]
   have hg:W.getD j []=W[j]:=by simp[hj]
   rw[hg]at e1
   have hc':cnt W[j] T=some 1:=of_decide_eq_true hc
   unfold cnt at hc'
   by_cases hk:z2b W[j] T=true
   ·rw[if_pos hk]at hc';cases hc'
   ·rw[if_neg hk]at hc'
    have hl:(z2c W[j] T).length=1:=Option.some.inj hc'
    have hk':z2b W[j] T=false:=by simpa using hk
    obtain⟨y,hy⟩:=List.length_eq_one_iff.mp hl
    have:y=x:=by rw[hy]at e1;exact e1
    subst this
    have hm:y∈z2c W[j] T:=by rw[hy];exact List.mem_singleton.mpr rfl
    obtain⟨m1,m2⟩:=List.mem_filter.mp hm
    have hyw:=mem_once.mp m1
    refine⟨_,hw,hk',hy,hyw,fun z=>?_,fun z=>?_⟩
    ·unfold z2b at hk'
     rw[List.any_eq_false]at hk'
     exact hk' y hyw (decide_eq_true z)
    ·rw[decide_eq_true z]at m2;cases m2
def live (W:List (List Int))(T:List Int):Nat:=(W.filter fun w=>!z2b w T).length
theorem w0x (W:List (List Int))(T:List Int):live W T<=W.length:=List.length_filter_le _ _
theorem y3e {α:Type}{p q:α->Bool}:∀ {l:List α}{a:α},(∀ x∈l,q x=true->p x=true)->a∈l->p a=true->q a=false->(l.filter q).length<(l.filter p).length
 | [],_,_,h,_,_=>by simp at h
 | b::l,a,hi,h,hp,hq=>by
  have hsub:(l.filter q).length<=(l.filter p).length:=by
   have:∀ l:List α,(∀ x∈l,q x=true->p x=true)->(l.filter q).length<=(l.filter p).length:=by
    intro l
    induction l with
    | nil=>intro _;simp
    | cons c r ih =>
     intro hc
     have:=ih fun x hx=>hc x (List.mem_cons_of_mem _ hx)
     rw[List.filter_cons,List.filter_cons]
     cases hqc:q c with
     | true =>
      rw[hc c List.mem_cons_self hqc]
      simp;omega
     | false =>
      cases p c<;>simp<;>omega
   exact this l fun x hx=>hi x (List.mem_cons_of_mem _ hx)
  rw[List.filter_cons,List.filter_cons]
  rcases List.mem_cons.mp h with e|e
  ·subst e
   rw[hp,hq]
   simp;omega
  ·have ih:=y3e (fun x hx=>hi x (List.mem_cons_of_mem _ hx)) e hp hq
   cases hqb:q b with
   | true=>rw[hi b List.mem_cons_self hqb];simp;omega
   | false=>cases p b<;>simp<;>omega
theorem w0w {W:List (List Int)}{T:List Int}{x:Int}{i:Nat}(h:z1y W T=some (x,i)):live W (T++[x])<live W T:=by
 obtain⟨_,_,w,hw,hk,_,hx,_⟩:=z8n h
 refine y3e (fun v _ hv=>?_) (List.mem_of_getElem? hw) (by simp[hk]) ?_
 ·rw[y2t]at hv
  cases e:z2b v T with
  | true=>rw[e]at hv;simp at hv
  | false=>rfl
 ·rw[y2t];simp[hx]
def mk (l:List Int):List (Key×V):=l.map fun n=>(Sum.inl n,V.bl true)
theorem x9v (l:List Int)(n:Int):((mk l).any fun kv=>decide (kv.1=(Sum.inl n:Key)))=decide (n∈l):=by
 rw[Bool.eq_iff_iff,List.any_eq_true]
 constructor
 ·rintro⟨kv,hm,e⟩
  obtain⟨x,hx,rfl⟩:=List.mem_map.mp hm
  have e':(Sum.inl x:Key)=Sum.inl n:=of_decide_eq_true e
  cases e'
  exact decide_eq_true hx
 ·intro h
  exact⟨(Sum.inl n,V.bl true),List.mem_map.mpr ⟨n,of_decide_eq_true h,rfl⟩,decide_eq_true rfl⟩
theorem z7o (l:List Int)(n:Int):(valV (mk l) (Sum.inl n:Key)).isSome=decide (n∈l):=by
 rw[←y1k,x9v]
theorem x0v (l:List Int)(n:Int):putK (mk l) (Sum.inl n:Key) (V.bl true)=mk (onceF l n):=by
 unfold putK
 rw[x9v]
 unfold onceF
 by_cases h:n∈l
 ·rw[if_pos (decide_eq_true h),if_pos h]
  unfold mk
  rw[List.map_map]
  refine List.map_congr_left fun x hx=>?_
  show (if (Sum.inl x:Key)=Sum.inl n then ((Sum.inl x:Key),V.bl true) else (Sum.inl x,V.bl true))=_
  split<;>rfl
 ·rw[if_neg (by simp[h]),if_neg h]
  simp[mk]
theorem w0y (l:List Int):((mk l).map fun p=>kV p.1)=l.map V.int:=by
 unfold mk;rw[List.map_map];rfl
theorem x1i (l:List Int):(mk l).length=l.length:=by simp[mk]
def y1m (K:W.Frag):Sp:=fun vs H Q _=>∃ (a:Addr) (ns:List Int),vs=[.ref a]/\SqL K H a (ns.map V.int)/\ns.length<=100000/\∀ p H',H p=none->Same H H'->H' p=some (.dK (mk (once ns)))->Q (.ref p) H'
section
variable {P:Program}{w:World}{K:W.Frag}{mg:Str->Option Value}{base:Heap}
theorem x4y (Df:Def K mg "marked" z6d z6m):Cal P w K mg base 1 "marked" z6m (y1m K):=by
 refine Df.cal sc_marked (fun vs H Q E h=>?_) (fun f cdv A outer s H vs Q E hr h=>?_)
 ·obtain⟨a,ns,rfl,_⟩:=h;rfl
 ·obtain⟨a,ns,rfl,hS,hz,q⟩:=h
  have hu:=hu_of hr
  refine⟨_,(z0b (z0t (i:=1) sc_marked.nd rfl (Or.inl rfl) z9p)
 (z0b (z3a PassesOwn.never rfl (z1d (pv 0)) (z1c (i:=2) sc_marked.nd rfl (Or.inl rfl))
 (z0e (y5a hu (pv 1) (pv 2) pe_bl rfl)))
 (z0e (z0p (pv 1))))),?_⟩
  intro p hp
  refine⟨_,rfl,a,rfl,⟨_,((smR H).upd hp).seq hS⟩,z2z (K:=K) (a:=a) (xs:=ns.map V.int) (fun i σ H2=>∃ v,σ=[some (.ref a),some (.ref p),v]/\Same H H2/\H2 p=some (.dK (mk (once (ns.take i)))))
   ⟨none,rfl,(smR H).upd hp,z0c⟩ (fun i σ H2 _ ⟨_,_,e,_⟩=>e.seq hS) ?_ ?_⟩
  ·rintro i y σ H2 hi ⟨v,rfl,sm,h2⟩
   obtain⟨n,hni,rfl⟩:=getV hi
   refine⟨_,rfl,_,rfl,p,_,rfl,DPut.k (k:=Sum.inl n) h2 (z2r ?_),?_⟩
   ·have h1:=z8l (ns.take i)
    have h3:(ns.take i).length<=ns.length:=by simp;omega
    rw[x1i];omega
   ·refine⟨_,rfl,sm.upd hp,?_⟩
    rw[z0c,x0v,List.take_add_one,hni,Option.toList_some,y6w]
  ·rintro σ H2 ⟨v,rfl,sm,h2⟩
   refine⟨_,rfl,q p H2 hp sm ?_⟩
   rw[h2];simp
end
def x0n (K:W.Frag):Sp:=fun vs H Q _=>∃ (a:Addr) (ns:List Int),vs=[.ref a]/\SqL K H a (ns.map V.int)/\ns.length<=100000/\∀ l H',H l=none->Same H H'->H' l=some (.lst ((once ns).map V.int))->Q (.ref l) H'
def x3w (K:W.Frag):Sp:=fun vs H Q _=>∃ (a p:Addr) (ns ts:List Int),vs=[.ref a,.ref p]/\SqL K H a (ns.map V.int)/\H p=some (.dK (mk ts))/\ns.length<=100000/\(z2b ns ts=true->Q .non H) /\
 (z2b ns ts=false->∀ l H',H l=none->Same H H'->H' l=some (.lst ((z2c ns ts).map V.int))->Q (.ref l) H')
section
variable {P:Program}{w:World}{K:W.Frag}{mg:Str->Option Value}{base:Heap}
theorem y7e (B:Blt mg)(c_marked:Cal P w K mg base 1 "marked" z6m (y1m K))(Df:Def K mg "each_once" z3l z3p):Cal P w K mg base 2 "each_once" z3p (x0n K):=by
 refine Df.cal y6n (fun vs H Q E h=>?_) (fun f cdv A outer s H vs Q E hr h=>?_)
 ·obtain⟨a,ns,rfl,_⟩:=h;rfl
 ·obtain⟨a,ns,rfl,hS,hz,q⟩:=h
  refine⟨_,(z0e (z0p (z4n (x3l rfl) (by rfl) B.list_ z3y (z0a (z0v c_marked hr (by decide) (z0a (pv 0) z0d)) z0d)))),?_⟩
  refine⟨_,rfl,a,ns,rfl,hS,hz,fun p H1 hp sm h1=>⟨p,_,rfl,.inl h1,fun l hl=>q l _ (sm.free hl) (sm.upd (sm.free hl)) ?_⟩⟩
  rw[z0c,w0y]
theorem y6y (B:Blt mg)(c_each_once:Cal P w K mg base 2 "each_once" z3p (x0n K))(Df:Def K mg "left_open" z3e z4b):Cal P w K mg base 3 "left_open" z4b (x3w K):=by
 refine Df.cal sc_left_open (fun vs H Q E h=>?_) (fun f cdv A outer s H vs Q E hr h=>?_)
 ·obtain⟨a,p,ns,ts,rfl,_⟩:=h;rfl
 ·obtain⟨a,p,ns,ts,rfl,hS,hp,hz,q1,q2⟩:=h
  have hu:=hu_of hr
  refine⟨_,(z0b (z3a PassesOwn.never rfl (z1d (pv 0)) (z1c (i:=2) sc_left_open.nd rfl (Or.inl rfl))
 (z0e (ps_if (z9m (x1b hu (pv 2) (pv 1)))
 (z0e (z0p z3d))
 z0o)))
 (z0e (z0p (z4p (fvn:=["taken"]) (js:=[1]) rfl (z1d (z0v c_each_once hr (by decide) (z0a (pv 0) z0d))) (.cons rfl (by first | exact .inl rfl | exact .inr rfl) rfl .nil) ⟨by decide +kernel,rfl,by decide +kernel,rfl,by decide +kernel,by decide +kernel⟩ (fun _ _ _ _ _=>(z5j (z9m (z6t hu (pe_un z1z (pv 0)) (pv 1))))) (fun _ _ _ _ _=>(pv 0)))))),?_⟩
  refine⟨_,rfl,a,rfl,⟨_,hS⟩,z2z (K:=K) (a:=a) (xs:=ns.map V.int) (fun i σ H2=>∃ v,σ=[some (.ref a),some (.ref p),v]/\H2=H/\∀ n∈ns.take i,¬ n∈ts)
   ⟨none,rfl,rfl,by simp⟩ (fun i σ H2 _ ⟨_,_,e,_⟩=>by rw[e];exact hS) ?_ ?_⟩
  ·rintro i y σ H2 hi ⟨v,rfl,rfl,hno⟩
   obtain⟨n,hni,rfl⟩:=getV hi
   refine⟨_,rfl,_,rfl,p,_,rfl,DGet.k (k:=Sum.inl n) hp,_,rfl,?_⟩
   rw[z7o]
   refine ite2 (fun c=>?_) (fun c=>?_)
   ·refine q1 ?_
    exact List.any_eq_true.mpr ⟨n,List.mem_of_getElem? hni,c⟩
   ·refine⟨_,rfl,rfl,fun m hm=>?_⟩
    rw[List.take_add_one,hni]at hm
    rcases mApp hm with z|z
    ·exact hno m z
    ·have:m=n:=by simpa using z
     rw[this];exact fun z=>c (decide_eq_true z)
  ·rintro σ H2 ⟨v,rfl,rfl,hno⟩
   have hk:z2b ns ts=false:=by
    unfold z2b
    rw[List.any_eq_false]
    intro n hm z
    exact hno n (by simpa using hm) (of_decide_eq_true z)
   refine⟨_,rfl,a,ns,rfl,hS,hz,fun l H1 hl sm h1=>⟨l,rfl,⟨_,qLo h1⟩,?_⟩⟩
   have hp1:=sm _ _ hp
   refine z3q (xs:=once ns) (g:=V.int) (fun n=>!decide (-n∈ts)) V.int (z1m (by have:=z8l ns;omega)) (qLo h1) (fun x _ R hR=>?_) (fun x _ _ R hR=>⟨_,rfl,hR⟩) (fun l2 hl2=>?_)
   ·refine⟨_,rfl,x,rfl,_,rfl,p,_,rfl,DGet.k (k:=Sum.inl (-x)) hp1,_,rfl,?_⟩
    rw[z7o];exact hR
   ·exact q2 hk l2 _ (sm.free hl2) (sm.upd (sm.free hl2)) z0c
end
def wv:Option Int->V
 | none=>.non
 | some j=>.int j
def wd:Option Int->D
 | none=>.non
 | some j=>.int j
abbrev Pr:=Addr×Int×Option Int
def refs (qs:List Pr):List V:=qs.map fun q=>V.ref q.1
def TrOk (H:Hp)(qs:List Pr):Prop:=∀ q∈qs,H q.1=some (.tup [.int q.2.1,wv q.2.2])
def lets (qs:List Pr):List Int:=qs.map fun q=>q.2.1
theorem TrOk.mono {H H':Hp}{qs:List Pr}(h:TrOk H qs)(e:Same H H'):TrOk H' qs:=fun q hq=>e _ _ (h q hq)
theorem TrOk.snoc {H:Hp}{qs:List Pr}{q:Pr}(h:TrOk H qs)(hq:H q.1=some (.tup [.int q.2.1,wv q.2.2])):TrOk H (qs++[q]):=fun x hx=>by
 rcases mApp hx with z|z
 ·exact h x z
 ·have:x=q:=by simpa using z
  rw[this];exact hq
theorem z5l (qs:List Pr):(refs qs).length=qs.length:=by simp[refs]
abbrev Wr:=Addr×List Int
def wrefs (ws:List Wr):List V:=ws.map fun p=>V.ref p.1
def WsOk (H:Hp)(ws:List Wr):Prop:=∀ p∈ws,H p.1=some (.lst (p.2.map V.int))
def wl (ws:List Wr):List (List Int):=ws.map fun p=>p.2
def wsD (ws:List Wr):List D:=ws.map fun p=>D.lst (dInts p.2)
theorem WsOk.mono {H H':Hp}{ws:List Wr}(h:WsOk H ws)(e:Same H H'):WsOk H' ws:=fun q hq=>e _ _ (h q hq)
theorem z0w (ws:List Wr):(wrefs ws).length=ws.length:=by simp[wrefs]
theorem z1h (ws:List Wr):(wl ws).length=ws.length:=by simp[wl]
theorem x8z {H:Hp}:∀ {ws:List Wr},WsOk H ws->AtL H (wsD ws) (wrefs ws)
 | [],_=>AtL.nil
 | q::ws,h=>AtL.cons (At.ofInts (h q List.mem_cons_self)) (x8z fun x hx=>h x (List.mem_cons_of_mem _ hx))
theorem ws_at {H:Hp}{ws:List Wr}{a:Addr}(h:WsOk H ws)(ha:H a=some (.lst (wrefs ws))):At H (.lst (wsD ws)) (.ref a):=by
 unfold At
 exact⟨a,_,rfl,ha,x8z h⟩
theorem x0g {ws:List Wr}{i:Nat}{y:V}(h:(wrefs ws)[i]?=some y):∃ q,ws[i]?=some q/\y=.ref q.1:=by
 obtain⟨q,h1,h2⟩:=getV (f:=fun p:Wr=>V.ref p.1) h
 exact⟨q,h1,h2⟩
def cV:Option Nat->V
 | none=>.non
 | some n=>.int n
def idxs (W:List (List Int))(n:Int):List Nat:=(List.range W.length).filter fun i=>decide (n∈W.getD i [])
abbrev Mp:=Int×Addr×List Nat
def mkvs (M:List Mp):List (Key×V):=M.map fun m=>((Sum.inl m.1:Key),V.ref m.2.1)
def iv (l:List Nat):List V:=l.map fun (i:Nat)=>V.int i
def lookM (M:List Mp)(n:Int):Option Mp:=M.find? fun m=>decide (m.1=n)
def ilook (M:List Mp)(n:Int):List Nat:=match lookM M n with
 | some m=>m.2.2
 | none=>[]
structure MIs (H:Hp)(M:List Mp):Prop where
 ok:∀ m∈M,H m.2.1=some (.lst (iv m.2.2))
 kn:(M.map (·.1)).Nodup
 an:(M.map (·.2.1)).Nodup
theorem z9j (n:Int):∀ M:List Mp,valV (mkvs M) (Sum.inl n:Key)=(lookM M n).map fun m=>V.ref m.2.1
 | []=>rfl
 | m::M=>by
  show valV (((Sum.inl m.1:Key),V.ref m.2.1)::mkvs M) (Sum.inl n:Key)=_
  unfold lookM
  by_cases e:m.1=n
  ·rw[y1i (by rw[e]),List.find?_cons];simp[e]
  ·rw[y1j (fun z=>e (Sum.inl.inj z)),List.find?_cons,z9j n M];simp[e,lookM]
theorem z4u {M:List Mp}{n:Int}{m:Mp}(h:lookM M n=some m):m∈M/\m.1=n:=by
 unfold lookM at h
 exact⟨List.mem_of_find?_eq_some h,by have:=List.find?_some h;simpa using this⟩
theorem w0z {M:List Mp}(kn:(M.map (·.1)).Nodup){m m':Mp}(h:m∈M)(h':m'∈M)(e:m.1=m'.1):m=m':=by
 induction M with
 | nil=>simp at h
 | cons a M ih =>
  rw[List.map_cons,List.nodup_cons]at kn
  rcases List.mem_cons.mp h with z|z<;>rcases List.mem_cons.mp h' with y|y
  ·rw[z,y]
  ·exact absurd (List.mem_map.mpr ⟨m',y,by rw[←e,z]⟩) kn.1
  ·exact absurd (List.mem_map.mpr ⟨m,z,by rw[e,y]⟩) kn.1
  ·exact ih kn.2 z y
theorem w1m {M:List Mp}(an:(M.map (·.2.1)).Nodup){m m':Mp}(h:m∈M)(h':m'∈M)(e:m.2.1=m'.2.1):m=m':=by
 induction M with
 | nil=>simp at h
 | cons a M ih =>
  rw[List.map_cons,List.nodup_cons]at an
  rcases List.mem_cons.mp h with z|z<;>rcases List.mem_cons.mp h' with y|y
  ·rw[z,y]
  ·exact absurd (List.mem_map.mpr ⟨m',y,by rw[←e,z]⟩) an.1
  ·exact absurd (List.mem_map.mpr ⟨m,z,by rw[e,y]⟩) an.1
  ·exact ih an.2 z y
def addM (M:List Mp)(n:Int)(i:Nat):List Mp:=M.map fun m=>if m.1=n then (m.1,m.2.1,m.2.2++[i]) else m
theorem x8x (M:List Mp)(n:Int)(i:Nat):mkvs (addM M n i)=mkvs M:=by
 unfold mkvs addM
 rw[List.map_map]
 refine List.map_congr_left fun m _=>?_
 by_cases e:m.1=n<;>simp[e]
theorem x7j (M:List Mp)(n:Int)(i:Nat)(x:Int):lookM (addM M n i) x=(lookM M x).map fun m=>if m.1=n then (m.1,m.2.1,m.2.2++[i]) else m:=by
 unfold lookM addM
 induction M with
 | nil=>rfl
 | cons m M ih =>
  rw[List.map_cons,List.find?_cons,List.find?_cons]
  have e:(if m.1=n then (m.1,m.2.1,m.2.2++[i]) else m:Mp).1=m.1:=by split<;>rfl
  rw[e]
  by_cases h:m.1=x
  ·simp[h]
  ·simp only[h,decide_false];exact ih
theorem x3m {M:List Mp}{n:Int}{i:Nat}{m:Mp}(hm:lookM M n=some m)(x:Int):ilook (addM M n i) x=if x=n then ilook M n++[i] else ilook M x:=by
 unfold ilook
 rw[x7j]
 by_cases e:x=n
 ·subst e
  rw[if_pos rfl,hm]
  have:=(z4u hm).2
  simp[this]
 ·rw[if_neg e]
  cases h:lookM M x with
  | none=>rfl
  | some m' =>
   have:=(z4u h).2
   have e':¬ m'.1=n:=fun z=>e (this▸z)
   simp[e']
theorem x2x {M:List Mp}{n:Int}{i:Nat}{p:Addr}(hm:lookM M n=none)(x:Int):ilook (M++[(n,p,[i])]) x=if x=n then ilook M n++[i] else ilook M x:=by
 unfold ilook
 have e0:lookM (M++[(n,p,[i])]) x=(lookM M x).or (if n=x then some (n,p,[i]) else none):=by
  unfold lookM
  rw[List.find?_append]
  congr 1
  by_cases h:n=x<;>simp[h]
 rw[e0]
 by_cases e:x=n
 ·subst e
  rw[hm];simp
 ·rw[if_neg e]
  have:¬ n=x:=fun z=>e z.symm
  rw[if_neg this]
  cases lookM M x<;>rfl
theorem MIs.add {H:Hp}{M:List Mp}{n:Int}{i:Nat}{m:Mp}(h:MIs H M)(hm:lookM M n=some m):MIs (upd H m.2.1 (.lst (iv m.2.2++[.int i]))) (addM M n i):=by
 obtain⟨hm1,hm2⟩:=z4u hm
 refine⟨fun m' h'=>?_,?_,?_⟩
 ·obtain⟨m0,h0,rfl⟩:=List.mem_map.mp h'
  by_cases e:m0.1=n
  ·have:m0=m:=w0z h.kn h0 hm1 (e.trans hm2.symm)
   subst this
   rw[if_pos e]
   show upd H m0.2.1 _ m0.2.1=some (.lst (iv (m0.2.2++[i])))
   rw[z0c];simp[iv]
  ·rw[if_neg e]
   have:m0.2.1≠m.2.1:=fun z=>e (by rw[w1m h.an h0 hm1 z];exact hm2)
   rw[z0h this];exact h.ok m0 h0
 ·have:(addM M n i).map (·.1)=M.map (·.1):=by
   unfold addM;rw[List.map_map]
   refine List.map_congr_left fun m _=>?_
   show (if m.1=n then _ else m:Mp).1=m.1
   split<;>rfl
  rw[this];exact h.kn
 ·have:(addM M n i).map (·.2.1)=M.map (·.2.1):=by
   unfold addM;rw[List.map_map]
   refine List.map_congr_left fun m _=>?_
   show (if m.1=n then _ else m:Mp).2.1=m.2.1
   split<;>rfl
  rw[this];exact h.an
theorem MIs.new {H H':Hp}{M:List Mp}{n:Int}{i:Nat}{p:Addr}(h:MIs H M)(hm:lookM M n=none)(hp:∀ m∈M,m.2.1≠p)(hk:∀ m∈M,H' m.2.1=H m.2.1)(hp2:H' p=some (.lst (iv [i]))):MIs H' (M++[(n,p,[i])]):=by
 refine⟨fun m h'=>?_,?_,?_⟩
 ·rcases mApp h' with z|z
  ·rw[hk m z];exact h.ok m z
  ·have:m=(n,p,[i]):=by simpa using z
   rw[this];exact hp2
 ·rw[List.map_append]
  refine List.nodup_append.mpr ⟨h.kn,by simp,fun a ha b hb e=>?_⟩
  have hb':b=n:=by simpa using hb
  obtain⟨m,hm1,hm2⟩:=List.mem_map.mp ha
  unfold lookM at hm
  have:=List.find?_eq_none.mp hm m hm1
  exact this (decide_eq_true (by rw[hm2,e,hb']))
 ·rw[List.map_append]
  refine List.nodup_append.mpr ⟨h.an,by simp,fun a ha b hb e=>?_⟩
  have hb':b=p:=by simpa using hb
  obtain⟨m,hm1,hm2⟩:=List.mem_map.mp ha
  exact hp m hm1 (by rw[hm2,e,hb'])
theorem MIs.mono {H H':Hp}{M:List Mp}(h:MIs H M)(e:∀ m∈M,H' m.2.1=H m.2.1):MIs H' M:=⟨fun m hm=>by rw[e m hm];exact h.ok m hm,h.kn,h.an⟩
theorem x6e {W:List (List Int)}{i:Nat}{w:List Int}(h:W[i]?=some w)(x:Int):idxs (W.take (i+1)) x=idxs (W.take i) x++(if x∈w then [i] else []):=by
 have hi:i<W.length:=(List.getElem?_eq_some_iff.mp h).1
 have e1:(W.take (i+1)).length=i+1:=by simp;omega
 have e2:(W.take i).length=i:=by simp;omega
 unfold idxs
 rw[e1,e2,List.range_succ,List.filter_append]
 congr 1
 ·refine List.filter_congr fun j hj=>?_
  have hj':j<i:=by simpa using hj
  have a1:(W.take (i+1)).getD j []=W.getD j []:=by rw[List.getD_eq_getElem?_getD,List.getD_eq_getElem?_getD,List.getElem?_take_of_lt (by omega)]
  have a2:(W.take i).getD j []=W.getD j []:=by rw[List.getD_eq_getElem?_getD,List.getD_eq_getElem?_getD,List.getElem?_take_of_lt (by omega)]
  rw[a1,a2]
 ·have a1:(W.take (i+1)).getD i []=w:=by rw[List.getD_eq_getElem?_getD,List.getElem?_take_of_lt (by omega),h];rfl
  rw[List.filter_cons,List.filter_nil]
  simp only[a1]
  by_cases e:x∈w<;>simp[e]
def total (W:List (List Int)):Nat:=(W.map List.length).sum
theorem x2e {W:List (List Int)}{i:Nat}{w:List Int}(h:W[i]?=some w):total (W.take (i+1))=total (W.take i)+w.length:=by
 unfold total
 rw[List.take_add_one,h];simp
theorem x7l (W:List (List Int))(i:Nat):total (W.take i)<=total W:=by
 unfold total
 have:W=W.take i++W.drop i:=(List.take_append_drop i W).symm
 rw[show (W.map List.length).sum=((W.take i++W.drop i).map List.length).sum by rw[←this],List.map_append,List.sum_append]
 omega
def Keep (c:Addr)(H H':Hp):Prop:=∀ b o,b≠c->H b=some o->H' b=some o
theorem Keep.refl (c:Addr)(H:Hp):Keep c H H:=fun _ _ _ h=>h
theorem Keep.trans {c:Addr}{H H1 H2:Hp}(a:Keep c H H1)(b:Keep c H1 H2):Keep c H H2:=fun x o n h=>b x o n (a x o n h)
theorem Keep.of {c:Addr}{H H':Hp}(s:Same H H'):Keep c H H':=fun x o _ h=>s x o h
theorem Keep.upd {c:Addr}{H H':Hp}{o:HO}(a:Keep c H H'):Keep c H (L2.upd H' c o):=fun x u n h=>by rw[z0h n];exact a x u n h
theorem x4i {α:Type}{n j:Nat}(f:Nat->α)(v:α):((List.range n).map f).set j v=(List.range n).map fun i=>if i=j then v else f i:=by
 refine List.ext_getElem (by simp) fun i h1 h2=>?_
 rw[List.getElem_set]
 simp only[List.getElem_map,List.getElem_range]
 by_cases e:j=i
 ·subst e;simp
 ·have:¬ i=j:=fun z=>e z.symm
  simp[e,this]
theorem x6c {n i:Nat}(h:i<n):ixN n (i:Int)=some i:=by
 unfold ixN
 rw[if_pos (by omega),if_pos (by omega)];simp
theorem z3w {α:Type}{l:List α}{j:Nat}{a:α}(h:l[j]?=some a)(x:α):x∈l.take (j+1)↔x∈l.take j∨x=a:=by
 rw[List.take_add_one,h];simp
theorem y0x {l:List Nat}{j:Nat}{a:Nat}(nd:l.Nodup)(h:l[j]?=some a):¬ a∈l.take j:=fun z=>by
 obtain⟨j',hj',e⟩:=List.mem_iff_getElem.mp z
 rw[List.getElem_take]at e
 have hjl:j<l.length:=(List.getElem?_eq_some_iff.mp h).1
 have hj2:j'<j:=by simp at hj';omega
 have e2:l[j]'hjl=a:=by rw[List.getElem?_eq_getElem hjl]at h;exact Option.some.inj h
 have:=(List.getElem_inj (h₀:=by omega) (h₁:=hjl) nd).mp (e.trans e2.symm)
 omega
theorem x9m {l:List Nat}{j:Nat}{y:V}(h:(iv l)[j]?=some y):∃ i,l[j]?=some i/\y=.int (i:Int):=getV h
theorem x1k {H:Hp}{M:List Mp}{pd pe:Addr}(x:Int)(hd:H pd=some (.dK (mkvs M)))(hM:MIs H M)(hpe:H pe=none) :
 ∃ o,DGet (upd H pe (.lst [])) pd (.int x) o/\∃ b:Addr,(upd H pe (.lst [])) b=some (.lst (iv (ilook M x)))/\(b=pe∨∃ m∈M,b=m.2.1)/\o.getD (.ref pe)=.ref b:=by
 have npe:pd≠pe:=z0f hd hpe
 refine⟨_,DGet.k (k:=Sum.inl x) (by rw[z0h npe];exact hd),?_⟩
 rw[z9j]
 cases hl:lookM M x with
 | none =>
  refine⟨pe,?_,.inl rfl,rfl⟩
  rw[z0c];unfold ilook;rw[hl];rfl
 | some m =>
  obtain⟨h1,h2⟩:=z4u hl
  refine⟨m.2.1,?_,.inr ⟨m,h1,rfl⟩,rfl⟩
  rw[z0h (z0f (hM.ok m h1) hpe)]
  unfold ilook;rw[hl];exact hM.ok m h1
def soN (v T:List Int):Nat:=((once v).filter fun n=>decide (n∈T)).length
def leftN (v T:List Int):Nat:=(z2c v T).length
theorem x6z {l:List Int}(nd:l.Nodup)(a:Int):(l.filter fun n=>decide (n=a)).length=if a∈l then 1 else 0:=by
 induction l with
 | nil=>rfl
 | cons b l ih =>
  have h:=List.nodup_cons.mp nd
  rw[List.filter_cons]
  by_cases e:b=a
  ·subst e
   have:(l.filter fun n=>decide (n=b))=[]:=List.filter_eq_nil_iff.mpr fun n hn=>by
    simp;intro z;subst z;exact h.1 hn
   simp[this]
  ·have e':¬ a=b:=fun z=>e z.symm
   simp[e,e',ih h.2]
theorem x0q {v T:List Int}{x:Int}(hx:¬ x∈T):soN v (T++[x])=soN v T+(if x∈v then 1 else 0):=by
 unfold soN
 have e:=x6z (y0h v) x
 have:∀ l:List Int,(l.filter fun n=>decide (n∈T++[x])).length=(l.filter fun n=>decide (n∈T)).length+(l.filter fun n=>decide (n=x)).length:=by
  intro l
  induction l with
  | nil=>rfl
  | cons b l ih =>
   rw[List.filter_cons,List.filter_cons,List.filter_cons]
   by_cases h1:b∈T
   ·have h2:b≠x:=fun z=>hx (z▸h1)
    simp[h1,h2]at ih ⊢;omega
   ·by_cases h2:b=x
    ·simp[h1,h2,hx]at ih ⊢;omega
    ·simp[h1,h2]at ih ⊢;omega
 rw[this,e]
 congr 1
 by_cases h:x∈v
 ·rw[if_pos h,if_pos (mem_once.mpr h)]
 ·rw[if_neg h,if_neg (fun z=>h (mem_once.mp z))]
theorem y4a {v T:List Int}{x:Int}(hx:¬ x∈T):leftN v (T++[x])+(if -x∈v then 1 else 0)=leftN v T:=by
 unfold leftN
 rw[y9b]
 by_cases h:-x∈v
 ·rw[if_pos h]
  have hm:-x∈z2c v T:=List.mem_filter.mpr ⟨mem_once.mpr h,by simp[hx]⟩
  exact z7j (y6v v T) hm
 ·rw[if_neg h]
  have:(z2c v T).filter (fun n=>!decide (n=-x))=z2c v T:=List.filter_eq_self.mpr fun n hn=>by
   have:n≠-x:=fun e=>h (e▸mem_once.mp (List.mem_filter.mp hn).1)
   simp[this]
  rw[this];rfl
theorem kept_soN {v T:List Int}:z2b v T=true↔soN v T≠0:=by
 unfold z2b soN
 rw[List.any_eq_true]
 constructor
 ·rintro⟨n,hn,e⟩
  have:n∈(once v).filter fun n=>decide (n∈T):=List.mem_filter.mpr ⟨mem_once.mpr hn,e⟩
  intro z
  rw[List.length_eq_zero_iff.mp z]at this
  cases this
 ·intro h
  obtain⟨n,hn⟩:=List.exists_mem_of_length_pos (Nat.pos_of_ne_zero h)
  obtain⟨a,b⟩:=List.mem_filter.mp hn
  exact⟨n,mem_once.mp a,b⟩
theorem y8e (v T:List Int):cnt v T=if soN v T=0 then some (leftN v T) else none:=by
 unfold cnt
 by_cases h:soN v T=0
 ·have:¬ z2b v T=true:=fun z=>kept_soN.mp z h
  rw[if_neg this,if_pos h];rfl
 ·rw[if_pos (kept_soN.mpr h),if_neg h]
structure FG (so left F G:List Int):Prop where
 fn:F.Nodup
 gn:G.Nodup
 f:∀ j,j∈F↔∃ i:Nat,j=(i:Int)/\so[i]?=some 0/\left[i]?=some 0
 g:∀ j,j∈G↔∃ i:Nat,j=(i:Int)/\so[i]?=some 0/\left[i]?=some 1
theorem FG.sort {so left so' left' F G F' G':List Int}{i:Nat}(h:FG so left F G)(hs:∀ k,k≠i->so'[k]?=so[k]?)(hl:∀ k,k≠i->left'[k]?=left[k]?)(fn:F'.Nodup)(gn:G'.Nodup)
 (hF:∀ j,j∈F'↔(j∈F/\j≠(i:Int))∨(j=(i:Int)/\so'[i]?=some 0/\left'[i]?=some 0)) (hG:∀ j,j∈G'↔(j∈G/\j≠(i:Int))∨(j=(i:Int)/\so'[i]?=some 0/\left'[i]?=some 1)):FG so' left' F' G':=by
 refine⟨fn,gn,fun j=>?_,fun j=>?_⟩
 ·rw[hF]
  constructor
  ·rintro (⟨a,b⟩|⟨a,b,c⟩)
   ·obtain⟨k,e,p,q⟩:=(h.f j).mp a
    have hk:k≠i:=fun z=>b (by rw[e,z])
    exact⟨k,e,by rw[hs k hk];exact p,by rw[hl k hk];exact q⟩
   ·exact⟨i,a,b,c⟩
  ·rintro⟨k,e,p,q⟩
   by_cases hk:k=i
   ·subst hk;exact .inr ⟨e,p,q⟩
   ·exact .inl ⟨(h.f j).mpr ⟨k,e,by rw[←hs k hk];exact p,by rw[←hl k hk];exact q⟩,fun z=>hk (by omega)⟩
 ·rw[hG]
  constructor
  ·rintro (⟨a,b⟩|⟨a,b,c⟩)
   ·obtain⟨k,e,p,q⟩:=(h.g j).mp a
    have hk:k≠i:=fun z=>b (by rw[e,z])
    exact⟨k,e,by rw[hs k hk];exact p,by rw[hl k hk];exact q⟩
   ·exact⟨i,a,b,c⟩
  ·rintro⟨k,e,p,q⟩
   by_cases hk:k=i
   ·subst hk;exact .inr ⟨e,p,q⟩
   ·exact .inl ⟨(h.g j).mpr ⟨k,e,by rw[←hs k hk];exact p,by rw[←hl k hk];exact q⟩,fun z=>hk (by omega)⟩
theorem FG.skip {so left so' left' F G:List Int}{i:Nat}(h:FG so left F G)(hs:∀ k,k≠i->so'[k]?=so[k]?)(hl:∀ k,k≠i->left'[k]?=left[k]?)(h1:∀ z,left[i]?=some z->1<z)(h2:∀ z,left'[i]?=some z->1<z):FG so' left' F G:=by
 have key:∀ (c j:Int),(c=0∨c=1)->((∃ k:Nat,j=(k:Int)/\so[k]?=some 0/\left[k]?=some c)↔∃ k:Nat,j=(k:Int)/\so'[k]?=some 0/\left'[k]?=some c):=by
  intro c j hc
  constructor
  ·rintro⟨k,e,p,q⟩
   have hk:k≠i:=fun z=>by have:=h1 c (z▸q);omega
   exact⟨k,e,by rw[hs k hk];exact p,by rw[hl k hk];exact q⟩
  ·rintro⟨k,e,p,q⟩
   have hk:k≠i:=fun z=>by have:=h2 c (z▸q);omega
   exact⟨k,e,by rw[←hs k hk];exact p,by rw[←hl k hk];exact q⟩
 exact⟨h.fn,h.gn,fun j=>(h.f j).trans (key 0 j (.inl rfl)),fun j=>(h.g j).trans (key 1 j (.inr rfl))⟩
structure Tly where
 aw:Addr
 at_:Addr
 ad:Addr
 ap:Addr
 aso:Addr
 al:Addr
 af:Addr
 ao:Addr
 ws:List Wr
 qs:List Pr
 T:List Int
 M:List Mp
 so:List Int
 left:List Int
 F:List Int
 G:List Int
def flds (x:Tly):List (Str×V):=putF "forcing" (.ref x.ao) (putF "failing" (.ref x.af) (putF "left" (.ref x.al) (putF "so" (.ref x.aso) (putF "places" (.ref x.ap) (putF "taken" (.ref x.ad) (putF "trail" (.ref x.at_) (putF "wishes" (.ref x.aw) [])))))))
theorem z9u (x:Tly):(flds x).lookup ("wishes" : Str)=some (.ref x.aw):=by
 unfold flds
 rw[z0j,if_neg (by decide +kernel),z0j,if_neg (by decide +kernel),z0j,if_neg (by decide +kernel),z0j,if_neg (by decide +kernel),z0j,if_neg (by decide +kernel),z0j,if_neg (by decide +kernel),z0j,if_neg (by decide +kernel),z0j,if_pos rfl]
theorem z8q (x:Tly):(flds x).lookup ("trail" : Str)=some (.ref x.at_):=by
 unfold flds
 rw[z0j,if_neg (by decide +kernel),z0j,if_neg (by decide +kernel),z0j,if_neg (by decide +kernel),z0j,if_neg (by decide +kernel),z0j,if_neg (by decide +kernel),z0j,if_neg (by decide +kernel),z0j,if_pos rfl]
theorem z5n (x:Tly):(flds x).lookup ("taken" : Str)=some (.ref x.ad):=by
 unfold flds
 rw[z0j,if_neg (by decide +kernel),z0j,if_neg (by decide +kernel),z0j,if_neg (by decide +kernel),z0j,if_neg (by decide +kernel),z0j,if_neg (by decide +kernel),z0j,if_pos rfl]
theorem y3b (x:Tly):(flds x).lookup ("places" : Str)=some (.ref x.ap):=by
 unfold flds
 rw[z0j,if_neg (by decide +kernel),z0j,if_neg (by decide +kernel),z0j,if_neg (by decide +kernel),z0j,if_neg (by decide +kernel),z0j,if_pos rfl]
theorem fl_so (x:Tly):(flds x).lookup ("so" : Str)=some (.ref x.aso):=by
 unfold flds
 rw[z0j,if_neg (by decide +kernel),z0j,if_neg (by decide +kernel),z0j,if_neg (by decide +kernel),z0j,if_pos rfl]
theorem y0j (x:Tly):(flds x).lookup ("left" : Str)=some (.ref x.al):=by
 unfold flds
 rw[z0j,if_neg (by decide +kernel),z0j,if_neg (by decide +kernel),z0j,if_pos rfl]
theorem z8s (x:Tly):(flds x).lookup ("failing" : Str)=some (.ref x.af):=by
 unfold flds
 rw[z0j,if_neg (by decide +kernel),z0j,if_pos rfl]
theorem z8r (x:Tly):(flds x).lookup ("forcing" : Str)=some (.ref x.ao):=by
 unfold flds
 rw[z0j,if_pos rfl]
theorem fl_no (x:Tly){m:Str}(h1:¬ m="forcing")(h2:¬ m="failing")(h3:¬ m="left")(h4:¬ m="so")(h5:¬ m="places")(h6:¬ m="taken")(h7:¬ m="trail")(h8:¬ m="wishes"):(flds x).lookup m=none:=by
 unfold flds
 rw[z0j,if_neg h1,z0j,if_neg h2,z0j,if_neg h3,z0j,if_neg h4,z0j,if_neg h5,z0j,if_neg h6,z0j,if_neg h7,z0j,if_neg h8]
 rfl
theorem fl_nx (x:Tly){m:Str}(h:¬ m="forcing"/\¬ m="failing"/\¬ m="left"/\¬ m="so"/\¬ m="places"/\¬ m="taken"/\¬ m="trail"/\¬ m="wishes"):(flds x).lookup m=none:=fl_no x h.1 h.2.1 h.2.2.1 h.2.2.2.1 h.2.2.2.2.1 h.2.2.2.2.2.1 h.2.2.2.2.2.2.1 h.2.2.2.2.2.2.2
structure TyAt (C:Addr)(H:Hp)(p:Addr)(x:Tly):Prop where
 ob:∃ dx,H p=some (.ins C dx (flds x))
 hw:H x.aw=some (.lst (wrefs x.ws))
 ht:H x.at_=some (.lst (refs x.qs))
 hd:H x.ad=some (.dK (mk x.T))
 hp:H x.ap=some (.dK (mkvs x.M))
 hM:MIs H x.M
 hs:H x.aso=some (.lst (x.so.map V.int))
 hl:H x.al=some (.lst (x.left.map V.int))
 hf:H x.af=some (.dK (mk x.F))
 hg:H x.ao=some (.dK (mk x.G))
 wo:WsOk H x.ws
 to:TrOk H x.qs
 nl:x.aw≠x.at_/\x.aw≠x.aso/\x.aw≠x.al/\x.at_≠x.aso/\x.at_≠x.al/\x.aso≠x.al
 nd:x.ad≠x.ap/\x.ad≠x.af/\x.ad≠x.ao/\x.ap≠x.af/\x.ap≠x.ao/\x.af≠x.ao
 nm:∀ m∈x.M,m.2.1≠x.aw/\m.2.1≠x.at_/\m.2.1≠x.aso/\m.2.1≠x.al
 nw:∀ r∈x.ws,r.1≠x.aw/\r.1≠x.at_/\r.1≠x.aso/\r.1≠x.al/\∀ m∈x.M,r.1≠m.2.1
def foot (p:Addr)(x:Tly)(b:Addr):Prop:=b=p∨b=x.aw∨b=x.at_∨b=x.ad∨b=x.ap∨b=x.aso∨b=x.al∨b=x.af∨b=x.ao∨∃ m∈x.M,b=m.2.1
structure Fr (p:Addr)(x x':Tly)(H H':Hp):Prop where
 out:∀ b o,H b=some o->¬ foot p x b->H' b=some o
 inn:∀ b,foot p x' b->foot p x b∨H b=none
theorem Fr.refl (p:Addr)(x:Tly)(H:Hp):Fr p x x H H:=⟨fun _ _ h _=>h,fun _ h=>.inl h⟩
theorem Fr.trans {p:Addr}{x y z:Tly}{H H1 H2:Hp}(a:Fr p x y H H1)(b:Fr p y z H1 H2):Fr p x z H H2:=by
 have step:∀ c,H1 c=none->foot p x c∨H c=none:=fun c h=>by
  cases e:H c with
  | none=>exact .inr rfl
  | some o =>
   by_cases hf:foot p x c
   ·exact .inl hf
   ·rw[a.out c o e hf]at h;cases h
 refine⟨fun c o h hf=>b.out c o (a.out c o h hf) fun hy=>?_,fun c hz=>?_⟩
 ·rcases a.inn c hy with z|z
  ·exact hf z
  ·rw[h]at z;cases z
 ·rcases b.inn c hz with hy|h
  ·exact a.inn c hy
  ·exact step c h
theorem Fr.same {p:Addr}{x:Tly}{H H':Hp}(s:Same H H'):Fr p x x H H':=⟨fun b o h _=>s b o h,fun _ h=>.inl h⟩
theorem TyAt.same {C:Addr}{H H':Hp}{p:Addr}{x:Tly}(h:TyAt C H p x)(s:Same H H'):TyAt C H' p x :=
 ⟨let ⟨dx,e⟩:=h.ob;⟨dx,s _ _ e⟩,s _ _ h.hw,s _ _ h.ht,s _ _ h.hd,s _ _ h.hp,h.hM.mono fun m hm=>by rw[s _ _ (h.hM.ok m hm),h.hM.ok m hm],s _ _ h.hs,s _ _ h.hl,s _ _ h.hf,s _ _ h.hg,h.wo.mono s,h.to.mono s,h.nl,h.nd,h.nm,h.nw⟩
theorem z5z {p:Addr}{x x':Tly}{H:Hp}{z:Addr}{o:HO}(hz:foot p x z)(hi:∀ b,foot p x' b->foot p x b∨H b=none):Fr p x x' H (upd H z o) :=
 ⟨fun b u h hf=>by rw[z0h (fun e=>hf (by rw[e];exact hz))];exact h,hi⟩
section
variable {C:Addr}{H:Hp}{p:Addr}{x:Tly}(h:TyAt C H p x)
include h
theorem TyAt.p_ne {z:Addr}{o:HO}(hz:H z=some o)(hk:∀ C dx fs,o≠.ins C dx fs):p≠z:=by
 obtain⟨dx,e⟩:=h.ob
 exact ne_of e hz (fun q=>hk _ _ _ q.symm)
theorem TyAt.t_ne {z:Addr}{o:HO}(hz:H z=some o)(hk:∀ vs,o≠.tup vs):∀ q∈x.qs,q.1≠z:=fun q hq=>ne_of (h.to q hq) hz (fun e=>hk _ e.symm)
theorem TyAt.setF (F':List Int):TyAt C (upd H x.af (.dK (My.mk F'))) p { x with F:=F' }:=by
 have k1:∀ {z:Addr} {vs:List V},H z=some (.lst vs)->upd H x.af (.dK (My.mk F')) z=some (.lst vs):=fun {z vs} e=>by rw[z0h (ne_of e h.hf (by intro q;cases q))];exact e
 have k2:∀ {z:Addr} {o:HO},z≠x.af->H z=some o->upd H x.af (.dK (My.mk F')) z=some o:=fun n e=>by rw[z0h n];exact e
 obtain⟨dx,e⟩:=h.ob
 exact⟨⟨dx,k2 (h.p_ne h.hf (by intro a b c q;cases q)) e⟩,k1 h.hw,k1 h.ht,k2 h.nd.2.1 h.hd,k2 h.nd.2.2.2.1 h.hp,h.hM.mono fun m hm=>by rw[k1 (h.hM.ok m hm),h.hM.ok m hm],k1 h.hs,k1 h.hl,z0c,k2 h.nd.2.2.2.2.2.symm h.hg,fun r hr=>k1 (h.wo r hr),fun q hq=>k2 (h.t_ne h.hf (by intro a q;cases q) q hq) (h.to q hq),h.nl,h.nd,h.nm,h.nw⟩
theorem TyAt.setG (G':List Int):TyAt C (upd H x.ao (.dK (My.mk G'))) p { x with G:=G' }:=by
 have k1:∀ {z:Addr} {vs:List V},H z=some (.lst vs)->upd H x.ao (.dK (My.mk G')) z=some (.lst vs):=fun {z vs} e=>by rw[z0h (ne_of e h.hg (by intro q;cases q))];exact e
 have k2:∀ {z:Addr} {o:HO},z≠x.ao->H z=some o->upd H x.ao (.dK (My.mk G')) z=some o:=fun n e=>by rw[z0h n];exact e
 obtain⟨dx,e⟩:=h.ob
 exact⟨⟨dx,k2 (h.p_ne h.hg (by intro a b c q;cases q)) e⟩,k1 h.hw,k1 h.ht,k2 h.nd.2.2.1 h.hd,k2 h.nd.2.2.2.2.1 h.hp,h.hM.mono fun m hm=>by rw[k1 (h.hM.ok m hm),h.hM.ok m hm],k1 h.hs,k1 h.hl,k2 h.nd.2.2.2.2.2 h.hf,z0c,fun r hr=>k1 (h.wo r hr),fun q hq=>k2 (h.t_ne h.hg (by intro a q;cases q) q hq) (h.to q hq),h.nl,h.nd,h.nm,h.nw⟩
theorem TyAt.setT (T':List Int):TyAt C (upd H x.ad (.dK (My.mk T'))) p { x with T:=T' }:=by
 have k1:∀ {z:Addr} {vs:List V},H z=some (.lst vs)->upd H x.ad (.dK (My.mk T')) z=some (.lst vs):=fun {z vs} e=>by rw[z0h (ne_of e h.hd (by intro q;cases q))];exact e
 have k2:∀ {z:Addr} {o:HO},z≠x.ad->H z=some o->upd H x.ad (.dK (My.mk T')) z=some o:=fun n e=>by rw[z0h n];exact e
 obtain⟨dx,e⟩:=h.ob
 exact⟨⟨dx,k2 (h.p_ne h.hd (by intro a b c q;cases q)) e⟩,k1 h.hw,k1 h.ht,z0c,k2 h.nd.1.symm h.hp,h.hM.mono fun m hm=>by rw[k1 (h.hM.ok m hm),h.hM.ok m hm],k1 h.hs,k1 h.hl,k2 h.nd.2.1.symm h.hf,k2 h.nd.2.2.1.symm h.hg,fun r hr=>k1 (h.wo r hr),fun q hq=>k2 (h.t_ne h.hd (by intro a q;cases q) q hq) (h.to q hq),h.nl,h.nd,h.nm,h.nw⟩
theorem TyAt.setS (so':List Int):TyAt C (upd H x.aso (.lst (so'.map V.int))) p { x with so:=so' }:=by
 have k1:∀ {z:Addr} {kvs:List (Key×V)},H z=some (.dK kvs)->upd H x.aso (.lst (so'.map V.int)) z=some (.dK kvs):=fun {z vs} e=>by rw[z0h (ne_of e h.hs (by intro q;cases q))];exact e
 have k2:∀ {z:Addr} {o:HO},z≠x.aso->H z=some o->upd H x.aso (.lst (so'.map V.int)) z=some o:=fun n e=>by rw[z0h n];exact e
 obtain⟨dx,e⟩:=h.ob
 exact⟨⟨dx,k2 (h.p_ne h.hs (by intro a b c q;cases q)) e⟩,k2 h.nl.2.1 h.hw,k2 h.nl.2.2.2.1 h.ht,k1 h.hd,k1 h.hp,h.hM.mono fun m hm=>by rw[k2 (h.nm m hm).2.2.1 (h.hM.ok m hm),h.hM.ok m hm],z0c,k2 h.nl.2.2.2.2.2.symm h.hl,k1 h.hf,k1 h.hg,fun r hr=>k2 (h.nw r hr).2.2.1 (h.wo r hr),fun q hq=>k2 (h.t_ne h.hs (by intro a q;cases q) q hq) (h.to q hq),h.nl,h.nd,h.nm,h.nw⟩
theorem TyAt.setL (left':List Int):TyAt C (upd H x.al (.lst (left'.map V.int))) p { x with left:=left' }:=by
 have k1:∀ {z:Addr} {kvs:List (Key×V)},H z=some (.dK kvs)->upd H x.al (.lst (left'.map V.int)) z=some (.dK kvs):=fun {z vs} e=>by rw[z0h (ne_of e h.hl (by intro q;cases q))];exact e
 have k2:∀ {z:Addr} {o:HO},z≠x.al->H z=some o->upd H x.al (.lst (left'.map V.int)) z=some o:=fun n e=>by rw[z0h n];exact e
 obtain⟨dx,e⟩:=h.ob
 exact⟨⟨dx,k2 (h.p_ne h.hl (by intro a b c q;cases q)) e⟩,k2 h.nl.2.2.1 h.hw,k2 h.nl.2.2.2.2.1 h.ht,k1 h.hd,k1 h.hp,h.hM.mono fun m hm=>by rw[k2 (h.nm m hm).2.2.2 (h.hM.ok m hm),h.hM.ok m hm],k2 h.nl.2.2.2.2.2 h.hs,z0c,k1 h.hf,k1 h.hg,fun r hr=>k2 (h.nw r hr).2.2.2.1 (h.wo r hr),fun q hq=>k2 (h.t_ne h.hl (by intro a q;cases q) q hq) (h.to q hq),h.nl,h.nd,h.nm,h.nw⟩
theorem TyAt.setQ {qs':List Pr}(ho:TrOk H qs'):TyAt C (upd H x.at_ (.lst (refs qs'))) p { x with qs:=qs' }:=by
 have k1:∀ {z:Addr} {kvs:List (Key×V)},H z=some (.dK kvs)->upd H x.at_ (.lst (refs qs')) z=some (.dK kvs):=fun {z vs} e=>by rw[z0h (ne_of e h.ht (by intro q;cases q))];exact e
 have k2:∀ {z:Addr} {o:HO},z≠x.at_->H z=some o->upd H x.at_ (.lst (refs qs')) z=some o:=fun n e=>by rw[z0h n];exact e
 obtain⟨dx,e⟩:=h.ob
 exact⟨⟨dx,k2 (h.p_ne h.ht (by intro a b c q;cases q)) e⟩,k2 h.nl.1 h.hw,z0c,k1 h.hd,k1 h.hp,h.hM.mono fun m hm=>by rw[k2 (h.nm m hm).2.1 (h.hM.ok m hm),h.hM.ok m hm],k2 h.nl.2.2.2.1.symm h.hs,k2 h.nl.2.2.2.2.1.symm h.hl,k1 h.hf,k1 h.hg,fun r hr=>k2 (h.nw r hr).2.1 (h.wo r hr),fun q hq=>k2 (ne_of (ho q hq) h.ht (by intro z;cases z)) (ho q hq),h.nl,h.nd,h.nm,h.nw⟩
end
structure TallyCls (K:W.Frag)(mg:Str->Option Value)(C:Addr):Prop where
 cl:Cls K C
 n1:NoAttr K C "wishes"
 n2:NoAttr K C "trail"
 n3:NoAttr K C "taken"
 n4:NoAttr K C "places"
 n5:NoAttr K C "so"
 n6:NoAttr K C "left"
 n7:NoAttr K C "failing"
 n8:NoAttr K C "forcing"
 mgC:mg "Tally" = some (.ref C)
 mks:PySem.W.makesIn K C=true
 kc:PySem.W.keepIn K (.ref C)=true
theorem iteN {c A B:Prop} [Decidable c](h:¬ c)(b:B):if decide c=true then A else B:=by
 rw[decide_eq_false h];exact iteF b
theorem y9z (l:List Int)(n:Int):dropK (mk l) (Sum.inl n:Key)=mk (l.filter fun z=>!decide (z=n)):=by
 unfold dropK mk
 rw[List.filter_map]
 congr 1
 refine List.filter_congr fun z _=>?_
 show decide ((Sum.inl z:Key)≠Sum.inl n)=!decide (z=n)
 by_cases h:z=n
 ·subst h;simp
 ·simp[h]
theorem x9d (l:List Int)(n:Int):valV (mk l) (Sum.inl n:Key)=none->l.filter (fun z=>!decide (z=n))=l:=fun e=>by
 have h:=z7o l n
 rw[e]at h
 have hn:¬ n∈l:=fun z=>by rw[decide_eq_true z]at h;cases h
 exact List.filter_eq_self.mpr fun z hz=>by
  have:z≠n:=fun q=>hn (q▸hz)
  simp[this]
def wo (l:List Int)(i:Nat):List Int:=l.filter fun z=>!decide (z=(i:Int))
theorem mem_wo {l:List Int}{i:Nat}{j:Int}:j∈wo l i↔j∈l/\j≠(i:Int):=by unfold wo;rw[List.mem_filter];simp
theorem z5y {l:List Int}{i:Nat}(h:l.Nodup):(wo l i).Nodup:=h.sublist List.filter_sublist
theorem x9c (l:List Int)(i:Nat):(wo l i).length<=l.length:=List.length_filter_le _ _
def x0k (C:Addr):Sp:=fun vs H Q _=>∃ (p:Addr) (x:Tly) (i:Nat) (a b:Int),vs=[.ref p,.int i]/\TyAt C H p x/\x.so[i]?=some a/\x.left[i]?=some b/\x.F.length<=16700000/\x.G.length<=16700000/\x.F.Nodup/\x.G.Nodup /\
 ∀ (F' G':List Int) (H':Hp),TyAt C H' p { x with F:=F',G:=G' }->Fr p x { x with F:=F',G:=G' } H H'->F'.Nodup->G'.Nodup->(∀ j,j∈F'↔(j∈x.F/\j≠(i:Int))∨(j=(i:Int)/\a=0/\b=0))->(∀ j,j∈G'↔(j∈x.G/\j≠(i:Int))∨(j=(i:Int)/\a=0/\b=1))->Q .non H'
theorem x9o {p:Addr}{x:Tly}:foot p x x.af:=.inr (.inr (.inr (.inr (.inr (.inr (.inr (.inl rfl)))))))
theorem x9n {p:Addr}{x:Tly}:foot p x x.ao:=.inr (.inr (.inr (.inr (.inr (.inr (.inr (.inr (.inl rfl))))))))
section
variable {P:Program}{w:World}{K:W.Frag}{mg:Str->Option Value}{base:Heap}{C:Addr}
theorem x2o (T:TallyCls K mg C)(Df:MDef K C "sort_in" "Tally.sort_in" z1p z1i):MCal P w K mg base 1 C "sort_in" z1i (x0k C):=by
 refine Df.cal y1e (fun vs H Q E h=>?_) (fun f cdv A outer s H vs Q E hr h=>?_)
 ·obtain⟨p,x,i,a,b,rfl,_⟩:=h;rfl
 ·obtain⟨p,x,i,a,b,rfl,hx,ha,hb,hzF,hzG,nF,nG,q⟩:=h
  have hu:=hu_of hr
  have cl:=T.cl
  refine⟨_,(z0b (z0z (x0z (z1n (pv 0) rfl) (pv 1) z3d ⟨rfl,rfl,rfl,rfl⟩))
 (z0b (z0z (x0z (z1n (pv 0) rfl) (pv 1) z3d ⟨rfl,rfl,rfl,rfl⟩))
 (z0e (ps_if (z0k op_eq (pe_ix ix_list (z1n (pv 0) rfl) (pv 1) (fun _ _=>rfl)) z0i (z0q _))
 (z0e (ps_if (z0k op_eq (pe_ix ix_list (z1n (pv 0) rfl) (pv 1) (fun _ _=>rfl)) z0i (z0q _))
 (z0e (y5a hu (z1n (pv 0) rfl) (pv 1) pe_bl rfl))
 (z0e (ps_if (z0k op_eq (pe_ix ix_list (z1n (pv 0) rfl) (pv 1) (fun _ _=>rfl)) z0i (z0q _))
 (z0e (y5a hu (z1n (pv 0) rfl) (pv 1) pe_bl rfl))
 z0o))))
 z0o)))),?_⟩
  refine z7m (fun σ Hx=>σ=[some (.ref p),some (.int i)]/\TyAt C Hx p { x with F:=wo x.F i }/\Fr p x { x with F:=wo x.F i } H Hx) (fun N hN=>?_) ?_
  ·obtain⟨dx,ob⟩:=hx.ob
   refine⟨_,rfl,p,C,dx,_,_,rfl,ob,T.cl,T.n7,z8s x,x.af,rfl,.inl ⟨_,.inl hx.hf⟩,_,rfl,_,Sum.inl (i:Int),hx.hf,rfl,fun v _=>?_,fun e=>?_⟩
   ·rw[y9z]
    exact hN _ _ ⟨rfl,hx.setF _,z5z x9o fun _ h=>.inl h⟩
   ·have ew:wo x.F i=x.F:=x9d _ _ e
    refine hN _ _ ⟨rfl,?_,?_⟩
    ·rw[ew];exact hx
    ·rw[ew];exact Fr.refl _ _ _
  rintro σ H1 ⟨rfl,hx1,fr1⟩
  refine z7m (fun σ Hx=>σ=[some (.ref p),some (.int i)]/\TyAt C Hx p { x with F:=wo x.F i,G:=wo x.G i }/\Fr p x { x with F:=wo x.F i,G:=wo x.G i } H Hx) (fun N hN=>?_) ?_
  ·obtain⟨dx,ob⟩:=hx1.ob
   refine⟨_,rfl,p,C,dx,_,_,rfl,ob,T.cl,T.n8,z8r _,x.ao,rfl,.inl ⟨_,.inl hx1.hg⟩,_,rfl,_,Sum.inl (i:Int),hx1.hg,rfl,fun v _=>?_,fun e=>?_⟩
   ·rw[y9z]
    exact hN _ _ ⟨rfl,hx1.setG _,fr1.trans (z5z x9n fun _ h=>.inl h)⟩
   ·have ew:wo x.G i=x.G:=x9d _ _ e
    refine hN _ _ ⟨rfl,?_,?_⟩
    ·rw[ew];exact hx1
    ·rw[ew];exact fr1
  rintro σ H2 ⟨rfl,hx2,fr2⟩
  obtain⟨dx,ob⟩:=hx2.ob
  have hat:atI (x.so.map V.int) (i:Int)=some (.int a):=z3z (by simp[ha])
  have hbt:atI (x.left.map V.int) (i:Int)=some (.int b):=z3z (by simp[hb])
  have nFi:¬ (i:Int)∈wo x.F i:=fun z=>(mem_wo.mp z).2 rfl
  have nGi:¬ (i:Int)∈wo x.G i:=fun z=>(mem_wo.mp z).2 rfl
  have lF:=x9c x.F i
  have lG:=x9c x.G i
  refine⟨_,rfl,p,C,dx,_,_,rfl,ob,T.cl,T.n5,fl_so _,_,rfl,x.aso,_,_,_,rfl,rfl,qLo hx2.hs,hat,rfl,_,rfl,ite2 (fun c=>?_) (fun c=>?_)⟩
  ·have a0:a=0:=by have:=of_decide_eq_true c;injection this
   refine⟨_,rfl,p,C,dx,_,_,rfl,ob,T.cl,T.n6,y0j _,_,rfl,x.al,_,_,_,rfl,rfl,qLo hx2.hl,hbt,rfl,_,rfl,ite2 (fun c2=>?_) (fun c2=>?_)⟩
   ·have b0:b=0:=by have:=of_decide_eq_true c2;injection this
    refine⟨_,rfl,p,C,dx,_,_,rfl,ob,T.cl,T.n7,z8s _,_,rfl,x.af,_,rfl,DPut.k (k:=Sum.inl (i:Int)) hx2.hf (z2r (by rw[x1i];show (wo x.F i).length<=_;omega)),?_⟩
    rw[x0v]
    have eF:onceF (wo x.F i) (i:Int)=wo x.F i++[(i:Int)]:=by unfold onceF;rw[if_neg nFi]
    show Q .non (upd H2 x.af (.dK (mk (onceF (wo x.F i) (i:Int)))))
    rw[eF]
    refine q _ _ _ (hx2.setF _) (fr2.trans (z5z x9o fun _ h=>.inl h)) ?_ (z5y nG) (fun j=>?_) (fun j=>?_)
    ·rw[List.nodup_append]
     exact⟨z5y nF,by simp,fun u hu v hv=>by
      have:v=(i:Int):=by simpa using hv
      rw[this];intro z;exact nFi (z▸hu)⟩
    ·rw[List.mem_append,mem_wo];simp[a0,b0]
    ·rw[mem_wo];simp[b0]
   ·have b0:b≠0:=fun z=>c2 (by rw[z];exact decide_eq_true rfl)
    refine⟨_,rfl,p,C,dx,_,_,rfl,ob,T.cl,T.n6,y0j _,_,rfl,x.al,_,_,_,rfl,rfl,qLo hx2.hl,hbt,rfl,_,rfl,ite2 (fun c3=>?_) (fun c3=>?_)⟩
    ·have b1:b=1:=by have:=of_decide_eq_true c3;injection this
     refine⟨_,rfl,p,C,dx,_,_,rfl,ob,T.cl,T.n8,z8r _,_,rfl,x.ao,_,rfl,DPut.k (k:=Sum.inl (i:Int)) hx2.hg (z2r (by rw[x1i];show (wo x.G i).length<=_;omega)),?_⟩
     rw[x0v]
     have eG:onceF (wo x.G i) (i:Int)=wo x.G i++[(i:Int)]:=by unfold onceF;rw[if_neg nGi]
     show Q .non (upd H2 x.ao (.dK (mk (onceF (wo x.G i) (i:Int)))))
     rw[eG]
     refine q _ _ _ (hx2.setG _) (fr2.trans (z5z x9n fun _ h=>.inl h)) (z5y nF) ?_ (fun j=>?_) (fun j=>?_)
     ·rw[List.nodup_append]
      exact⟨z5y nG,by simp,fun u hu v hv=>by
       have:v=(i:Int):=by simpa using hv
       rw[this];intro z;exact nGi (z▸hu)⟩
     ·rw[mem_wo];simp[b1]
     ·rw[List.mem_append,mem_wo];simp[a0,b1]
    ·have b1:b≠1:=fun z=>c3 (by rw[z];exact decide_eq_true rfl)
     refine q _ _ _ hx2 fr2 (z5y nF) (z5y nG) (fun j=>?_) (fun j=>?_)
     ·rw[mem_wo];simp[b0]
     ·rw[mem_wo];simp[b1]
  ·have a0:a≠0:=fun z=>c (by rw[z];exact decide_eq_true rfl)
   refine q _ _ _ hx2 fr2 (z5y nF) (z5y nG) (fun j=>?_) (fun j=>?_)
   ·rw[mem_wo];simp[a0]
   ·rw[mem_wo];simp[a0]
end
theorem y6s:∀ (c:Nat)(lo:Int)(l:List Int),l.Nodup->(∀ x∈l,lo<x/\x<=lo+c)->l.length<=c
 | 0,lo,l,_,h=>by
  cases l with
  | nil=>simp
  | cons x r=>have:=h x List.mem_cons_self;omega
 | c+1,lo,l,nd,h=>by
  have hf:(l.filter fun x=>!decide (x=lo+(c:Int)+1)).length<=c:=by
   refine y6s c lo _ (nd.sublist List.filter_sublist) fun x hx=>?_
   obtain⟨h1,h2⟩:=List.mem_filter.mp hx
   have h3:=h x h1
   have h4:x≠lo+(c:Int)+1:=by simpa using h2
   omega
  by_cases e:lo+(c:Int)+1∈l
  ·have:=z7j nd e;omega
  ·have:(l.filter fun x=>!decide (x=lo+(c:Int)+1))=l:=List.filter_eq_self.mpr fun x hx=>by
    have:x≠lo+(c:Int)+1:=fun z=>e (z▸hx)
    simp[this]
   rw[this]at hf;omega
def addAt (xs:List Int)(ks:List Nat)(c:Int):List Int:=(List.range xs.length).map fun k=>xs.getD k 0+(if k∈ks then c else 0)
theorem z5x (xs:List Int)(ks:List Nat)(c:Int):(addAt xs ks c).length=xs.length:=by simp[addAt]
theorem z6x (xs:List Int)(c:Int):addAt xs [] c=xs:=by
 refine List.ext_getElem? fun k=>?_
 unfold addAt
 by_cases h:k<xs.length
 ·rw[List.getElem?_map,List.getElem?_range h];simp[h]
 ·rw[List.getElem?_eq_none (by simp;omega),List.getElem?_eq_none (by omega)]
theorem z3s {xs:List Int}{ks:List Nat}{c:Int}{k:Nat}(h:k<xs.length):(addAt xs ks c)[k]?=some (xs.getD k 0+(if k∈ks then c else 0)):=by
 unfold addAt
 rw[List.getElem?_map,List.getElem?_range h];rfl
theorem y0p {xs:List Int}{ks:List Nat}{c:Int}{k:Nat}(h:¬ k<xs.length):(addAt xs ks c)[k]?=none:=List.getElem?_eq_none (by rw[z5x];omega)
theorem y4k {xs:List Int}{ks:List Nat}{c:Int}{j k:Nat}(hk:ks[j]?=some k)(hn:¬ k∈ks.take j):(addAt xs (ks.take j) c).set k (xs.getD k 0+c)=addAt xs (ks.take (j+1)) c:=by
 unfold addAt
 rw[x4i]
 refine List.map_congr_left fun t _=>?_
 by_cases e:t=k
 ·subst e;rw[if_pos rfl,if_pos ((z3w hk t).mpr (.inr rfl))]
 ·rw[if_neg e]
  by_cases z:t∈ks.take j
  ·rw[if_pos z,if_pos ((z3w hk t).mpr (.inl z))]
  ·rw[if_neg z,if_neg (fun y=>((z3w hk t).mp y).elim z e)]
theorem y3k {xs:List Int}{ks:List Nat}{c:Int}{j k t:Nat}(hk:ks[j]?=some k)(ht:t≠k):(addAt xs (ks.take (j+1)) c)[t]?=(addAt xs (ks.take j) c)[t]?:=by
 by_cases h:t<xs.length
 ·rw[z3s h,z3s h]
  by_cases z:t∈ks.take j
  ·rw[if_pos z,if_pos ((z3w hk t).mpr (.inl z))]
  ·rw[if_neg z,if_neg (fun y=>((z3w hk t).mp y).elim z ht)]
 ·rw[y0p h,y0p h]
theorem FG.lenF {so left F G:List Int}(h:FG so left F G):F.length<=so.length:=by
 refine y6s so.length (-1) F h.fn fun j hj=>?_
 obtain⟨i,e,p,_⟩:=(h.f j).mp hj
 have:=(List.getElem?_eq_some_iff.mp p).1
 omega
theorem FG.lenG {so left F G:List Int}(h:FG so left F G):G.length<=so.length:=by
 refine y6s so.length (-1) G h.gn fun j hj=>?_
 obtain⟨i,e,p,_⟩:=(h.g j).mp hj
 have:=(List.getElem?_eq_some_iff.mp p).1
 omega
def y1p (C:Addr):Sp:=fun vs H Q _=>∃ (p:Addr) (x:Tly) (l c:Int),vs=[.ref p,.int l,.int c]/\(c=1∨c=-1)/\TyAt C H p x/\FG x.so x.left x.F x.G/\x.left.length=x.so.length/\x.so.length<=16700000/\(∀ y,∀ i∈ilook x.M y,i<x.so.length)/\(∀ y,(ilook x.M y).Nodup) /\
 ∀ (F' G':List Int) (H':Hp),TyAt C H' p { x with so:=addAt x.so (ilook x.M l) c,left:=addAt x.left (ilook x.M (-l)) (-c),F:=F',G:=G' }->Fr p x { x with so:=addAt x.so (ilook x.M l) c,left:=addAt x.left (ilook x.M (-l)) (-c),F:=F',G:=G' } H H' ->
  FG (addAt x.so (ilook x.M l) c) (addAt x.left (ilook x.M (-l)) (-c)) F' G'->Q .non H'
theorem x1p {p:Addr}{x:Tly}:foot p x x.aso:=.inr (.inr (.inr (.inr (.inr (.inl rfl)))))
theorem x1q {p:Addr}{x:Tly}:foot p x x.al:=.inr (.inr (.inr (.inr (.inr (.inr (.inl rfl))))))
theorem y4e {p:Addr}{x:Tly}{m:Mp}(h:m∈x.M):foot p x m.2.1:=.inr (.inr (.inr (.inr (.inr (.inr (.inr (.inr (.inr ⟨m,h,rfl⟩))))))))
theorem z4a {C:Addr}{H:Hp}{p:Addr}{x:Tly}(h:TyAt C H p x){z:Addr}(hz:H z=none):¬ foot p x z:=by
 rintro (e|e | e | e | e | e | e | e | e | ⟨m,hm,e⟩)
 ·obtain⟨dx,ob⟩:=h.ob;rw[e,ob]at hz;cases hz
 ·rw[e,h.hw]at hz;cases hz
 ·rw[e,h.ht]at hz;cases hz
 ·rw[e,h.hd]at hz;cases hz
 ·rw[e,h.hp]at hz;cases hz
 ·rw[e,h.hs]at hz;cases hz
 ·rw[e,h.hl]at hz;cases hz
 ·rw[e,h.hf]at hz;cases hz
 ·rw[e,h.hg]at hz;cases hz
 ·rw[e,h.hM.ok m hm]at hz;cases hz
section
variable {P:Program}{w:World}{K:W.Frag}{mg:Str->Option Value}{base:Heap}{C:Addr}
theorem y2m (T:TallyCls K mg C)(m_sort_in:MCal P w K mg base 1 C "sort_in" z1i (x0k C))(Df:MDef K C "count_letter" "Tally.count_letter" z1b z0y):MCal P w K mg base 2 C "count_letter" z0y (y1p C):=by
 refine Df.cal sc_Tally_count_letter (fun vs H Q E h=>?_) (fun f cdv A outer s H vs Q E hr h=>?_)
 ·obtain⟨p,x,l,c,rfl,_⟩:=h;rfl
 ·obtain⟨p,x,l,c,rfl,hc,hx,hFG,hll,hn,hlt,hnd,q⟩:=h
  have hu:=hu_of hr
  have cl:=T.cl
  refine⟨_,(z0b (z3a PassesOwn.never rfl (z1d (x1a hu (z1n (pv 0) rfl) (pv 1) (z1g z0d) ⟨rfl,rfl,rfl,rfl⟩)) (z1c (i:=3) sc_Tally_count_letter.nd rfl (Or.inl rfl))
 (z0b (x4k (z1n (pv 0) rfl) (pv 3) x1n (pv 2) w2u x0r)
 (z0e (ps_if (z0k op_le (pe_ix ix_list (z1n (pv 0) rfl) (pv 3) (fun _ _=>rfl)) z0i (z0q _))
 (z0e (z0z (z6s m_sort_in cl hr (by decide) (pv 0) (z0a (pv 3) z0d))))
 z0o))))
 (z0e (z3a PassesOwn.never rfl (z1d (x1a hu (z1n (pv 0) rfl) (pe_un z1z (pv 1)) (z1g z0d) ⟨rfl,rfl,rfl,rfl⟩)) (z1c (i:=3) sc_Tally_count_letter.nd rfl (Or.inl rfl))
 (z0b (x4k (z1n (pv 0) rfl) (pv 3) x1n (pv 2) w2t x0r)
 (z0e (ps_if (z0k op_le (pe_ix ix_list (z1n (pv 0) rfl) (pv 3) (fun _ _=>rfl)) z0i (z0q _))
 (z0e (z0z (z6s m_sort_in cl hr (by decide) (pv 0) (z0a (pv 3) z0d))))
 z0o)))))),?_⟩
  have noS:∀ y:Tly,(flds y).lookup ("sort_in" : Str)=none:=fun y=>fl_nx y (by decide +kernel)
  refine z7m (fun σ Hx=>∃ (F' G':List Int) (v:Option V),σ=[some (.ref p),some (.int l),some (.int c),v]/\TyAt C Hx p { x with so:=addAt x.so (ilook x.M l) c,F:=F',G:=G' }/\Fr p x { x with so:=addAt x.so (ilook x.M l) c,F:=F',G:=G' } H Hx/\FG (addAt x.so (ilook x.M l) c) x.left F' G') (fun N hN=>?_) ?_
  ·obtain⟨dx,ob⟩:=hx.ob
   refine⟨_,rfl,p,C,dx,_,_,rfl,ob,T.cl,T.n4,y3b x,x.ap,rfl,.inl ⟨_,.inl hx.hp⟩,_,rfl,by decide,fun pe hpe=>?_⟩
   obtain⟨o,ho,b,hb,hbb,eo⟩:=x1k l hx.hp hx.hM hpe
   have s1:Same H (upd H pe (.lst [])):=(smR H).upd hpe
   have hx1:=hx.same s1
   have hpe1:¬ foot p x pe:=z4a hx hpe
   generalize upd H pe (.lst [])=H1 at s1 hx1 ho hb
   have stay:∀ (y:Tly) (Hx:Hp),y.M=x.M->Fr p x y H1 Hx->TyAt C Hx p y->Hx b=some (.lst (iv (ilook x.M l))):=fun y Hx ey fr hy=>by
    rcases hbb with e|⟨m,hm,e⟩
    ·exact fr.out b _ hb (by rw[e];exact hpe1)
    ·have h1:=hx1.hM.ok m hm
     have h2:=hy.hM.ok m (by rw[ey];exact hm)
     rw[e]at hb ⊢
     rw[h1]at hb
     rw[h2];exact hb
   refine⟨o,ho,b,eo,⟨_,qLo hb⟩,y2z (K:=K) (a:=b) (xs:=iv (ilook x.M l)) (fun j σ Hx=>∃ (F' G':List Int) (v:Option V),σ=[some (.ref p),some (.int l),some (.int c),v]/\TyAt C Hx p { x with so:=addAt x.so ((ilook x.M l).take j) c,F:=F',G:=G' }/\Fr p x { x with so:=addAt x.so ((ilook x.M l).take j) c,F:=F',G:=G' } H1 Hx/\FG (addAt x.so ((ilook x.M l).take j) c) x.left F' G')
    ⟨x.F,x.G,none,rfl,by rw[List.take_zero,z6x];exact hx1,by rw[List.take_zero,z6x];exact Fr.refl _ _ _,by rw[List.take_zero,z6x];exact hFG⟩ (fun j σ Hx _ hh=>by
    obtain⟨F',G',v,rfl,hy,fr,_⟩:=hh
    exact qLo (stay _ _ (by rfl) fr hy)) ?_ ?_⟩
   ·rintro j y σ Hx N2 B2 hj ⟨F',G',v,rfl,hy,fr,fg⟩ hN2
    obtain⟨k,hk,rfl⟩:=x9m hj
    have hkn:k<x.so.length:=hlt l k (List.mem_of_getElem? hk)
    have hnt:=y0x (hnd l) hk
    obtain⟨dy,oy⟩:=hy.ob
    have hget:((addAt x.so ((ilook x.M l).take j) c).map V.int)[k]?=some (.int (x.so.getD k 0)):=by
     rw[List.getElem?_map,z3s hkn,if_neg hnt];simp
    refine⟨_,rfl,p,C,dy,_,_,rfl,oy,T.cl,T.n5,fl_so _,_,rfl,x.aso,_,k,.int (x.so.getD k 0),rfl,rfl,qLo hy.hs,hget,_,rfl,_,_,rfl,rfl,x.aso,_,_,k,rfl,rfl,hy.hs,x6c (by simpa[z5x] using hkn),?_⟩
    have est:((addAt x.so ((ilook x.M l).take j) c).map V.int).set k (.int (x.so.getD k 0+c))=(addAt x.so ((ilook x.M l).take (j+1)) c).map V.int:=by
     rw[←y4k hk hnt,List.map_set]
    dsimp only
    rw[est]
    have hy2:=hy.setS (addAt x.so ((ilook x.M l).take (j+1)) c)
    have fr2:Fr p x { x with so:=addAt x.so ((ilook x.M l).take (j+1)) c,F:=F',G:=G' } H1 (upd Hx x.aso (.lst ((addAt x.so ((ilook x.M l).take (j+1)) c).map V.int))):=fr.trans (z5z x1p fun _ h=>.inl h)
    generalize upd Hx x.aso (.lst ((addAt x.so ((ilook x.M l).take (j+1)) c).map V.int))=H2 at hy2 fr2
    obtain⟨dz,oz⟩:=hy2.ob
    have hlk:x.left[k]?=some (x.left.getD k 0):=by
     have:k<x.left.length:=by omega
     simp[this]
    have hlat:atI (x.left.map V.int) (k:Int)=some (.int (x.left.getD k 0)):=z3z (by rw[List.getElem?_map,hlk];rfl)
    have hs':∀ t,t≠k->(addAt x.so ((ilook x.M l).take (j+1)) c)[t]?=(addAt x.so ((ilook x.M l).take j) c)[t]?:=fun t ht=>y3k hk ht
    refine⟨_,rfl,p,C,dz,_,_,rfl,oz,T.cl,T.n6,y0j _,_,rfl,x.al,_,_,_,rfl,rfl,qLo hy2.hl,hlat,_,_,rfl,rfl,_,rfl,ite2 (fun c1=>?_) (fun c1=>?_)⟩
    ·refine⟨_,rfl,p,dz,_,rfl,oz,noS _,_,rfl,p,_,k,_,_,rfl,hy2,z3s hkn,hlk,by have:=fg.lenF;rw[z5x]at this;show F'.length<=_;omega,by have:=fg.lenG;rw[z5x]at this;show G'.length<=_;omega,fg.fn,fg.gn,fun F2 G2 H3 hy3 fr3 n1 n2 mF mG=>?_⟩
     refine hN2 _ _ ⟨F2,G2,_,rfl,hy3,fr2.trans fr3,fg.sort hs' (fun _ _=>rfl) n1 n2 (fun i=>?_) (fun i=>?_)⟩
     ·rw[mF,z3s hkn,hlk];simp
     ·rw[mG,z3s hkn,hlk];simp
    ·have c1':¬ x.left.getD k 0<=2:=fun z=>c1 (decide_eq_true z)
     exact hN2 _ _ ⟨F',G',_,rfl,hy2,fr2,fg.skip hs' (fun _ _=>rfl) (fun z hz=>by rw[hlk]at hz;cases hz;omega) (fun z hz=>by rw[hlk]at hz;cases hz;omega)⟩
   ·rintro σ Hx ⟨F',G',v,rfl,hy,fr,fg⟩
    have el:(ilook x.M l).take (iv (ilook x.M l)).length=ilook x.M l:=by simp[iv]
    rw[el]at hy fr fg
    exact hN _ _ ⟨F',G',v,rfl,hy,(Fr.same s1).trans fr,fg⟩
  rintro σ H1 ⟨F1,G1,v1,rfl,hy1,fr1,fg1⟩
  obtain⟨dx,ob⟩:=hy1.ob
  refine⟨_,rfl,p,C,dx,_,_,rfl,ob,T.cl,T.n4,y3b _,x.ap,rfl,.inl ⟨_,.inl hy1.hp⟩,_,rfl,_,rfl,by decide,fun pe hpe=>?_⟩
  obtain⟨o,ho,b,hb,hbb,eo⟩:=x1k (-l) hy1.hp hy1.hM hpe
  have s1:Same H1 (upd H1 pe (.lst [])):=(smR H1).upd hpe
  have hx1:=hy1.same s1
  have hpe1:=z4a hy1 hpe
  generalize upd H1 pe (.lst [])=H2 at s1 hx1 ho hb
  have stay:∀ (y:Tly) (Hx:Hp),y.M=x.M->Fr p { x with so:=addAt x.so (ilook x.M l) c,F:=F1,G:=G1 } y H2 Hx->TyAt C Hx p y->Hx b=some (.lst (iv (ilook x.M (-l)))):=fun y Hx ey fr hy=>by
   rcases hbb with e|⟨m,hm,e⟩
   ·exact fr.out b _ hb (by rw[e];exact hpe1)
   ·have h1:=hx1.hM.ok m hm
    have h2:=hy.hM.ok m (by rw[ey];exact hm)
    rw[e]at hb ⊢
    rw[h1]at hb
    rw[h2];exact hb
  refine⟨o,ho,b,eo,⟨_,qLo hb⟩,y2z (K:=K) (a:=b) (xs:=iv (ilook x.M (-l))) (fun j σ Hx=>∃ (F' G':List Int) (v:Option V),σ=[some (.ref p),some (.int l),some (.int c),v]/\TyAt C Hx p { x with so:=addAt x.so (ilook x.M l) c,left:=addAt x.left ((ilook x.M (-l)).take j) (-c),F:=F',G:=G' }/\Fr p { x with so:=addAt x.so (ilook x.M l) c,F:=F1,G:=G1 } { x with so:=addAt x.so (ilook x.M l) c,left:=addAt x.left ((ilook x.M (-l)).take j) (-c),F:=F',G:=G' } H2 Hx/\FG (addAt x.so (ilook x.M l) c) (addAt x.left ((ilook x.M (-l)).take j) (-c)) F' G')
   ⟨F1,G1,v1,rfl,by rw[List.take_zero,z6x];exact hx1,by rw[List.take_zero,z6x];exact Fr.refl _ _ _,by rw[List.take_zero,z6x];exact fg1⟩ (fun j σ Hx _ hh=>by
    obtain⟨F',G',v,rfl,hy,fr,_⟩:=hh
    exact qLo (stay _ _ (by rfl) fr hy)) ?_ ?_⟩
  ·rintro j y σ Hx N2 B2 hj ⟨F',G',v,rfl,hy,fr,fg⟩ hN2
   obtain⟨k,hk,rfl⟩:=x9m hj
   have hkn:k<x.so.length:=hlt (-l) k (List.mem_of_getElem? hk)
   have hkl:k<x.left.length:=by omega
   have hnt:=y0x (hnd (-l)) hk
   obtain⟨dy,oy⟩:=hy.ob
   have hget:((addAt x.left ((ilook x.M (-l)).take j) (-c)).map V.int)[k]?=some (.int (x.left.getD k 0)):=by
    rw[List.getElem?_map,z3s hkl,if_neg hnt];simp
   refine⟨_,rfl,p,C,dy,_,_,rfl,oy,T.cl,T.n6,y0j _,_,rfl,x.al,_,k,.int (x.left.getD k 0),rfl,rfl,qLo hy.hl,hget,_,rfl,_,_,rfl,rfl,x.al,_,_,k,rfl,rfl,hy.hl,x6c (by simpa[z5x] using hkl),?_⟩
   have est:((addAt x.left ((ilook x.M (-l)).take j) (-c)).map V.int).set k (.int (x.left.getD k 0-c))=(addAt x.left ((ilook x.M (-l)).take (j+1)) (-c)).map V.int:=by
    rw[←y4k hk hnt,List.map_set,Int.sub_eq_add_neg]
   dsimp only
   rw[est]
   have hy2:=hy.setL (addAt x.left ((ilook x.M (-l)).take (j+1)) (-c))
   have fr2:Fr p { x with so:=addAt x.so (ilook x.M l) c,F:=F1,G:=G1 } { x with so:=addAt x.so (ilook x.M l) c,left:=addAt x.left ((ilook x.M (-l)).take (j+1)) (-c),F:=F',G:=G' } H2 (upd Hx x.al (.lst ((addAt x.left ((ilook x.M (-l)).take (j+1)) (-c)).map V.int))):=fr.trans (z5z x1q fun _ h=>.inl h)
   generalize upd Hx x.al (.lst ((addAt x.left ((ilook x.M (-l)).take (j+1)) (-c)).map V.int))=H3 at hy2 fr2
   obtain⟨dz,oz⟩:=hy2.ob
   have hmk:k∈(ilook x.M (-l)).take (j+1):=(z3w hk k).mpr (.inr rfl)
   have hlk:(addAt x.left ((ilook x.M (-l)).take (j+1)) (-c))[k]?=some (x.left.getD k 0+-c):=by rw[z3s hkl,if_pos hmk]
   have hlo:(addAt x.left ((ilook x.M (-l)).take j) (-c))[k]?=some (x.left.getD k 0):=by rw[z3s hkl,if_neg hnt];simp
   have hlat:atI ((addAt x.left ((ilook x.M (-l)).take (j+1)) (-c)).map V.int) (k:Int)=some (.int (x.left.getD k 0+-c)):=z3z (by rw[List.getElem?_map,hlk];rfl)
   have hl':∀ t,t≠k->(addAt x.left ((ilook x.M (-l)).take (j+1)) (-c))[t]?=(addAt x.left ((ilook x.M (-l)).take j) (-c))[t]?:=fun t ht=>y3k hk ht
   have hso:=z3s (xs:=x.so) (ks:=ilook x.M l) (c:=c) hkn
   refine⟨_,rfl,p,C,dz,_,_,rfl,oz,T.cl,T.n6,y0j _,_,rfl,x.al,_,_,_,rfl,rfl,qLo hy2.hl,hlat,_,_,rfl,rfl,_,rfl,ite2 (fun c1=>?_) (fun c1=>?_)⟩
   ·refine⟨_,rfl,p,dz,_,rfl,oz,noS _,_,rfl,p,_,k,_,_,rfl,hy2,hso,hlk,by have:=fg.lenF;rw[z5x]at this;show F'.length<=_;omega,by have:=fg.lenG;rw[z5x]at this;show G'.length<=_;omega,fg.fn,fg.gn,fun F2 G2 H4 hy3 fr3 n1 n2 mF mG=>?_⟩
    refine hN2 _ _ ⟨F2,G2,_,rfl,hy3,fr2.trans fr3,fg.sort (fun _ _=>rfl) hl' n1 n2 (fun i=>?_) (fun i=>?_)⟩
    ·rw[mF,hso,hlk];simp
    ·rw[mG,hso,hlk];simp
   ·have c1':¬ x.left.getD k 0+-c<=2:=fun z=>c1 (decide_eq_true z)
    exact hN2 _ _ ⟨F',G',_,rfl,hy2,fr2,fg.skip (fun _ _=>rfl) hl' (fun z hz=>by rw[hlo]at hz;cases hz;omega) (fun z hz=>by rw[hlk]at hz;cases hz;omega)⟩
  ·rintro σ Hx ⟨F',G',v,rfl,hy,fr,fg⟩
   have el:(ilook x.M (-l)).take (iv (ilook x.M (-l))).length=ilook x.M (-l):=by simp[iv]
   rw[el]at hy fr fg
   exact q F' G' Hx hy ((fr1.trans (Fr.same s1)).trans fr) fg
end
theorem x6g (W:List (List Int))(n:Int):(idxs W n).Nodup:=List.nodup_range.sublist List.filter_sublist
theorem in_idxs {W:List (List Int)}{n:Int}{i:Nat}:i∈idxs W n↔i<W.length/\n∈W.getD i []:=by
 unfold idxs;simp
theorem y0b {W:List (List Int)}{f g:List Int->Int}{l c:Int}(h:∀ v,g v=f v+if l∈v then c else 0):addAt (W.map f) (idxs W l) c=W.map g:=by
 refine List.ext_getElem? fun k=>?_
 by_cases hk:k<W.length
 ·rw[z3s (by simpa using hk),List.getElem?_map]
  have e1:(W.map f).getD k 0=f (W.getD k []):=by simp[hk]
  have e2:W[k]?=some (W.getD k []):=by simp[hk]
  rw[e1,e2,Option.map_some,h (W.getD k [])]
  congr 2
  by_cases z:l∈W.getD k []
  ·rw[if_pos z,if_pos (in_idxs.mpr ⟨hk,z⟩)]
  ·rw[if_neg z,if_neg (fun y=>z (in_idxs.mp y).2)]
 ·rw[y0p (by simpa using hk),List.getElem?_eq_none (by simpa using hk)]
def Dis (T:List Int):Prop:=∀ (k:Nat) (l:Int),T[k]?=some l->¬ l∈T.take k/\¬ -l∈T.take k
theorem Dis.snoc {T:List Int}{l:Int}(h:Dis T)(h1:¬ l∈T)(h2:¬ -l∈T):Dis (T++[l]):=by
 intro k x hk
 by_cases e:k<T.length
 ·rw[List.getElem?_append_left e]at hk
  rw[List.take_append_of_le_length (by omega)]
  exact h k x hk
 ·have hk2:k=T.length:=by
   have:=(List.getElem?_eq_some_iff.mp hk).1
   simp at this;omega
  subst hk2
  have:x=l:=by simpa using hk.symm
  rw[this,List.take_left]
  exact⟨h1,h2⟩
theorem Dis.init {T:List Int}{l:Int}(h:Dis (T++[l])):Dis T/\¬ l∈T/\¬ -l∈T:=by
 refine⟨fun k x hk=>?_,?_⟩
 ·have hl:=(List.getElem?_eq_some_iff.mp hk).1
  have:=h k x (by rw[List.getElem?_append_left hl];exact hk)
  rw[List.take_append_of_le_length (by omega)]at this
  exact this
 ·have:=h T.length l (by simp)
  rw[List.take_left]at this
  exact this
structure Tal (C:Addr)(H:Hp)(p:Addr)(x:Tly):Prop where
 ty:TyAt C H p x
 T:x.T=lets x.qs
 pl:∀ y,ilook x.M y=idxs (wl x.ws) y
 so:x.so=(wl x.ws).map fun v=>(soN v x.T:Int)
 lf:x.left=(wl x.ws).map fun v=>(leftN v x.T:Int)
 fg:FG x.so x.left x.F x.G
 dis:Dis x.T
 ne:∀ m∈x.M,m.2.2≠[]
theorem Tal.same {C:Addr}{H H':Hp}{p:Addr}{x:Tly}(h:Tal C H p x)(s:Same H H'):Tal C H' p x:=⟨h.ty.same s,h.T,h.pl,h.so,h.lf,h.fg,h.dis,h.ne⟩
theorem Tal.lens {C:Addr}{H:Hp}{p:Addr}{x:Tly}(h:Tal C H p x):x.so.length=x.ws.length/\x.left.length=x.ws.length:=by
 rw[h.so,h.lf];simp[wl]
def spPut (C:Addr):Sp:=fun vs H Q _=>∃ (p:Addr) (x:Tly) (l:Int) (o:Option Int),vs=[.ref p,.int l,wv o]/\Tal C H p x/\¬ l∈x.T/\¬ -l∈x.T/\x.ws.length<=16700000/\x.qs.length<16700000 /\
 ∀ (pt:Addr) (x':Tly) (H':Hp),Tal C H' p x'->Fr p x x' H H'->x'.ws=x.ws->x'.qs=x.qs++[(pt,l,o)]->x'.at_=x.at_->x'.M=x.M->Q .non H'
theorem x6q {p:Addr}{x:Tly}:foot p x x.ad:=.inr (.inr (.inr (.inl rfl)))
theorem x1o {p:Addr}{x:Tly}:foot p x x.at_:=.inr (.inr (.inl rfl))
section
variable {P:Program}{w:World}{K:W.Frag}{mg:Str->Option Value}{base:Heap}{C:Addr}
theorem w2h (T:TallyCls K mg C)(m_count_letter:MCal P w K mg base 2 C "count_letter" z0y (y1p C))(Df:MDef K C "put" "Tally.put" z3m z2q):MCal P w K mg base 3 C "put" z2q (spPut C):=by
 refine Df.cal y6o (fun vs H Q E h=>?_) (fun f cdv A outer s H vs Q E hr h=>?_)
 ·obtain⟨p,x,l,o,rfl,_⟩:=h;rfl
 ·obtain⟨p,x,l,o,rfl,hx,hl,hnl,hz,hq,q⟩:=h
  have hu:=hu_of hr
  have cl:=T.cl
  refine⟨_,(z0b (z0z (pe_bm PySem.F.plainAttrs_list PySem.F.slot_list_append PySem.F.type_list_append z1f (z1n (pv 0) rfl) (z0a (z5c (z0a (pv 1) (z0a (pv 2) z0d))) z0d)))
 (z0b (y5a hu (z1n (pv 0) rfl) (pv 1) pe_bl rfl)
 (z0e (z0z (z6s m_count_letter cl hr (by decide) (pv 0) (z0a (pv 1) (z0a z0i z0d))))))),?_⟩
  obtain⟨dx,ob⟩:=hx.ty.ob
  have hTl:x.T.length<16700000:=by rw[hx.T];simpa[lets] using hq
  refine⟨_,rfl,p,C,dx,_,_,rfl,ob,T.cl,T.n2,z8q x,.inl ⟨rfl,_,qLo hx.ty.ht⟩,_,rfl,_,rfl,len2,fun pt hpt=>⟨x.at_,_,_,rfl,rfl,by rw[z0h (z0f hx.ty.ht hpt)];exact hx.ty.ht,z2r (by rw[z5l];omega),?_⟩⟩
  have s1:Same H (upd H pt (.tup [.int l,wv o])):=(smR H).upd hpt
  have h1:=hx.ty.same s1
  have hp1:upd H pt (.tup [.int l,wv o]) pt=some (.tup [.int l,wv o]):=z0c
  have fr1:Fr p x x H (upd H pt (.tup [.int l,wv o])):=Fr.same s1
  generalize upd H pt (.tup [.int l,wv o])=H1 at s1 h1 hp1 fr1
  have er:refs x.qs++[V.ref pt]=refs (x.qs++[(pt,l,o)]):=by simp[refs]
  dsimp only
  rw[er]
  have h2:=h1.setQ (qs':=x.qs++[(pt,l,o)]) (h1.to.snoc hp1)
  have fr2:Fr p x { x with qs:=x.qs++[(pt,l,o)] } H (upd H1 x.at_ (.lst (refs (x.qs++[(pt,l,o)])))):=fr1.trans (z5z x1o fun _ h=>.inl h)
  generalize upd H1 x.at_ (.lst (refs (x.qs++[(pt,l,o)])))=H2 at h2 fr2
  obtain⟨dy,oy⟩:=h2.ob
  refine⟨_,rfl,p,C,dy,_,_,rfl,oy,T.cl,T.n3,z5n _,_,rfl,x.ad,_,rfl,DPut.k (k:=Sum.inl l) h2.hd (z2r (by rw[x1i];show x.T.length<=_;omega)),?_⟩
  rw[x0v]
  have eT:onceF x.T l=x.T++[l]:=by unfold onceF;rw[if_neg hl]
  have eT':onceF ({ x with qs:=x.qs++[(pt,l,o)] }:Tly).T l=x.T++[l]:=eT
  rw[eT']
  have h3:=h2.setT (x.T++[l])
  have fr3:Fr p x { x with qs:=x.qs++[(pt,l,o)],T:=x.T++[l] } H (upd H2 x.ad (.dK (mk (x.T++[l])))):=fr2.trans (z5z x6q fun _ h=>.inl h)
  generalize upd H2 x.ad (.dK (mk (x.T++[l])))=H3 at h3 fr3
  obtain⟨dz,oz⟩:=h3.ob
  have noC:(flds { x with qs:=x.qs++[(pt,l,o)],T:=x.T++[l] }).lookup ("count_letter" : Str)=none:=fl_nx _ (by decide +kernel)
  obtain⟨e1,e2⟩:=hx.lens
  have eso:addAt x.so (idxs (wl x.ws) l) 1=(wl x.ws).map fun v=>(soN v (x.T++[l]):Int):=by
   rw[hx.so]
   refine y0b fun v=>?_
   rw[x0q hl]
   split<;>simp
  have elf:addAt x.left (idxs (wl x.ws) (-l)) (-1)=(wl x.ws).map fun v=>(leftN v (x.T++[l]):Int):=by
   rw[hx.lf]
   refine y0b fun v=>?_
   have:=y4a (v:=v) (T:=x.T) (x:=l) hl
   split<;>simp_all<;>omega
  refine⟨_,rfl,p,dz,_,rfl,oz,noC,_,rfl,p,_,l,1,rfl,.inl rfl,h3,hx.fg,by show x.left.length=x.so.length;omega,by show x.so.length<=_;omega,fun y i hi=>?_,fun y=>?_,fun F' G' H' h4 fr4 fg4=>?_⟩
  ·have hi':i∈ilook x.M y:=hi
   rw[hx.pl y]at hi'
   have:=(in_idxs.mp hi').1
   rw[z1h]at this
   show i<x.so.length
   omega
  ·show (ilook x.M y).Nodup
   rw[hx.pl y];exact x6g _ _
  ·refine q pt _ H' ⟨h4,?_,hx.pl,?_,?_,fg4,hx.dis.snoc hl hnl,hx.ne⟩ (fr3.trans fr4) rfl rfl rfl rfl
   ·show x.T++[l]=lets (x.qs++[(pt,l,o)])
    rw[hx.T];simp[lets]
   ·show addAt x.so (ilook x.M l) 1=_
    rw[hx.pl l];exact eso
   ·show addAt x.left (ilook x.M (-l)) (-1)=_
    rw[hx.pl (-l)];exact elf
end
theorem x6f (W:List (List Int))(v:List Int)(y:Int):idxs (W++[v]) y=idxs W y++(if y∈v then [W.length] else []):=by
 have h:(W++[v])[W.length]?=some v:=by simp
 have:=x6e h y
 rw[List.take_left,show (W++[v]).take (W.length+1)=W++[v] by rw[List.take_of_length_le (by simp)]]at this
 exact this
section
variable {C:Addr}{H:Hp}{p:Addr}{x:Tly}(h:TyAt C H p x)
include h
theorem TyAt.setW {ws':List Wr}(ho:WsOk H ws')(hn:∀ r∈ws',r.1≠x.aw/\r.1≠x.at_/\r.1≠x.aso/\r.1≠x.al/\∀ m∈x.M,r.1≠m.2.1):TyAt C (upd H x.aw (.lst (wrefs ws'))) p { x with ws:=ws' }:=by
 have k1:∀ {z:Addr} {kvs:List (Key×V)},H z=some (.dK kvs)->upd H x.aw (.lst (wrefs ws')) z=some (.dK kvs):=fun {z vs} e=>by rw[z0h (ne_of e h.hw (by intro q;cases q))];exact e
 have k2:∀ {z:Addr} {o:HO},z≠x.aw->H z=some o->upd H x.aw (.lst (wrefs ws')) z=some o:=fun n e=>by rw[z0h n];exact e
 obtain⟨dx,e⟩:=h.ob
 exact⟨⟨dx,k2 (h.p_ne h.hw (by intro a b c q;cases q)) e⟩,z0c,k2 h.nl.1.symm h.ht,k1 h.hd,k1 h.hp,h.hM.mono fun m hm=>by rw[k2 (h.nm m hm).1 (h.hM.ok m hm),h.hM.ok m hm],k2 h.nl.2.1.symm h.hs,k2 h.nl.2.2.1.symm h.hl,k1 h.hf,k1 h.hg,fun r hr=>k2 (hn r hr).1 (ho r hr),fun q hq=>k2 (h.t_ne h.hw (by intro a q;cases q) q hq) (h.to q hq),h.nl,h.nd,h.nm,hn⟩
theorem TyAt.addMp {n:Int}{i:Nat}{m:Mp}(hm:lookM x.M n=some m):TyAt C (upd H m.2.1 (.lst (iv m.2.2++[.int i]))) p { x with M:=addM x.M n i }:=by
 obtain⟨hm1,hm2⟩:=z4u hm
 have hmm:=h.hM.ok m hm1
 have k1:∀ {z:Addr} {kvs:List (Key×V)},H z=some (.dK kvs)->upd H m.2.1 (.lst (iv m.2.2++[.int i])) z=some (.dK kvs):=fun {z vs} e=>by rw[z0h (ne_of e hmm (by intro q;cases q))];exact e
 have k2:∀ {z:Addr} {o:HO},z≠m.2.1->H z=some o->upd H m.2.1 (.lst (iv m.2.2++[.int i])) z=some o:=fun n e=>by rw[z0h n];exact e
 obtain⟨n1,n2,n3,n4⟩:=h.nm m hm1
 have back:∀ m'∈addM x.M n i,∃ m0∈x.M,m'.2.1=m0.2.1:=fun m' hm'=>by
  obtain⟨m0,h0,rfl⟩:=List.mem_map.mp hm'
  exact⟨m0,h0,by split<;>rfl⟩
 obtain⟨dx,e⟩:=h.ob
 refine⟨⟨dx,k2 (h.p_ne hmm (by intro a b c q;cases q)) e⟩,k2 n1.symm h.hw,k2 n2.symm h.ht,k1 h.hd,?_,h.hM.add hm,k2 n3.symm h.hs,k2 n4.symm h.hl,k1 h.hf,k1 h.hg,fun r hr=>k2 ((h.nw r hr).2.2.2.2 m hm1) (h.wo r hr),fun q hq=>k2 (h.t_ne hmm (by intro a q;cases q) q hq) (h.to q hq),h.nl,h.nd,fun m' hm'=>?_,fun r hr=>?_⟩
 ·show upd H m.2.1 _ x.ap=some (.dK (mkvs (addM x.M n i)))
  rw[x8x];exact k1 h.hp
 ·obtain⟨m0,h0,e0⟩:=back m' hm'
  rw[e0];exact h.nm m0 h0
 ·obtain⟨a1,a2,a3,a4,a5⟩:=h.nw r hr
  refine⟨a1,a2,a3,a4,fun m' hm'=>?_⟩
  obtain⟨m0,h0,e0⟩:=back m' hm'
  rw[e0];exact a5 m0 h0
theorem TyAt.addFr {n:Int}{i:Nat}{m:Mp}{o:HO}(hm:lookM x.M n=some m):Fr p x { x with M:=addM x.M n i } H (upd H m.2.1 o):=by
 obtain⟨hm1,hm2⟩:=z4u hm
 refine z5z (y4e hm1) fun b hb=>.inl ?_
 rcases hb with e|e | e | e | e | e | e | e | e | ⟨m',hm',e⟩
 ·exact .inl e
 ·exact .inr (.inl e)
 ·exact .inr (.inr (.inl e))
 ·exact .inr (.inr (.inr (.inl e)))
 ·exact .inr (.inr (.inr (.inr (.inl e))))
 ·exact .inr (.inr (.inr (.inr (.inr (.inl e)))))
 ·exact .inr (.inr (.inr (.inr (.inr (.inr (.inl e))))))
 ·exact .inr (.inr (.inr (.inr (.inr (.inr (.inr (.inl e)))))))
 ·exact .inr (.inr (.inr (.inr (.inr (.inr (.inr (.inr (.inl e))))))))
 ·obtain⟨m0,h0,rfl⟩:=List.mem_map.mp hm'
  have e0:(if m0.1=n then (m0.1,m0.2.1,m0.2.2++[i]) else m0:Mp).2.1=m0.2.1:=by split<;>rfl
  rw[e,e0];exact y4e h0
theorem TyAt.newMp {n:Int}{i:Nat}{pe:Addr}(hm:lookM x.M n=none)(hpe:H pe=none):TyAt C (upd (upd (upd H pe (.lst [])) x.ap (.dK (mkvs x.M++[((Sum.inl n:Key),V.ref pe)]))) pe (.lst ([]++[.int i]))) p { x with M:=x.M++[(n,pe,[i])] }:=by
 have k:∀ {z:Addr} {o:HO},z≠x.ap->H z=some o->upd (upd (upd H pe (.lst [])) x.ap (.dK (mkvs x.M++[((Sum.inl n:Key),V.ref pe)]))) pe (.lst ([]++[.int i])) z=some o:=fun {z o} nz e=>by
  have n1:z≠pe:=z0f e hpe
  rw[z0h n1,z0h nz,z0h n1];exact e
 have kl:∀ {z:Addr} {vs:List V},H z=some (.lst vs)->z≠x.ap:=fun {z vs} e=>ne_of e h.hp (by intro q;cases q)
 have ne:∀ {z:Addr} {o:HO},H z=some o->z≠pe:=fun e=>z0f e hpe
 have nap:x.ap≠pe:=ne h.hp
 obtain⟨dx,e⟩:=h.ob
 refine⟨⟨dx,k (h.p_ne h.hp (by intro a b c q;cases q)) e⟩,k (kl h.hw) h.hw,k (kl h.ht) h.ht,k h.nd.1 h.hd,?_,?_,k (kl h.hs) h.hs,k (kl h.hl) h.hl,k h.nd.2.2.2.1.symm h.hf,k h.nd.2.2.2.2.1.symm h.hg,fun r hr=>k (kl (h.wo r hr)) (h.wo r hr),fun q hq=>k (h.t_ne h.hp (by intro a q;cases q) q hq) (h.to q hq),h.nl,h.nd,fun m' hm'=>?_,fun r hr=>?_⟩
 ·rw[z0h nap,z0c];simp[mkvs]
 ·exact MIs.new h.hM hm (fun m hm=>ne (h.hM.ok m hm)) (fun m hm=>by rw[k (kl (h.hM.ok m hm)) (h.hM.ok m hm),h.hM.ok m hm]) (by rw[z0c];rfl)
 ·rcases mApp hm' with z|z
  ·exact h.nm m' z
  ·have:m'=(n,pe,[i]):=by simpa using z
   rw[this];exact⟨(ne h.hw).symm,(ne h.ht).symm,(ne h.hs).symm,(ne h.hl).symm⟩
 ·obtain⟨a1,a2,a3,a4,a5⟩:=h.nw r hr
  refine⟨a1,a2,a3,a4,fun m' hm'=>?_⟩
  rcases mApp hm' with z|z
  ·exact a5 m' z
  ·have:m'=(n,pe,[i]):=by simpa using z
   rw[this];exact ne (h.wo r hr)
theorem TyAt.newFr {n:Int}{i:Nat}{pe:Addr}{o1 o2 o3:HO}(hpe:H pe=none):Fr p x { x with M:=x.M++[(n,pe,[i])] } H (upd (upd (upd H pe o1) x.ap o2) pe o3):=by
 refine⟨fun b o hb hf=>?_,fun b hb=>?_⟩
 ·have n1:b≠pe:=z0f hb hpe
  have n2:b≠x.ap:=fun z=>hf (.inr (.inr (.inr (.inr (.inl z)))))
  rw[z0h n1,z0h n2,z0h n1];exact hb
 ·rcases hb with e|e | e | e | e | e | e | e | e | ⟨m',hm',e⟩
  ·exact .inl (.inl e)
  ·exact .inl (.inr (.inl e))
  ·exact .inl (.inr (.inr (.inl e)))
  ·exact .inl (.inr (.inr (.inr (.inl e))))
  ·exact .inl (.inr (.inr (.inr (.inr (.inl e)))))
  ·exact .inl (.inr (.inr (.inr (.inr (.inr (.inl e))))))
  ·exact .inl (.inr (.inr (.inr (.inr (.inr (.inr (.inl e)))))))
  ·exact .inl (.inr (.inr (.inr (.inr (.inr (.inr (.inr (.inl e))))))))
  ·exact .inl (.inr (.inr (.inr (.inr (.inr (.inr (.inr (.inr (.inl e)))))))))
  ·rcases mApp hm' with z|z
   ·exact .inl (by rw[e];exact y4e z)
   ·have:m'=(n,pe,[i]):=by simpa using z
    exact .inr (by rw[e,this];exact hpe)
end
def x0l (C:Addr):Sp:=fun vs H Q _=>∃ (p a:Addr) (x:Tly) (v:List Int),vs=[.ref p,.ref a]/\Tal C H p x/\H a=some (.lst (v.map V.int))/\¬ foot p x a/\v.length<=100000/\x.ws.length<16700000/\x.M.length+v.length<=100000 /\
 ∀ (x':Tly) (H':Hp),Tal C H' p x'->Fr p x x' H H'->x'.ws=x.ws++[(a,v)]->x'.qs=x.qs->x'.at_=x.at_->x'.M.length<=x.M.length+v.length->Q .non H'
theorem rd_cb {r:List V->Hp->VK->Prop}{t:TA}{σ:L2.St}{H:Hp}{Q:VK}(h:t σ H fun vs H1=>r vs H1 Q):tCB r t σ H Q:=h
theorem x8o {p:Addr}{x:Tly}{M M':List Mp}{b:Addr}(h:foot p { x with M:=M' } b) (hs:∀ m'∈M',∃ m0∈M,m'.2.1=m0.2.1):foot p { x with M:=M } b:=by
 rcases h with e|e | e | e | e | e | e | e | e | ⟨m',hm',e⟩
 ·exact .inl e
 ·exact .inr (.inl e)
 ·exact .inr (.inr (.inl e))
 ·exact .inr (.inr (.inr (.inl e)))
 ·exact .inr (.inr (.inr (.inr (.inl e))))
 ·exact .inr (.inr (.inr (.inr (.inr (.inl e)))))
 ·exact .inr (.inr (.inr (.inr (.inr (.inr (.inl e))))))
 ·exact .inr (.inr (.inr (.inr (.inr (.inr (.inr (.inl e)))))))
 ·exact .inr (.inr (.inr (.inr (.inr (.inr (.inr (.inr (.inl e))))))))
 ·obtain⟨m0,h0,e0⟩:=hs m' hm'
  exact .inr (.inr (.inr (.inr (.inr (.inr (.inr (.inr (.inr ⟨m0,h0,by rw[e,e0]⟩))))))))
theorem x6p {p:Addr}{x:Tly}:foot p x x.aw:=.inr (.inl rfl)
section
variable {P:Program}{w:World}{K:W.Frag}{mg:Str->Option Value}{base:Heap}{C:Addr}
theorem y9e (B:Blt mg)(T:TallyCls K mg C)(m_sort_in:MCal P w K mg base 1 C "sort_in" z1i (x0k C))(c_each_once:Cal P w K mg base 2 "each_once" z3p (x0n K))(Df:MDef K C "put_wish" "Tally.put_wish" z1k z1e):MCal P w K mg base 3 C "put_wish" z1e (x0l C):=by
 refine Df.cal sc_Tally_put_wish (fun vs H Q E h=>?_) (fun f cdv A outer s H vs Q E hr h=>?_)
 ·obtain⟨p,a,x,v,rfl,_⟩:=h;rfl
 ·obtain⟨p,a,x,v,rfl,hx,ha,hna,hv,hz,hMz,q⟩:=h
  have hu:=hu_of hr
  have cl:=T.cl
  refine⟨_,(z0b (z0t (i:=2) sc_Tally_put_wish.nd rfl (Or.inl rfl) (z0n z0l (by rfl) B.len_ PySem.boot_len (z0a (z1n (pv 0) rfl) z0d)))
 (z0b (z0t (i:=3) sc_Tally_put_wish.nd rfl (Or.inl rfl) (z0v c_each_once hr (by decide) (z0a (pv 1) z0d)))
 (z0b (z0z (pe_bm PySem.F.plainAttrs_list PySem.F.slot_list_append PySem.F.type_list_append z1f (z1n (pv 0) rfl) (z0a (pv 1) z0d)))
 (z0b (z0z (pe_bm PySem.F.plainAttrs_list PySem.F.slot_list_append PySem.F.type_list_append z1f (z1n (pv 0) rfl) (z0a (z0n z0l (by rfl) B.len_ PySem.boot_len (z0a (z4p (fvn:=["self"]) (js:=[0]) rfl (z1d (pv 3)) (.cons rfl (by first | exact .inl rfl | exact .inr rfl) rfl .nil) ⟨by decide +kernel,rfl,by decide +kernel,rfl,by decide +kernel,by decide +kernel⟩ (fun _ _ _ _ _=>(z5j (z9m (x1b hu (pv 0) (y9a (K:=K) rfl (pv 1) rfl))))) (fun _ _ _ _ _=>(pv 0))) z0d)) z0d)))
 (z0b (z0z (pe_bm PySem.F.plainAttrs_list PySem.F.slot_list_append PySem.F.type_list_append z1f (z1n (pv 0) rfl) (z0a (z0n z0l (by rfl) B.len_ PySem.boot_len (z0a (z4p (fvn:=["self"]) (js:=[0]) rfl (z1d (pv 3)) (.cons rfl (by first | exact .inl rfl | exact .inr rfl) rfl .nil) ⟨by decide +kernel,rfl,by decide +kernel,rfl,by decide +kernel,by decide +kernel⟩ (fun _ _ _ _ _=>(z5j (z9m (z6t hu (pe_un z1z (pv 0)) (y9a (K:=K) rfl (pv 1) rfl))))) (fun _ _ _ _ _=>(pv 0))) z0d)) z0d)))
 (z0b (z3a PassesOwn.never rfl (z1d (pv 3)) (z1c (i:=4) sc_Tally_put_wish.nd rfl (Or.inl rfl))
 (z0e (z0z (pe_bm PySem.F.plainAttrs_list PySem.F.slot_list_append PySem.F.type_list_append z1f (x2m (z1n (pv 0) rfl) (pv 4) (z1g z0d) ⟨rfl,rfl,rfl,rfl⟩) (z0a (pv 2) z0d)))))
 (z0e (z0z (z6s m_sort_in cl hr (by decide) (pv 0) (z0a (pv 2) z0d)))))))))),?_⟩
  obtain⟨dx,ob⟩:=hx.ty.ob
  have en:(wrefs x.ws).length=x.ws.length:=z0w _
  obtain⟨ls1,ls2⟩:=hx.lens
  refine⟨_,rfl,p,C,dx,_,_,rfl,ob,T.cl,T.n1,z9u x,x.aw,_,rfl,.inl (qLo hx.ty.hw),?_⟩
  refine⟨_,rfl,a,v,rfl,qLo ha,hv,fun lo H1 hlo s1 h1lo=>?_⟩
  have h1:=hx.ty.same s1
  have fr1:Fr p x x H H1:=Fr.same s1
  have nlo:¬ foot p x lo:=z4a hx.ty hlo
  have hv2:(once v).length<=100000:=by have:=z8l v;omega
  have h1a:=s1 _ _ ha
  have hne:∀ b,foot p x b->a≠b:=fun b hb e=>hna (e▸hb)
  obtain⟨dx1,ob1⟩:=h1.ob
  dsimp only[gName]
  rw[en]
  refine z7m (fun σ Hx=>σ=[some (.ref p),some (.ref a),some (.int x.ws.length),some (.ref lo),none]/\TyAt C Hx p { x with ws:=x.ws++[(a,v)] }/\Fr p x { x with ws:=x.ws++[(a,v)] } H Hx/\Hx lo=some (.lst ((once v).map V.int))) (fun N hN=>?_) ?_
  ·refine⟨_,rfl,p,C,dx1,_,_,rfl,ob1,T.cl,T.n1,z9u x,.inl ⟨rfl,_,qLo h1.hw⟩,_,rfl,x.aw,_,_,rfl,rfl,h1.hw,z2r (by omega),?_⟩
   have er:wrefs x.ws++[V.ref a]=wrefs (x.ws++[(a,v)]):=by simp[wrefs]
   dsimp only
   rw[er]
   refine hN _ _ ⟨rfl,h1.setW (fun r hr=>?_) (fun r hr=>?_),fr1.trans (z5z x6p fun _ h=>.inl h),?_⟩
   ·rcases mApp hr with z|z
    ·exact h1.wo r z
    ·have:r=(a,v):=by simpa using z
     rw[this];exact h1a
   ·rcases mApp hr with z|z
    ·exact h1.nw r z
    ·have:r=(a,v):=by simpa using z
     rw[this]
     exact⟨hne _ x6p,hne _ x1o,hne _ x1p,hne _ x1q,fun m hm=>hne _ (y4e hm)⟩
   ·rw[z0h (fun e=>nlo (by rw[e];exact x6p))];exact h1lo
  rintro σ H2 ⟨rfl,h2,fr2,h2lo⟩
  refine z7m (fun σ Hx=>σ=[some (.ref p),some (.ref a),some (.int x.ws.length),some (.ref lo),none]/\TyAt C Hx p { x with ws:=x.ws++[(a,v)],so:=x.so++[(soN v x.T:Int)] }/\Fr p x { x with ws:=x.ws++[(a,v)],so:=x.so++[(soN v x.T:Int)] } H Hx/\Hx lo=some (.lst ((once v).map V.int))) (fun N hN=>?_) ?_
  ·obtain⟨d2,ob2⟩:=h2.ob
   refine⟨_,rfl,p,C,d2,_,_,rfl,ob2,T.cl,T.n5,fl_so _,.inl ⟨rfl,_,qLo h2.hs⟩,?_⟩
   refine y4z (ta:=tCB _ _) (rd_cb (y4z (ta:=tComp _ _ _ _) (z1r (K:=K) ?_)))
   refine⟨_,rfl,lo,rfl,⟨_,qLo h2lo⟩,?_⟩
   refine z3q (xs:=once v) (g:=V.int) (fun n=>decide (n∈x.T)) V.int (z1m (by omega)) (qLo h2lo) (fun n _ R hR=>?_) (fun n _ _ R hR=>⟨_,rfl,hR⟩) (fun l2 hl2=>?_)
   ·refine⟨_,rfl,_,rfl,p,C,d2,_,_,rfl,ob2,T.cl,T.n3,z5n _,x.ad,_,rfl,DGet.k (k:=Sum.inl n) h2.hd,_,rfl,?_⟩
    rw[z7o];exact hR
   ·have s3:Same H2 (upd H2 l2 (.lst (((once v).filter fun n=>decide (n∈x.T)).map V.int))):=(smR H2).upd hl2
    have h3:=h2.same s3
    have h3l:upd H2 l2 (.lst (((once v).filter fun n=>decide (n∈x.T)).map V.int)) l2=some (.lst (((once v).filter fun n=>decide (n∈x.T)).map V.int)):=z0c
    have h3lo:=s3 _ _ h2lo
    have fr3:=fr2.trans (Fr.same (p:=p) (x:={ x with ws:=x.ws++[(a,v)] }) s3)
    generalize upd H2 l2 (.lst (((once v).filter fun n=>decide (n∈x.T)).map V.int))=H3 at s3 h3 h3l h3lo fr3
    refine⟨l2,_,rfl,.inl (qLo h3l),x.aso,_,_,rfl,rfl,h3.hs,z2r (by rw[List.length_map];show x.so.length<=_;omega),?_⟩
    have er:x.so.map V.int++[V.int ((((once v).filter fun n=>decide (n∈x.T)).map V.int).length:Nat)]=(x.so++[(soN v x.T:Int)]).map V.int:=by simp[soN]
    dsimp only
    rw[er]
    refine hN _ _ ⟨rfl,h3.setS _,fr3.trans (z5z x1p fun _ h=>.inl h),?_⟩
    rw[z0h (fun e=>nlo (by rw[e];exact x1p))];exact h3lo
  rintro σ H3 ⟨rfl,h3,fr3,h3lo⟩
  refine z7m (fun σ Hx=>σ=[some (.ref p),some (.ref a),some (.int x.ws.length),some (.ref lo),none]/\TyAt C Hx p { x with ws:=x.ws++[(a,v)],so:=x.so++[(soN v x.T:Int)],left:=x.left++[(leftN v x.T:Int)] }/\Fr p x { x with ws:=x.ws++[(a,v)],so:=x.so++[(soN v x.T:Int)],left:=x.left++[(leftN v x.T:Int)] } H Hx/\Hx lo=some (.lst ((once v).map V.int))) (fun N hN=>?_) ?_
  ·obtain⟨d3,ob3⟩:=h3.ob
   refine⟨_,rfl,p,C,d3,_,_,rfl,ob3,T.cl,T.n6,y0j _,.inl ⟨rfl,_,qLo h3.hl⟩,?_⟩
   refine y4z (ta:=tCB _ _) (rd_cb (y4z (ta:=tComp _ _ _ _) (z1r (K:=K) ?_)))
   refine⟨_,rfl,lo,rfl,⟨_,qLo h3lo⟩,?_⟩
   refine z3q (xs:=once v) (g:=V.int) (fun n=>!decide (-n∈x.T)) V.int (z1m (by omega)) (qLo h3lo) (fun n _ R hR=>?_) (fun n _ _ R hR=>⟨_,rfl,hR⟩) (fun l2 hl2=>?_)
   ·refine⟨_,rfl,n,rfl,_,rfl,p,C,d3,_,_,rfl,ob3,T.cl,T.n3,z5n _,x.ad,_,rfl,DGet.k (k:=Sum.inl (-n)) h3.hd,_,rfl,?_⟩
    rw[z7o];exact hR
   ·have s4:Same H3 (upd H3 l2 (.lst (((once v).filter fun n=>!decide (-n∈x.T)).map V.int))):=(smR H3).upd hl2
    have h4:=h3.same s4
    have h4l:upd H3 l2 (.lst (((once v).filter fun n=>!decide (-n∈x.T)).map V.int)) l2=some (.lst (((once v).filter fun n=>!decide (-n∈x.T)).map V.int)):=z0c
    have h4lo:=s4 _ _ h3lo
    have fr4:=fr3.trans (Fr.same (p:=p) (x:={ x with ws:=x.ws++[(a,v)],so:=x.so++[(soN v x.T:Int)] }) s4)
    generalize upd H3 l2 (.lst (((once v).filter fun n=>!decide (-n∈x.T)).map V.int))=H4 at s4 h4 h4l h4lo fr4
    refine⟨l2,_,rfl,.inl (qLo h4l),x.al,_,_,rfl,rfl,h4.hl,z2r (by rw[List.length_map];show x.left.length<=_;omega),?_⟩
    have er:x.left.map V.int++[V.int ((((once v).filter fun n=>!decide (-n∈x.T)).map V.int).length:Nat)]=(x.left++[(leftN v x.T:Int)]).map V.int:=by simp[leftN,z2c]
    dsimp only
    rw[er]
    refine hN _ _ ⟨rfl,h4.setL _,fr4.trans (z5z x1q fun _ h=>.inl h),?_⟩
    rw[z0h (fun e=>nlo (by rw[e];exact x1q))];exact h4lo
  rintro σ H4 ⟨rfl,h4,fr4,h4lo⟩
  refine z7m (fun σ Hx=>∃ (M':List Mp) (v5:Option V),σ=[some (.ref p),some (.ref a),some (.int x.ws.length),some (.ref lo),v5]/\TyAt C Hx p { x with ws:=x.ws++[(a,v)],so:=x.so++[(soN v x.T:Int)],left:=x.left++[(leftN v x.T:Int)],M:=M' }/\Fr p x { x with ws:=x.ws++[(a,v)],so:=x.so++[(soN v x.T:Int)],left:=x.left++[(leftN v x.T:Int)],M:=M' } H Hx /\
   (∀ y,ilook M' y=idxs (wl x.ws++[v]) y)/\M'.length<=x.M.length+v.length/\∀ m∈M',m.2.2≠[]) (fun N hN=>?_) ?_
  ·refine⟨_,rfl,lo,rfl,⟨_,qLo h4lo⟩,z2z (K:=K) (a:=lo) (xs:=(once v).map V.int) (fun j σ Hx=>∃ (M':List Mp) (v5:Option V),σ=[some (.ref p),some (.ref a),some (.int x.ws.length),some (.ref lo),v5]/\TyAt C Hx p { x with ws:=x.ws++[(a,v)],so:=x.so++[(soN v x.T:Int)],left:=x.left++[(leftN v x.T:Int)],M:=M' }/\Fr p x { x with ws:=x.ws++[(a,v)],so:=x.so++[(soN v x.T:Int)],left:=x.left++[(leftN v x.T:Int)],M:=M' } H Hx /\
    (∀ y,ilook M' y=idxs (wl x.ws) y++(if y∈(once v).take j then [x.ws.length] else []))/\M'.length<=x.M.length+j/\Hx lo=some (.lst ((once v).map V.int))/\(¬ foot p { x with M:=M' } lo)/\∀ m∈M',m.2.2≠[])
    ⟨x.M,none,rfl,h4,fr4,fun y=>by rw[hx.pl y];simp,by omega,h4lo,nlo,hx.ne⟩ (fun j σ Hx _ hh=>by
     obtain⟨_,_,_,_,_,_,_,e,_⟩:=hh
     exact qLo e) ?_ ?_⟩
   ·rintro j y σ H5 hj ⟨M5,v5,rfl,h5,fr5,hI5,hl5,h5lo,nlo5,ne5⟩
    obtain⟨n,hnj,rfl⟩:=getV hj
    have hjl:j<(once v).length:=(List.getElem?_eq_some_iff.mp hnj).1
    have hov:=z8l v
    have hnot:¬ n∈(once v).take j:=fun z=>by
     obtain⟨j',hj',e⟩:=List.mem_iff_getElem.mp z
     rw[List.getElem_take]at e
     have hj2:j'<j:=by simp at hj';omega
     have e2:(once v)[j]'hjl=n:=by rw[List.getElem?_eq_getElem hjl]at hnj;exact Option.some.inj hnj
     have:=(List.getElem_inj (h₀:=by omega) (h₁:=hjl) (y0h v)).mp (e.trans e2.symm)
     omega
    have htk:∀ y,y∈(once v).take (j+1)↔y∈(once v).take j∨y=n:=fun y=>by
     rw[List.take_add_one,hnj];simp
    have hil5:ilook M5 n=idxs (wl x.ws) n:=by rw[hI5 n,if_neg hnot];simp
    have hidl:(idxs (wl x.ws) n).length<=x.ws.length:=by
     unfold idxs
     have:=List.length_filter_le (fun i=>decide (n∈(wl x.ws).getD i [])) (List.range (wl x.ws).length)
     rw[List.length_range]at this
     have e:=z1h x.ws
     omega
    have grow:∀ M6:List Mp,(∀ y,ilook M6 y=if y=n then ilook M5 n++[x.ws.length] else ilook M5 y)->∀ y,ilook M6 y=idxs (wl x.ws) y++(if y∈(once v).take (j+1) then [x.ws.length] else []):=fun M6 h6 y=>by
     rw[h6 y]
     by_cases e:y=n
     ·subst e
      rw[if_pos rfl,hil5,if_pos ((htk y).mpr (.inr rfl))]
     ·rw[if_neg e,hI5 y]
      congr 1
      by_cases z:y∈(once v).take j
      ·rw[if_pos z,if_pos ((htk y).mpr (.inl z))]
      ·rw[if_neg z,if_neg (fun q=>(htk y).mp q |>.elim z e)]
    obtain⟨d5,ob5⟩:=h5.ob
    have h5d:H5 x.ap=some (.dK (mkvs M5)):=h5.hp
    refine⟨_,rfl,p,C,d5,_,_,rfl,ob5,T.cl,T.n4,y3b _,x.ap,rfl,.inl ⟨_,.inl h5d⟩,_,rfl,by decide,fun pe hpe=>?_⟩
    have npe:x.ap≠pe:=z0f h5d hpe
    have npl:lo≠pe:=z0f h5lo hpe
    refine⟨mkvs M5,Sum.inl n,by rw[z0h npe];exact h5d,rfl,z2r (by simp[mkvs];omega),fun u hu=>?_,fun hu=>?_⟩
    ·rw[z9j]at hu
     cases hlk:lookM M5 n with
     | none=>rw[hlk]at hu;cases hu
     | some m =>
      rw[hlk]at hu
      have ev:u=.ref m.2.1:=(Option.some.inj hu).symm
      subst ev
      obtain⟨hm1,hm2⟩:=z4u hlk
      have s6:Same H5 (upd H5 pe (.lst [])):=(smR H5).upd hpe
      have h6:=h5.same s6
      have h6lo:=s6 _ _ h5lo
      have fr6:=fr5.trans (Fr.same (p:=p) s6)
      generalize upd H5 pe (.lst [])=H6 at s6 h6 h6lo fr6
      have hmm:H6 m.2.1=some (.lst (iv m.2.2)):=h6.hM.ok m hm1
      have eil:ilook M5 n=m.2.2:=by unfold ilook;rw[hlk]
      refine⟨.inl ⟨rfl,_,qLo hmm⟩,_,rfl,m.2.1,_,_,rfl,rfl,hmm,z2r (by simp[iv];rw[←eil,hil5];omega),?_⟩
      have nlm:lo≠m.2.1:=fun e=>nlo5 (by rw[e];exact y4e (x:={ x with M:=M5 }) hm1)
      have back:∀ m'∈addM M5 n x.ws.length,∃ m0∈M5,m'.2.1=m0.2.1:=fun m' hm'=>by
       obtain⟨m0,h0,rfl⟩:=List.mem_map.mp hm'
       exact⟨m0,h0,by split<;>rfl⟩
      refine⟨addM M5 n x.ws.length,_,rfl,h6.addMp (i:=x.ws.length) hlk,fr6.trans (h6.addFr hlk),grow _ (fun y=>x3m hlk y),by unfold addM;rw[List.length_map];omega,by rw[z0h nlm];exact h6lo,?_,fun m' hm'=>by
       obtain⟨m0,h0,rfl⟩:=List.mem_map.mp hm'
       split
       ·simp
       ·exact ne5 m0 h0⟩
      exact fun hf=>nlo5 (x8o hf fun m' hm'=>by
       obtain⟨m0,h0,e0⟩:=back m' hm'
       exact⟨m0,h0,e0⟩)
    ·rw[z9j]at hu
     have hlk:lookM M5 n=none:=by
      cases hlk:lookM M5 n with
      | none=>rfl
      | some m=>rw[hlk]at hu;cases hu
     have hnk:valV (mkvs M5) (Sum.inl n:Key)=none:=by rw[z9j,hlk];rfl
     rw[x7p _ hnk]
     have hpe6:upd (upd H5 pe (.lst [])) x.ap (.dK (mkvs M5++[((Sum.inl n:Key),V.ref pe)])) pe=some (.lst []):=by rw[z0h npe.symm,z0c]
     refine⟨.inl ⟨rfl,_,qLo hpe6⟩,_,rfl,pe,_,_,rfl,rfl,hpe6,by decide,?_⟩
     have nla:lo≠x.ap:=ne_of h5lo h5d (by intro z;cases z)
     refine⟨M5++[(n,pe,[x.ws.length])],_,rfl,h5.newMp (i:=x.ws.length) hlk hpe,fr5.trans (h5.newFr hpe),grow _ (fun y=>x2x hlk y),by simp;omega,by rw[z0h npl,z0h nla,z0h npl];exact h5lo,?_,fun m' hm'=>by
      rcases mApp hm' with z|z
      ·exact ne5 m' z
      ·have:m'=(n,pe,[x.ws.length]):=by simpa using z
       rw[this];simp⟩
     rintro (e|e | e | e | e | e | e | e | e | ⟨m',hm',e⟩)
     ·exact nlo5 (.inl e)
     ·exact nlo5 (.inr (.inl e))
     ·exact nlo5 (.inr (.inr (.inl e)))
     ·exact nlo5 (.inr (.inr (.inr (.inl e))))
     ·exact nlo5 (.inr (.inr (.inr (.inr (.inl e)))))
     ·exact nlo5 (.inr (.inr (.inr (.inr (.inr (.inl e))))))
     ·exact nlo5 (.inr (.inr (.inr (.inr (.inr (.inr (.inl e)))))))
     ·exact nlo5 (.inr (.inr (.inr (.inr (.inr (.inr (.inr (.inl e))))))))
     ·exact nlo5 (.inr (.inr (.inr (.inr (.inr (.inr (.inr (.inr (.inl e)))))))))
     ·rcases mApp hm' with z|z
      ·exact nlo5 (by rw[e];exact y4e (x:={ x with M:=M5 }) z)
      ·have:m'=(n,pe,[x.ws.length]):=by simpa using z
       exact npl (by rw[e,this])
   ·rintro σ H5 ⟨M5,v5,rfl,h5,fr5,hI5,hl5,h5lo,nlo5,ne5⟩
    have hov:=z8l v
    refine hN _ _ ⟨M5,v5,rfl,h5,fr5,fun y=>?_,by rw[List.length_map]at hl5;omega,ne5⟩
    rw[hI5 y,x6f,z1h]
    congr 1
    have:y∈(once v).take ((once v).map V.int).length↔y∈v:=by simp[mem_once]
    by_cases e:y∈v
    ·rw[if_pos e,if_pos (this.mpr e)]
    ·rw[if_neg e,if_neg (fun z=>e (this.mp z))]
  rintro σ H5 ⟨M5,v5,rfl,h5,fr5,hI5,hl5,ne5⟩
  obtain⟨d5,ob5⟩:=h5.ob
  have noS:∀ y:Tly,(flds y).lookup ("sort_in" : Str)=none:=fun y=>fl_nx y (by decide +kernel)
  have g1:(x.so++[(soN v x.T:Int)])[x.ws.length]?=some (soN v x.T:Int):=by rw[←ls1];simp
  have g2:(x.left++[(leftN v x.T:Int)])[x.ws.length]?=some (leftN v x.T:Int):=by rw[←ls2];simp
  have oth:∀ (l:List Int) (u:Int) (k:Nat),l.length=x.ws.length->k≠x.ws.length->(l++[u])[k]?=l[k]?:=fun l u k hl hk=>by
   by_cases z:k<l.length
   ·rw[List.getElem?_append_left z]
   ·rw[List.getElem?_eq_none (by simp;omega),List.getElem?_eq_none (by omega)]
  have lF:=hx.fg.lenF
  have lG:=hx.fg.lenG
  refine⟨_,rfl,p,d5,_,rfl,ob5,noS _,_,rfl,p,_,x.ws.length,_,_,rfl,h5,g1,g2,by show x.F.length<=_;omega,by show x.G.length<=_;omega,hx.fg.fn,hx.fg.gn,fun F' G' H6 h6 fr6 nF nG mF mG=>?_⟩
  refine q _ H6 ⟨h6,hx.T,fun y=>?_,?_,?_,hx.fg.sort (i:=x.ws.length) (fun k hk=>oth _ _ k ls1 hk) (fun k hk=>oth _ _ k ls2 hk) nF nG (fun j=>?_) (fun j=>?_),hx.dis,ne5⟩ (fr5.trans fr6) rfl rfl rfl hl5
  ·show ilook M5 y=idxs (wl (x.ws++[(a,v)])) y
   rw[hI5 y];simp[wl]
  ·show x.so++[(soN v x.T:Int)]=(wl (x.ws++[(a,v)])).map fun v=>(soN v x.T:Int)
   rw[hx.so];simp[wl]
  ·show x.left++[(leftN v x.T:Int)]=(wl (x.ws++[(a,v)])).map fun v=>(leftN v x.T:Int)
   rw[hx.lf];simp[wl]
  ·rw[mF,g1,g2];simp
  ·rw[mG,g1,g2];simp
end
structure NwL (C dx p:Addr)(H0 H:Hp)(fs:List (Str×V))(L:List (Addr×HO)):Prop where
 sm:Same H0 H
 hp:H p=some (.ins C dx fs)
 p0:H0 p=none
 ok:∀ b∈L,H b.1=some b.2/\H0 b.1=none/\b.1≠p
 nd:(L.map (·.1)).Nodup
 len:fs.length<=L.length
theorem NwL.add {C dx p:Addr}{H0 H:Hp}{fs:List (Str×V)}{L:List (Addr×HO)}(h:NwL C dx p H0 H fs L)(f:Str){pe:Addr}{o:HO}(hpe:H pe=none):NwL C dx p H0 (upd (upd H pe o) p (.ins C dx (putF f (.ref pe) fs))) (putF f (.ref pe) fs) ((pe,o)::L):=by
 have n1:p≠pe:=z0f h.hp hpe
 have h0:=h.sm.free hpe
 refine⟨(h.sm.upd h0).upd h.p0,z0c,h.p0,fun b hb=>?_,?_,Nat.le_trans (z9g f (.ref pe) fs) (by have:=h.len;simp;omega)⟩
 ·rcases List.mem_cons.mp hb with z|z
  ·rw[z];exact⟨by rw[z0h n1.symm,z0c],h0,n1.symm⟩
  ·obtain⟨a1,a2,a3⟩:=h.ok b z
   exact⟨by rw[z0h a3,z0h (z0f a1 hpe)];exact a1,a2,a3⟩
 ·rw[List.map_cons]
  refine List.nodup_cons.mpr ⟨fun z=>?_,h.nd⟩
  obtain⟨b,hb,e⟩:=List.mem_map.mp z
  have:=(h.ok b hb).1
  rw[show b.1=pe from e,hpe]at this
  cases this
def x0m (K:W.Frag)(C:Addr):Sp:=fun vs H Q _=>∃ (p a dx:Addr) (H0:Hp) (ws:List Wr),vs=[.ref p,.ref a]/\NwL C dx p H0 H [] []/\SqL K H0 a (wrefs ws)/\WsOk H0 ws/\ws.length<=100000/\total (wl ws)<=100000 /\
 ∀ (x':Tly) (H':Hp),Tal C H' p x'->x'.ws=ws->x'.qs=[]->Same H0 H'->(∀ b,foot p x' b->H0 b=none)->x'.M.length<=total (wl ws)->Q .non H'
section
variable {P:Program}{w:World}{K:W.Frag}{mg:Str->Option Value}{base:Heap}{C:Addr}
theorem w0q (T:TallyCls K mg C)(m_put_wish:MCal P w K mg base 3 C "put_wish" z1e (x0l C))(Df:MDef K C "__init__" "Tally.__init__" z2x z2j):Made P w K mg base 4 "Tally" C z2j (x0m K C):=by
 have G:MCal P w K mg base 4 C "__init__" z2j (x0m K C):=by
  refine Df.cal sc_Tally_init (fun vs H Q E h=>?_) (fun f cdv A outer s H vs Q E hr h=>?_)
  ·obtain⟨p,a,dx,H0,ws,rfl,_⟩:=h;rfl
  ·obtain⟨p,a,dx,H0,ws,rfl,h0,hS,hW,hz,hz2,q⟩:=h
   have hu:=hu_of hr
   have cl:=T.cl
   refine⟨_,(z0b (y0u (pv 0) (z1g z0d) rfl)
 (z0b (y0u (pv 0) (z1g z0d) rfl)
 (z0b (y0u (pv 0) z9p rfl)
 (z0b (y0u (pv 0) z9p rfl)
 (z0b (y0u (pv 0) (z1g z0d) rfl)
 (z0b (y0u (pv 0) (z1g z0d) rfl)
 (z0b (y0u (pv 0) z9p rfl)
 (z0b (y0u (pv 0) z9p rfl)
 (z0e (z3a PassesOwn.never rfl (z1d (pv 1)) (z1c (i:=2) sc_Tally_init.nd rfl (Or.inl rfl))
 (z0e (z0z (z6s m_put_wish cl hr (by decide) (pv 0) (z0a (pv 2) z0d)))))))))))))),?_⟩
   refine rd_k fun N1 c1=>?_
   refine⟨by decide,fun a1 e1=>?_⟩
   have n1:p≠a1:=z0f h0.hp e1
   have k1:=h0.len
   refine⟨_,rfl,p,C,dx,_,rfl,by rw[z0h n1];exact h0.hp,T.cl,T.n1,Nat.lt_of_le_of_lt k1 (by simp),c1 _ _ ?_⟩
   have h1:=h0.add "wishes" (o:=.lst []) e1
   generalize upd (upd H a1 (.lst [])) p (.ins C dx (putF "wishes" (.ref a1) []))=H1 at h1
   refine rd_k fun N2 c2=>?_
   refine⟨by decide,fun a2 e2=>?_⟩
   have n2:p≠a2:=z0f h1.hp e2
   have k2:=h1.len
   refine⟨_,rfl,p,C,dx,_,rfl,by rw[z0h n2];exact h1.hp,T.cl,T.n2,Nat.lt_of_le_of_lt k2 (by simp),c2 _ _ ?_⟩
   have h2:=h1.add "trail" (o:=.lst []) e2
   generalize upd (upd H1 a2 (.lst [])) p (.ins C dx (putF "trail" (.ref a2) (putF "wishes" (.ref a1) [])))=H2 at h2
   refine rd_k fun N3 c3=>?_
   intro a3 e3
   have n3:p≠a3:=z0f h2.hp e3
   have k3:=h2.len
   refine⟨_,rfl,p,C,dx,_,rfl,by rw[z0h n3];exact h2.hp,T.cl,T.n3,Nat.lt_of_le_of_lt k3 (by simp),c3 _ _ ?_⟩
   have h3:=h2.add "taken" (o:=.dK []) e3
   generalize upd (upd H2 a3 (.dK [])) p (.ins C dx (putF "taken" (.ref a3) (putF "trail" (.ref a2) (putF "wishes" (.ref a1) []))))=H3 at h3
   refine rd_k fun N4 c4=>?_
   intro a4 e4
   have n4:p≠a4:=z0f h3.hp e4
   have k4:=h3.len
   refine⟨_,rfl,p,C,dx,_,rfl,by rw[z0h n4];exact h3.hp,T.cl,T.n4,Nat.lt_of_le_of_lt k4 (by simp),c4 _ _ ?_⟩
   have h4:=h3.add "places" (o:=.dK []) e4
   generalize upd (upd H3 a4 (.dK [])) p (.ins C dx (putF "places" (.ref a4) (putF "taken" (.ref a3) (putF "trail" (.ref a2) (putF "wishes" (.ref a1) [])))))=H4 at h4
   refine rd_k fun N5 c5=>?_
   refine⟨by decide,fun a5 e5=>?_⟩
   have n5:p≠a5:=z0f h4.hp e5
   have k5:=h4.len
   refine⟨_,rfl,p,C,dx,_,rfl,by rw[z0h n5];exact h4.hp,T.cl,T.n5,Nat.lt_of_le_of_lt k5 (by simp),c5 _ _ ?_⟩
   have h5:=h4.add "so" (o:=.lst []) e5
   generalize upd (upd H4 a5 (.lst [])) p (.ins C dx (putF "so" (.ref a5) (putF "places" (.ref a4) (putF "taken" (.ref a3) (putF "trail" (.ref a2) (putF "wishes" (.ref a1) []))))))=H5 at h5
   refine rd_k fun N6 c6=>?_
   refine⟨by decide,fun a6 e6=>?_⟩
   have n6:p≠a6:=z0f h5.hp e6
   have k6:=h5.len
   refine⟨_,rfl,p,C,dx,_,rfl,by rw[z0h n6];exact h5.hp,T.cl,T.n6,Nat.lt_of_le_of_lt k6 (by simp),c6 _ _ ?_⟩
   have h6:=h5.add "left" (o:=.lst []) e6
   generalize upd (upd H5 a6 (.lst [])) p (.ins C dx (putF "left" (.ref a6) (putF "so" (.ref a5) (putF "places" (.ref a4) (putF "taken" (.ref a3) (putF "trail" (.ref a2) (putF "wishes" (.ref a1) [])))))))=H6 at h6
   refine rd_k fun N7 c7=>?_
   intro a7 e7
   have n7:p≠a7:=z0f h6.hp e7
   have k7:=h6.len
   refine⟨_,rfl,p,C,dx,_,rfl,by rw[z0h n7];exact h6.hp,T.cl,T.n7,Nat.lt_of_le_of_lt k7 (by simp),c7 _ _ ?_⟩
   have h7:=h6.add "failing" (o:=.dK []) e7
   generalize upd (upd H6 a7 (.dK [])) p (.ins C dx (putF "failing" (.ref a7) (putF "left" (.ref a6) (putF "so" (.ref a5) (putF "places" (.ref a4) (putF "taken" (.ref a3) (putF "trail" (.ref a2) (putF "wishes" (.ref a1) []))))))))=H7 at h7
   refine rd_k fun N8 c8=>?_
   intro a8 e8
   have n8:p≠a8:=z0f h7.hp e8
   have k8:=h7.len
   refine⟨_,rfl,p,C,dx,_,rfl,by rw[z0h n8];exact h7.hp,T.cl,T.n8,Nat.lt_of_le_of_lt k8 (by simp),c8 _ _ ?_⟩
   have h8:=h7.add "forcing" (o:=.dK []) e8
   generalize upd (upd H7 a8 (.dK [])) p (.ins C dx (putF "forcing" (.ref a8) (putF "failing" (.ref a7) (putF "left" (.ref a6) (putF "so" (.ref a5) (putF "places" (.ref a4) (putF "taken" (.ref a3) (putF "trail" (.ref a2) (putF "wishes" (.ref a1) [])))))))))=H8 at h8
   have g1:=h8.ok (a1,.lst []) (by simp)
   have g2:=h8.ok (a2,.lst []) (by simp)
   have g3:=h8.ok (a3,.dK []) (by simp)
   have g4:=h8.ok (a4,.dK []) (by simp)
   have g5:=h8.ok (a5,.lst []) (by simp)
   have g6:=h8.ok (a6,.lst []) (by simp)
   have g7:=h8.ok (a7,.dK []) (by simp)
   have g8:=h8.ok (a8,.dK []) (by simp)
   have nd:=h8.nd
   simp only[List.map_cons,List.map_nil,List.nodup_cons,List.mem_cons,not_or]at nd
   obtain⟨⟨b87,b86,b85,b84,b83,b82,b81,_⟩,⟨b76,b75,b74,b73,b72,b71,_⟩,⟨b65,b64,b63,b62,b61,_⟩,⟨b54,b53,b52,b51,_⟩,⟨b43,b42,b41,_⟩,⟨b32,b31,_⟩,⟨b21,_⟩,_⟩:=nd
   have hT:Tal C H8 p ⟨a1,a2,a3,a4,a5,a6,a7,a8,[],[],[],[],[],[],[],[]⟩ :=
    ⟨⟨⟨dx,h8.hp⟩,g1.1,g2.1,g3.1,g4.1,⟨(fun m hm=>nomatch hm),List.nodup_nil,List.nodup_nil⟩,g5.1,g6.1,g7.1,g8.1,(fun _ h=>nomatch h),(fun _ h=>nomatch h),⟨Ne.symm b21,Ne.symm b51,Ne.symm b61,Ne.symm b52,Ne.symm b62,Ne.symm b65⟩,⟨Ne.symm b43,Ne.symm b73,Ne.symm b83,Ne.symm b74,Ne.symm b84,Ne.symm b87⟩,(fun _ h=>nomatch h),(fun _ h=>nomatch h)⟩,
      rfl,fun y=>rfl,rfl,rfl,⟨List.nodup_nil,List.nodup_nil,fun j=>⟨(fun h=>nomatch h),fun ⟨i,_,h,_⟩=>by simp at h⟩,fun j=>⟨(fun h=>nomatch h),fun ⟨i,_,h,_⟩=>by simp at h⟩⟩,fun k l hk=>by simp at hk,(fun _ h=>nomatch h)⟩
   have hF:∀ b,foot p ⟨a1,a2,a3,a4,a5,a6,a7,a8,[],[],[],[],[],[],[],[]⟩ b->H0 b=none:=by
    rintro b (e|e | e | e | e | e | e | e | e | ⟨m,hm,e⟩)
    ·rw[e];exact h8.p0
    ·rw[e];exact g1.2.1
    ·rw[e];exact g2.2.1
    ·rw[e];exact g3.2.1
    ·rw[e];exact g4.2.1
    ·rw[e];exact g5.2.1
    ·rw[e];exact g6.2.1
    ·rw[e];exact g7.2.1
    ·rw[e];exact g8.2.1
    ·cases hm
   have sm8:=h8.sm
   clear h1 h2 h3 h4 h5 h6 h7 h8
   have wl_i:∀ {i:Nat} {wr:Wr},ws[i]?=some wr->(wl ws)[i]?=some wr.2:=fun {i wr} h=>by unfold wl;rw[List.getElem?_map,h];rfl
   refine⟨_,rfl,a,rfl,⟨_,sm8.seq hS⟩,y2z (K:=K) (a:=a) (xs:=wrefs ws) (fun j σ Hx=>∃ (x:Tly) (v:Option V),σ=[some (.ref p),some (.ref a),v]/\Tal C Hx p x/\x.ws=ws.take j/\x.qs=[]/\Same H0 Hx/\(∀ b,foot p x b->H0 b=none)/\x.M.length<=total ((wl ws).take j))
    ⟨_,none,rfl,hT,by simp,rfl,sm8,hF,Nat.zero_le _⟩ (fun j σ Hx _ hh=>by
     obtain⟨_,_,_,_,_,_,e,_⟩:=hh
     exact e.seq hS) ?_ ?_⟩
   ·rintro j y σ Hx N0 B0 hj ⟨x,v,rfl,hx,ew,eq,sm,hf,hm⟩ hN0
    obtain⟨wr,hwj,rfl⟩:=x0g hj
    have hmem:=List.mem_of_getElem? hwj
    have hjl:j<ws.length:=(List.getElem?_eq_some_iff.mp hwj).1
    have t1:=x2e (wl_i hwj)
    have t2:=x7l (wl ws) (j+1)
    obtain⟨d,obx⟩:=hx.ty.ob
    have noP:(flds x).lookup ("put_wish" : Str)=none:=fl_nx x (by decide +kernel)
    refine⟨_,rfl,p,d,_,rfl,obx,noP,_,rfl,p,wr.1,x,wr.2,rfl,hx,sm _ _ (hW wr hmem),fun z=>?_,by omega,by rw[ew];simp;omega,by omega,fun x' H' hx' fr ew' eq' _ hm'=>hN0 _ _ ⟨x',_,rfl,hx',?_,by rw[eq',eq],?_,?_,by omega⟩⟩
    ·have:=hf _ z
     rw[hW wr hmem]at this;cases this
    ·rw[ew',ew,List.take_add_one,hwj];simp
    ·intro b o hb
     exact fr.out b o (sm b o hb) fun z=>by rw[hf b z]at hb;cases hb
    ·intro b hb
     rcases fr.inn b hb with z|z
     ·exact hf b z
     ·exact sm.free z
   ·rintro σ Hx ⟨x,v,rfl,hx,ew,eq,sm,hf,hm⟩
    rw[z0w]at ew hm
    rw[List.take_length]at ew
    rw[←z1h ws,List.take_length]at hm
    exact q x Hx hx ew eq sm hf hm
 obtain⟨f,fd,F,M,hb⟩:=G.ex
 exact⟨f,fd,F,⟨T.mks,M.at_,M.fn,T.kc⟩,hb,T.mgC⟩
end
theorem z8m {W:List (List Int)}{T:List Int}(h:z0s W T≠none):z1y W T=none:=by
 unfold z1y
 cases hb:z0s W T with
 | none=>exact absurd hb h
 | some i=>rfl
theorem y3z {W:List (List Int)}{T:List Int}(h:z0s W T=none)(h':oneAt W T=none):z1y W T=none:=by
 unfold z1y;rw[h,h']
theorem y7f {W:List (List Int)}{T:List Int}{i:Nat}(h:z0s W T=none)(h':oneAt W T=some i):∃ x,z1y W T=some (x,i):=by
 unfold z1y;rw[h,h'];exact⟨_,rfl⟩
abbrev Nw:=Addr×Int×Nat
def np (t:Nw):Pr:=(t.1,t.2.1,some (t.2.2:Int))
def nn (t:Nw):Int×Nat:=(t.2.1,t.2.2)
theorem y9u (qs rs:List Pr):lets (qs++rs)=lets qs++lets rs:=by simp[lets]
theorem tal_c {C:Addr}{H:Hp}{p:Addr}{x:Tly}(h:Tal C H p x)(c:Nat)(j:Int):(∃ i:Nat,j=(i:Int)/\x.so[i]?=some 0/\x.left[i]?=some (c:Int))↔∃ i:Nat,j=(i:Int)/\i<(wl x.ws).length/\cnt ((wl x.ws).getD i []) x.T=some c:=by
 constructor
 ·rintro⟨i,e,a,b⟩
  rw[h.so,List.getElem?_map]at a
  rw[h.lf,List.getElem?_map]at b
  cases hw:(wl x.ws)[i]? with
  | none=>rw[hw]at a;cases a
  | some v =>
   rw[hw]at a b
   have a':(soN v x.T:Int)=0:=Option.some.inj a
   have b':(leftN v x.T:Int)=c:=Option.some.inj b
   have hg:(wl x.ws).getD i []=v:=by simp[List.getD,hw]
   refine⟨i,e,(List.getElem?_eq_some_iff.mp hw).1,?_⟩
   rw[hg,y8e,if_pos (by omega)]
   congr 1;omega
 ·rintro⟨i,e,hi,hc⟩
  have hw:(wl x.ws)[i]?=some ((wl x.ws).getD i []):=by simp[hi]
  rw[y8e]at hc
  by_cases z:soN ((wl x.ws).getD i []) x.T=0
  ·rw[if_pos z]at hc
   have hc':=Option.some.inj hc
   refine⟨i,e,?_,?_⟩
   ·rw[h.so,List.getElem?_map,hw,Option.map_some,z];rfl
   ·rw[h.lf,List.getElem?_map,hw,Option.map_some,hc']
  ·rw[if_neg z]at hc;cases hc
theorem tal_F {C:Addr}{H:Hp}{p:Addr}{x:Tly}(h:Tal C H p x)(j:Int):j∈x.F↔∃ i:Nat,j=(i:Int)/\i<(wl x.ws).length/\cnt ((wl x.ws).getD i []) x.T=some 0:=(h.fg.f j).trans (tal_c h 0 j)
theorem tal_G {C:Addr}{H:Hp}{p:Addr}{x:Tly}(h:Tal C H p x)(j:Int):j∈x.G↔∃ i:Nat,j=(i:Int)/\i<(wl x.ws).length/\cnt ((wl x.ws).getD i []) x.T=some 1:=(h.fg.g j).trans (tal_c h 1 j)
theorem y0l {W:List (List Int)}{T:List Int}{c:Nat}{F:List Int}(h:∀ j,j∈F↔∃ i:Nat,j=(i:Int)/\i<W.length/\cnt (W.getD i []) T=some c):F=[]↔W.findIdx? (fun w=>decide (cnt w T=some c))=none:=by
 rw[List.findIdx?_eq_none_iff]
 constructor
 ·intro e w hw
  obtain⟨i,hi,rfl⟩:=List.mem_iff_getElem.mp hw
  refine decide_eq_false fun z=>?_
  have:(i:Int)∈F:=(h i).mpr ⟨i,rfl,hi,by simpa[hi] using z⟩
  rw[e]at this;cases this
 ·intro hn
  refine List.eq_nil_iff_forall_not_mem.mpr fun j hj=>?_
  obtain⟨i,e,hi,hc⟩:=(h j).mp hj
  have:=hn W[i] (List.getElem_mem hi)
  have hg:W.getD i []=W[i]:=by simp[hi]
  rw[hg]at hc
  rw[decide_eq_true hc]at this;cases this
theorem y7x {W:List (List Int)}{T:List Int}{c:Nat}{F:List Int}(h:∀ j,j∈F↔∃ i:Nat,j=(i:Int)/\i<W.length/\cnt (W.getD i []) T=some c){y:Int}(hy:y∈F)(hm:∀ z∈F,y<=z):∃ i:Nat,y=(i:Int)/\W.findIdx? (fun w=>decide (cnt w T=some c))=some i:=by
 obtain⟨i,e,hi,hc⟩:=(h y).mp hy
 refine⟨i,e,?_⟩
 rw[List.findIdx?_eq_some_iff_getElem]
 have hg:∀ k (hk:k<W.length),W.getD k []=W[k]:=fun k hk=>by simp[hk]
 refine⟨hi,?_,fun k hk=>?_⟩
 ·rw[hg i hi]at hc;exact decide_eq_true hc
 ·intro z
  have z':cnt W[k] T=some c:=of_decide_eq_true z
  have:(k:Int)∈F:=(h k).mpr ⟨k,rfl,by omega,by rw[hg k (by omega)];exact z'⟩
  have:=hm _ this
  omega
def x3y (C:Addr):Sp:=fun vs H Q _=>∃ (p:Addr) (x:Tly),vs=[.ref p]/\Tal C H p x/\x.qs.length+x.ws.length<=16695000/\(∀ r∈x.ws,r.2.length<=100000) /\
 ∀ (ts:List Nw) (x':Tly) (H':Hp),Tal C H' p x'->Fr p x x' H H'->x'.ws=x.ws->x'.qs=x.qs++ts.map np->x'.at_=x.at_->x'.M=x.M->Run (wl x.ws) x.T (ts.map nn)->Q .non H'
section
variable {P:Program}{w:World}{K:W.Frag}{mg:Str->Option Value}{base:Heap}{C:Addr}
theorem x7v (B:Blt mg)(T:TallyCls K mg C)(m_put:MCal P w K mg base 3 C "put" z2q (spPut C))(c_left_open:Cal P w K mg base 3 "left_open" z4b (x3w K))(Df:MDef K C "go_on" "Tally.go_on" z2h z2k):MCal P w K mg base 4 C "go_on" z2k (x3y C):=by
 refine Df.cal sc_Tally_go_on (fun vs H Q E h=>?_) (fun f cdv A outer s H vs Q E hr h=>?_)
 ·obtain⟨p,x,rfl,_⟩:=h;rfl
 ·obtain⟨p,x0,rfl,hx0,hz,hlen,q⟩:=h
  have hu:=hu_of hr
  have cl:=T.cl
  refine⟨_,(z0e (z7a PassesOwn.never (PW.pt (y0t (z6k (z1n (pv 0) rfl) (fun _=>rfl)) (z7v (z2y (z6k (z1n (pv 0) rfl) (fun _=>rfl))))))
 (z0b (z0t (i:=1) sc_Tally_go_on.nd rfl (Or.inl rfl) (z0n (x7d rfl) (by rfl) B.min_ x7g (z0a (z1n (pv 0) rfl) z0d)))
 (z0e (z0z (z6s m_put cl hr (by decide) (pv 0) (z0a (pe_ix ix_list (z0v c_left_open hr (by decide) (z0a (pe_ix ix_list (z1n (pv 0) rfl) (pv 1) (fun _ _=>rfl)) (z0a (z1n (pv 0) rfl) z0d))) z0i (fun _ _=>rfl)) (z0a (pv 1) z0d)))))))),?_⟩
  have noP:∀ y:Tly,(flds y).lookup ("put" : Str)=none:=fun y=>fl_nx y (by decide +kernel)
  refine⟨fun m σ Hx=>∃ (x:Tly) (ts:List Nw) (v:Option V),m=live (wl x0.ws) x.T/\σ=[some (.ref p),v]/\Tal C Hx p x/\Fr p x0 x H Hx/\x.ws=x0.ws/\x.qs=x0.qs++ts.map np/\x.at_=x0.at_/\x.M=x0.M /\
   (∀ r,Run (wl x0.ws) x.T r->Run (wl x0.ws) x0.T (ts.map nn++r))/\ts.length+live (wl x0.ws) x.T<=x0.ws.length,
   ⟨_,x0,[],none,rfl,rfl,hx0,Fr.refl _ _ _,rfl,by simp,rfl,rfl,fun r hr=>by simpa using hr,by have:=w0x (wl x0.ws) x0.T;rw[z1h]at this;simpa using this⟩,?_⟩
  rintro m σ Hx ⟨x,ts,v,rfl,rfl,hx,fr,ew,eq,ea,eM,hrun,hlive⟩
  obtain⟨d,ob⟩:=hx.ty.ob
  have stop:z1y (wl x0.ws) x.T=none->Q .non Hx:=fun hn=>by
   have:=hrun [] (Run.stop hn)
   rw[List.append_nil]at this
   exact q ts x Hx hx fr ew eq ea eM this
  have hF:=y0l (tal_F hx)
  have hG:=y0l (tal_G hx)
  rw[ew]at hF hG
  refine⟨_,rfl,p,C,d,_,_,rfl,ob,T.cl,T.n8,z8r _,_,.inr (.inr ⟨_,hx.ty.hg,rfl⟩),ite2 (fun c1=>?_) (fun c1=>?_)⟩
  ·have g0:x.G≠[]:=fun z=>by rw[z]at c1;cases c1
   refine⟨_,rfl,p,C,d,_,_,rfl,ob,T.cl,T.n7,z8s _,_,.inr (.inr ⟨_,hx.ty.hf,rfl⟩),ite2 (fun c2=>?_) (fun c2=>?_)⟩
   ·have f0:x.F=[]:=by
     cases hf:x.F with
     | nil=>rfl
     | cons u r=>rw[hf]at c2;cases c2
    have hb:z0s (wl x0.ws) x.T=none:=hF.mp f0
    refine⟨_,fun σ' H' h=>h,?_⟩
    refine⟨_,rfl,p,C,d,_,_,rfl,ob,T.cl,T.n8,z8r _,x.ao,_,x.G,rfl,.inl hx.ty.hg,by simp[mk],g0,fun y hy hmin=>?_⟩
    obtain⟨i,rfl,ho⟩:=y7x (tal_G hx) hy hmin
    rw[ew]at ho
    obtain⟨l,hn⟩:=y7f hb ho
    obtain⟨_,_,wx,hwi,hk,hox,hxw,hxT,hnxT⟩:=z8n hn
    obtain⟨wr,hwr,ewx⟩:∃ wr:Wr,x.ws[i]?=some wr/\wr.2=wx:=by
     rw[ew]
     unfold wl at hwi
     rw[List.getElem?_map]at hwi
     cases hx:x0.ws[i]? with
     | none=>rw[hx]at hwi;cases hwi
     | some wr=>rw[hx]at hwi;exact⟨wr,rfl,Option.some.inj hwi⟩
    subst ewx
    have hmem:=List.mem_of_getElem? hwr
    have hli:=w0w hn
    refine⟨_,rfl,p,d,_,rfl,ob,noP _,_,rfl,p,C,d,_,_,rfl,ob,T.cl,T.n1,z9u _,_,rfl,x.aw,_,_,_,rfl,rfl,qLo hx.ty.hw,z3z (v:=.ref wr.1) (by unfold wrefs;rw[List.getElem?_map,hwr];rfl),_,rfl,p,C,d,_,_,rfl,ob,T.cl,T.n3,z5n _,wr.1,x.ad,wr.2,x.T,rfl,qLo (hx.ty.wo wr hmem),hx.ty.hd,hlen wr (by rw[←ew];exact hmem),fun hk'=>?_,fun _ l7 H7 hl7 sm7 h7=>⟨l7,_,_,.int l,rfl,rfl,qLo h7,?_,?_⟩⟩
    ·rw[hk]at hk';cases hk'
    ·rw[hox];rfl
    refine⟨_,rfl,p,x,l,some (i:Int),rfl,hx.same sm7,hxT,hnxT,by rw[ew];omega,by rw[eq];simp;omega,fun pt x' H' hx' fr' ew' eq' ea' eM'=>?_⟩
    have eT:x'.T=x.T++[l]:=by rw[hx'.T,eq',y9u,←hx.T];rfl
    refine⟨live (wl x0.ws) x'.T,by rw[eT];exact hli,x',ts++[(pt,l,i)],_,rfl,rfl,hx',(fr.trans (Fr.same sm7)).trans fr',by rw[ew',ew],by rw[eq',eq];simp[np],by rw[ea',ea],by rw[eM',eM],fun r hr=>?_,by rw[eT];simp;omega⟩
    rw[eT]at hr
    have:=hrun _ (Run.step hn hr)
    simpa[nn] using this
   ·have f0:x.F≠[]:=fun z=>by rw[z]at c2;exact c2 rfl
    exact stop (z8m fun z=>f0 (hF.mpr z))
  ·have g0:x.G=[]:=by
    cases hg:x.G with
    | nil=>rfl
    | cons u r=>rw[hg]at c1;exact absurd rfl c1
   have ho:oneAt (wl x0.ws) x.T=none:=hG.mp g0
   refine iteF (stop ?_)
   cases hb:z0s (wl x0.ws) x.T with
   | none=>exact y3z hb ho
   | some i=>exact z8m (by rw[hb];simp)
end
def y1o (C:Addr):Sp:=fun vs H Q _=>∃ (p:Addr) (x:Tly),vs=[.ref p]/\Tal C H p x/\Q (cV (z0s (wl x.ws) x.T)) H
theorem x8r (T:List Int)(l:Int)(h:¬ l∈T):dropK (mk (T++[l])) (Sum.inl l:Key)=mk T:=by
 rw[y9z,List.filter_append]
 have e1:T.filter (fun z=>!decide (z=l))=T:=List.filter_eq_self.mpr fun z hz=>by
  have:z≠l:=fun q=>h (q▸hz)
  simp[this]
 rw[e1];simp
def spOff (C:Addr):Sp:=fun vs H Q _=>∃ (p:Addr) (x:Tly) (rs:List Pr) (t:Pr),vs=[.ref p]/\Tal C H p x/\x.qs=rs++[t]/\x.ws.length<=16700000 /\
 ∀ (x':Tly) (H':Hp),Tal C H' p x'->Fr p x x' H H'->x'.ws=x.ws->x'.qs=rs->x'.at_=x.at_->x'.M=x.M->Q (.ref t.1) H'
section
variable {P:Program}{w:World}{K:W.Frag}{mg:Str->Option Value}{base:Heap}{C:Addr}
theorem y2l (B:Blt mg)(T:TallyCls K mg C)(Df:MDef K C "first_broken" "Tally.first_broken" z1a z0x):MCal P w K mg base 1 C "first_broken" z0x (y1o C):=by
 refine Df.cal z7s (fun vs H Q E h=>?_) (fun f cdv A outer s H vs Q E hr h=>?_)
 ·obtain⟨p,x,rfl,_⟩:=h;rfl
 ·obtain⟨p,x,rfl,hx,q⟩:=h
  refine⟨_,(z0e (z0p (x7r rfl B.min_ (z1n (pv 0) rfl) z3d))),?_⟩
  obtain⟨d,ob⟩:=hx.ty.ob
  refine⟨_,rfl,p,C,d,_,_,rfl,ob,T.cl,T.n7,z8s x,x.af,_,x.F,rfl,.inl hx.ty.hf,by simp[mk],fun e=>?_,fun y hy hm=>?_⟩
  ·have:z0s (wl x.ws) x.T=none:=(y0l (tal_F hx)).mp e
   rw[this]at q;exact q
  ·obtain⟨i,rfl,ho⟩:=y7x (tal_F hx) hy hm
   have:z0s (wl x.ws) x.T=some i:=ho
   rw[this]at q;exact q
theorem y9d (T:TallyCls K mg C)(m_count_letter:MCal P w K mg base 2 C "count_letter" z0y (y1p C))(Df:MDef K C "take_off" "Tally.take_off" z1j z1l):MCal P w K mg base 3 C "take_off" z1l (spOff C):=by
 refine Df.cal sc_Tally_take_off (fun vs H Q E h=>?_) (fun f cdv A outer s H vs Q E hr h=>?_)
 ·obtain⟨p,x,rs,t,rfl,_⟩:=h;rfl
 ·obtain⟨p,x,rs,t,rfl,hx,eq,hz,q⟩:=h
  have hu:=hu_of hr
  have cl:=T.cl
  refine⟨_,(z0b (z0t (i:=1) sc_Tally_take_off.nd rfl (Or.inl rfl) (y6t PySem.F.plainAttrs_list PySem.F.slot_list_pop PySem.F.type_list_pop y7l (z1n (pv 0) rfl)))
 (z0b (z0z (x7u (z1n (pv 0) rfl) (pe_ix z8b (pv 1) z0i (fun _ _=>rfl)) ⟨rfl,rfl,rfl,rfl⟩))
 (z0b (z0z (z6s m_count_letter cl hr (by decide) (pv 0) (z0a (pe_ix z8b (pv 1) z0i (fun _ _=>rfl)) (z0a (pe_un z1z z0i) z0d))))
 (z0e (z0p (pv 1)))))),?_⟩
  obtain⟨d,ob⟩:=hx.ty.ob
  have eT:x.T=lets rs++[t.2.1]:=by rw[hx.T,eq];simp[lets]
  have hd:=hx.dis
  rw[eT]at hd
  obtain⟨hd0,hl,hnl⟩:=hd.init
  have ht:=hx.ty.ht
  have er:refs x.qs=refs rs++[V.ref t.1]:=by rw[eq];simp[refs]
  rw[er]at ht
  have htt:H t.1=some (.tup [.int t.2.1,wv t.2.2]):=hx.ty.to t (by rw[eq];simp)
  refine⟨_,rfl,p,C,d,_,_,rfl,ob,T.cl,T.n2,z8q x,.inl ⟨rfl,_,qLo ht⟩,?_⟩
  refine⟨x.at_,_,.ref t.1,rfl,rfl,ht,by simp,?_⟩
  have edl:(refs rs++[V.ref t.1]).dropLast=refs rs:=by simp
  dsimp only
  rw[edl]
  have h1:=hx.ty.setQ (qs':=rs) (fun q hq=>hx.ty.to q (by rw[eq];exact List.mem_append.mpr (.inl hq)))
  have fr1:Fr p x { x with qs:=rs } H (upd H x.at_ (.lst (refs rs))):=z5z x1o fun _ h=>.inl h
  have nta:t.1≠x.at_:=ne_of htt ht (by intro z;cases z)
  have htt1:upd H x.at_ (.lst (refs rs)) t.1=some (.tup [.int t.2.1,wv t.2.2]):=by rw[z0h nta];exact htt
  generalize upd H x.at_ (.lst (refs rs))=H1 at h1 fr1 htt1
  obtain⟨d1,ob1⟩:=h1.ob
  obtain⟨v,hval⟩:∃ v,valV (mk x.T) (Sum.inl t.2.1:Key)=some v:=by
   have:=z7o x.T t.2.1
   rw[decide_eq_true (show t.2.1∈x.T by rw[eT];simp)]at this
   exact Option.isSome_iff_exists.mp this
  refine⟨_,rfl,p,C,d1,_,_,rfl,ob1,T.cl,T.n3,z5n _,x.ad,rfl,.inl ⟨_,.inl h1.hd⟩,_,rfl,.inr (.inl ⟨t.1,_,_,_,rfl,rfl,qTo htt1,rfl,_,Sum.inl t.2.1,_,h1.hd,rfl,hval,?_⟩)⟩
  have edr:dropK (mk ({ x with qs:=rs }:Tly).T) (Sum.inl t.2.1:Key)=mk (lets rs):=by
   show dropK (mk x.T) _=_
   rw[eT];exact x8r _ _ hl
  rw[edr]
  have h2:=h1.setT (lets rs)
  have fr2:Fr p x { x with qs:=rs,T:=lets rs } H (upd H1 x.ad (.dK (mk (lets rs)))):=fr1.trans (z5z x6q fun _ h=>.inl h)
  have htt2:upd H1 x.ad (.dK (mk (lets rs))) t.1=some (.tup [.int t.2.1,wv t.2.2]):=by rw[z0h (ne_of htt1 h1.hd (by intro z;cases z))];exact htt1
  generalize upd H1 x.ad (.dK (mk (lets rs)))=H2 at h2 fr2 htt2
  obtain⟨d2,ob2⟩:=h2.ob
  have noC:(flds { x with qs:=rs,T:=lets rs }).lookup ("count_letter" : Str)=none:=fl_nx _ (by decide +kernel)
  obtain⟨e1,e2⟩:=hx.lens
  have eso:addAt x.so (idxs (wl x.ws) t.2.1) (-1)=(wl x.ws).map fun v=>(soN v (lets rs):Int):=by
   rw[hx.so,eT]
   refine y0b fun v=>?_
   have:=x0q (v:=v) (T:=lets rs) (x:=t.2.1) hl
   split<;>simp_all<;>omega
  have elf:addAt x.left (idxs (wl x.ws) (-t.2.1)) (- -1)=(wl x.ws).map fun v=>(leftN v (lets rs):Int):=by
   rw[hx.lf,eT]
   refine y0b fun v=>?_
   have:=y4a (v:=v) (T:=lets rs) (x:=t.2.1) hl
   split<;>simp_all<;>omega
  refine⟨_,rfl,p,d2,_,rfl,ob2,noC,_,rfl,.inr (.inl ⟨t.1,_,_,_,rfl,rfl,qTo htt2,rfl,1,rfl,p,_,t.2.1,-1,rfl,.inr rfl,h2,hx.fg,by show x.left.length=x.so.length;omega,by show x.so.length<=_;omega,fun y i hi=>?_,fun y=>?_,fun F' G' H' h4 fr4 fg4=>?_⟩)⟩
  ·have hi':i∈ilook x.M y:=hi
   rw[hx.pl y]at hi'
   have:=(in_idxs.mp hi').1
   rw[z1h]at this
   show i<x.so.length
   omega
  ·show (ilook x.M y).Nodup
   rw[hx.pl y];exact x6g _ _
  ·refine⟨_,rfl,q _ H' ⟨h4,rfl,hx.pl,?_,?_,fg4,hd0,hx.ne⟩ (fr2.trans fr4) rfl rfl rfl rfl⟩
   ·show addAt x.so (ilook x.M t.2.1) (-1)=_
    rw[hx.pl t.2.1];exact eso
   ·show addAt x.left (ilook x.M (-t.2.1)) (- -1)=_
    rw[hx.pl (-t.2.1)];exact elf
end
def y8p (C:Addr):Sp:=fun vs H Q _=>∃ (p:Addr) (x:Tly) (c:Nat),vs=[.int c,.ref p]/\Tal C H p x/\c<=100000/\∀ l H',H l=none->Same H H'->H' l=some (.lst ((List.range c).map fun (i:Nat)=>V.bl (decide ((1+(i:Int))∈x.T))))->Q (.ref l) H'
section
variable {P:Program}{w:World}{K:W.Frag}{mg:Str->Option Value}{base:Heap}{C:Addr}
theorem y5d (B:Blt mg)(T:TallyCls K mg C)(Df:Def K mg "setting_of" z2u z3n):Cal P w K mg base 1 "setting_of" z3n (y8p C):=by
 refine Df.cal y4y (fun vs H Q E h=>?_) (fun f cdv A outer s H vs Q E hr h=>?_)
 ·obtain⟨p,x,c,rfl,_⟩:=h;rfl
 ·obtain⟨p,x,c,rfl,hx,hz,q⟩:=h
  have hu:=hu_of hr
  refine⟨_,(z0e (z0p (z4p (fvn:=["tally"]) (js:=[1]) rfl (z7y (by rfl) B.range_ (z0a z0i (z0a (pe_op z6o (pv 0) z0i) z0d))) (.cons rfl (by first | exact .inl rfl | exact .inr rfl) rfl .nil) ⟨by decide +kernel,rfl,by decide +kernel,rfl,by decide +kernel,by decide +kernel⟩ (fun _ _ _ _ _=>z7w) (fun _ _ _ _ _=>(w2e (x1b hu (pv 0) (y9a (K:=K) rfl (pv 1) rfl))))))),?_⟩
  obtain⟨d,ob⟩:=hx.ty.ob
  refine⟨_,rfl,_,_,rfl,rfl,_,_,rfl,⟨by omega,by omega,by omega,by omega⟩,?_⟩
  have en:((c:Int)+1-1).toNat=c:=by omega
  rw[en]
  refine z6w (fun _=>true) (fun i=>V.bl (decide ((1+(i:Int))∈x.T))) (z1m (by omega)) (fun i hi R hR=>hR) (fun i hi _ R hR=>?_) (fun l hl=>?_)
  ·refine⟨_,rfl,_,rfl,p,C,d,_,_,rfl,ob,T.cl,T.n3,z5n _,x.ad,_,rfl,DGet.k (k:=Sum.inl (1+(i:Int))) hx.ty.hd,?_⟩
   rw[z7o];exact hR
  ·refine q l _ hl ((smR H).upd hl) ?_
   rw[z0c,z9v]
end
def absI (n:Int):Int:=if n<0 then -n else n
theorem z8p (x:Int)(ls:List Int):inV (.int x) (ls.map V.int)=decide (x∈ls):=by
 unfold inV
 rw[List.any_map,Bool.eq_iff_iff,List.any_eq_true]
 constructor
 ·rintro⟨y,hy,e⟩
  have e':(y==x)=true:=e
  rw[←eq_of_beq e'];exact decide_eq_true hy
 ·intro h
  exact⟨x,of_decide_eq_true h,by show (x==x)=true;simp⟩
theorem z1t (ls:List Int):(ls.map V.int).all flatV=true:=by
 rw[List.all_map];simp[Function.comp_def,flatV]
theorem if_in {x:Int}{ls:List Int}{A B:Prop}(h1:x∈ls->A)(h2:¬ x∈ls->B):if (if false=true then !inV (.int x) (ls.map V.int) else inV (.int x) (ls.map V.int))=true then A else B:=by
 rw[z8p,if_neg Bool.false_ne_true]
 exact ite2 (fun c=>h1 (of_decide_eq_true c)) fun c=>h2 fun z=>c (decide_eq_true z)
theorem z6p {x:Int}{ls:List Int}{A B:Prop}(h1:¬ x∈ls->A)(h2:x∈ls->B):if (if true=true then !inV (.int x) (ls.map V.int) else inV (.int x) (ls.map V.int))=true then A else B:=by
 rw[z8p,if_pos rfl]
 refine ite2 (fun c=>h1 ?_) fun c=>h2 ?_
 ·intro z;rw[decide_eq_true z]at c;cases c
 ·by_cases z:x∈ls
  ·exact z
  ·exact absurd (by rw[decide_eq_false z];rfl) c
def mrows (x:Int)(ns ms:List Int):List Int:=ns.filter (fun n=>!decide (n=x))++ms.filter (fun n=>!decide (n=-x))
def mostF (m n:Int):Int:=if absI n > m then absI n else m
def most (ns:List Int):Int:=ns.foldl mostF 0
theorem x5p (ns:List Int)(n:Int):most (ns++[n])=mostF (most ns) n:=by simp[most,List.foldl_append]
theorem x8g (m n:Int):m<=mostF m n/\-(mostF m n)<=n/\n<=mostF m n:=by unfold mostF absI;split<;>split at *<;>omega
theorem y9r:∀ (ns:List Int)(m:Int),m<=ns.foldl mostF m/\∀ n∈ns,-(ns.foldl mostF m)<=n/\n<=ns.foldl mostF m
 | [],m=>⟨Int.le_refl _,fun _ h=>nomatch h⟩
 | n::ns,m=>by
  obtain⟨h1,h2⟩:=y9r ns (mostF m n)
  obtain⟨g1,g2,g3⟩:=x8g m n
  refine⟨Int.le_trans g1 h1,fun k hk=>?_⟩
  rcases List.mem_cons.mp hk with rfl|hk
  ·exact⟨by simp only[List.foldl_cons];omega,by simp only[List.foldl_cons];omega⟩
  ·exact h2 k hk
theorem x5r {b:Int}:∀ (ns:List Int)(m:Int),m<=b->(∀ n∈ns,-b<=n/\n<=b)->ns.foldl mostF m<=b
 | [],_,h,_=>h
 | n::ns,m,h,h2=>x5r ns (mostF m n) (by have:=h2 n List.mem_cons_self;unfold mostF absI;split<;>split at *<;>omega) fun k hk=>h2 k (List.mem_cons_of_mem _ hk)
theorem x5q (ns:List Int):0<=most ns:=(y9r ns 0).1
def rise (ns:List Int):List Int:=((List.range (most ns+1-(0-most ns)).toNat).filter fun i:Nat=>decide (0-most ns+(i:Int)∈ns)).map fun i:Nat=>0-most ns+(i:Int)
theorem mem_rise {ns:List Int}{x:Int}:x∈rise ns↔x∈ns:=by
 unfold rise
 rw[List.mem_map]
 constructor
 ·rintro⟨i,hi,rfl⟩
  exact of_decide_eq_true (List.mem_filter.mp hi).2
 ·intro h
  have h0:=x5q ns
  have h1:=(y9r ns 0).2 x h
  have h1':-(most ns)<=x/\x<=most ns:=h1
  have e:0-most ns+(((x+most ns).toNat:Nat):Int)=x:=by omega
  refine⟨(x+most ns).toNat,List.mem_filter.mpr ⟨List.mem_range.mpr (by omega),?_⟩,e⟩
  apply decide_eq_true
  rw[e];exact h
theorem z6z (ns:List Int):y1c ns (rise ns):=by
 refine⟨?_,fun x=>mem_rise⟩
 unfold rise
 rw[List.pairwise_map]
 refine List.Pairwise.sublist List.filter_sublist ?_
 refine List.Pairwise.imp (fun {a b} h=>?_) (List.pairwise_lt_range)
 omega
theorem y1z:∀ {a b:List Int},a.Pairwise (· < ·)->b.Pairwise (· < ·)->(∀ x,x∈a↔x∈b)->a=b
 | [],[],_,_,_=>rfl
 | [],y::b,_,_,h=>absurd ((h y).mpr List.mem_cons_self) (fun z=>nomatch z)
 | x::a,[],_,_,h=>absurd ((h x).mp List.mem_cons_self) (fun z=>nomatch z)
 | x::a,y::b,ha,hb,h=>by
  obtain⟨ha1,ha2⟩:=List.pairwise_cons.mp ha
  obtain⟨hb1,hb2⟩:=List.pairwise_cons.mp hb
  have e:x=y:=by
   have h1:=(h x).mp List.mem_cons_self
   have h2:=(h y).mpr List.mem_cons_self
   rcases List.mem_cons.mp h1 with z|z
   ·exact z
   rcases List.mem_cons.mp h2 with z2|z2
   ·exact z2.symm
   have:=hb1 x z
   have:=ha1 y z2
   omega
  subst e
  congr 1
  refine y1z ha2 hb2 fun z=>⟨fun hz=>?_,fun hz=>?_⟩
  ·rcases List.mem_cons.mp ((h z).mp (List.mem_cons_of_mem _ hz)) with r|r
   ·have:=ha1 z hz;omega
   ·exact r
  ·rcases List.mem_cons.mp ((h z).mpr (List.mem_cons_of_mem _ hz)) with r|r
   ·have:=hb1 z hz;omega
   ·exact r
theorem y8x {ns a b:List Int}(ha:y1c ns a)(hb:y1c ns b):a=b:=y1z ha.1 hb.1 fun x=>(ha.2 x).trans (hb.2 x).symm
def mrg (x:Int)(ns ms:List Int):List Int:=rise (mrows x ns ms)
theorem x9k {x:Int}{ns ms zs:List Int}(h:y1c (ns.filter (fun n=>!decide (n=x))++ms.filter (fun n=>!decide (n=-x))) zs):zs=mrg x ns ms:=y8x h (z6z _)
theorem mem_mrows {x y:Int}{ns ms:List Int}:y∈mrows x ns ms↔(y∈ns/\y≠x)∨(y∈ms/\y≠-x):=by
 unfold mrows
 rw[List.mem_append,List.mem_filter,List.mem_filter]
 simp
theorem mem_mrg {x y:Int}{ns ms:List Int}:y∈mrg x ns ms↔(y∈ns/\y≠x)∨(y∈ms/\y≠-x):=mem_rise.trans mem_mrows
theorem y7m (x:Int)(ns ms:List Int):(mrows x ns ms).length<=ns.length+ms.length:=by
 unfold mrows
 rw[List.length_append]
 exact Nat.add_le_add (List.length_filter_le _ _) (List.length_filter_le _ _)
theorem y0c:∀ {a b:List Int},a.Pairwise (· < ·)->(∀ x∈a,x∈b)->a.length<=b.length
 | [],_,_,_=>Nat.zero_le _
 | x::a,b,ha,h=>by
  obtain⟨ha1,ha2⟩:=List.pairwise_cons.mp ha
  have hx:x∈b:=h x List.mem_cons_self
  have:=y0c (a:=a) (b:=b.erase x) ha2 fun y hy=>by
   have hne:y≠x:=by have:=ha1 y hy;omega
   exact (List.mem_erase_of_ne hne).mpr (h y (List.mem_cons_of_mem _ hy))
  rw[List.length_erase_of_mem hx]at this
  have hp:0<b.length:=List.length_pos_of_mem hx
  rw[List.length_cons];omega
theorem w0v (x:Int)(ns ms:List Int):(mrg x ns ms).length<=ns.length+ms.length:=Nat.le_trans (y0c (z6z _).1 fun y hy=>((z6z _).2 y).mp hy) (y7m x ns ms)
def spMrg (K:W.Frag):Sp:=fun vs H Q _=>∃ (a b:Addr) (x:Int) (ns ms:List Int),vs=[.ref a,.ref b,.int x]/\SqL K H a (ns.map V.int)/\SqL K H b (ms.map V.int)/\ns.length+ms.length<64/\x∈ns/\-x∈ms/\∀ l H',H l=none->Same H H'->H' l=some (.lst ((mrg x ns ms).map V.int))->Q (.ref l) H'
section
variable {P:Program}{w:World}{K:W.Frag}{mg:Str->Option Value}{base:Heap}
theorem y9f (B:Blt mg)(Df:Def K mg "merged" z5k z4o):Cal P w K mg base 1 "merged" z4o (spMrg K):=by
 refine Df.cal sc_merged (fun vs H Q E h=>?_) (fun f cdv A outer s H vs Q E hr h=>?_)
 ·obtain⟨a,b,x,ns,ms,rfl,_⟩:=h;rfl
 ·obtain⟨a,b,x,ns,ms,rfl,hS,hT,hz,hy,hy2,q2⟩:=h
  refine⟨_,z0b (ps_if (z0k z2l (pv 2) (pv 0) (by with_unfolding_all rfl)) (z0e x0x) z0o)
   (z0b (ps_if (z0k z2l (pe_un z1z (pv 2)) (pv 1) (by with_unfolding_all rfl)) (z0e x0x) z0o)
    (z0b (z9c (i:=3) sc_merged.nd rfl (Or.inl rfl) (fvn:=["lamp"]) (js:=[2]) rfl (z1d (pv 0)) (.cons rfl (by first | exact .inl rfl | exact .inr rfl) rfl .nil) ⟨by decide +kernel,rfl,by decide +kernel,rfl,by decide +kernel,by decide +kernel⟩ (fun _ _ _ _ _=>(z5j (z0k op_ne (pv 0) (pv 1) (z0q _)))) (fun _ _ _ _ _=>(pv 0)))
 (z0b (z9c (i:=4) sc_merged.nd rfl (Or.inl rfl) (fvn:=["lamp"]) (js:=[2]) rfl (z1d (pv 1)) (.cons rfl (by first | exact .inl rfl | exact .inr rfl) rfl .nil) ⟨by decide +kernel,rfl,by decide +kernel,rfl,by decide +kernel,by decide +kernel⟩ (fun _ _ _ _ _=>(z5j (z0k op_ne (pv 0) (pe_un z1z (pv 1)) (z0q _)))) (fun _ _ _ _ _=>(pv 0)))
 (z0e (z0p (y0v rfl B.sorted_ B.set_ (pe_op z7n (pv 3) (pv 4)))))))),?_⟩
  refine⟨_,rfl,_,rfl,a,_,rfl,.inl hS,rfl,z1t _,_,rfl,z6p (fun hn=>absurd hy hn) (fun _=>?_)⟩
  refine⟨_,rfl,x,rfl,_,rfl,b,_,rfl,.inl hT,rfl,z1t _,_,rfl,z6p (fun hn=>absurd hy2 hn) (fun _=>?_)⟩
  have ne1:∀ n y:Int,(!decide (V.int n=V.int y))=(!decide (n=y)):=fun n y=>by simp
  dsimp only[tNext]
  refine z7l (t:=tAsg (tComp _ _ _ _) _) (z7u (z1r (K:=K) ?_))
  refine⟨_,rfl,a,rfl,⟨_,hS⟩,?_⟩
  refine z3q (K:=K) (a:=a) (xs:=ns) (g:=V.int) (fun n=>!decide (n=x)) V.int (z1m (by omega)) hS (fun n _ R hR=>?_) (fun n _ _ R hR=>⟨_,rfl,hR⟩) (fun l1 hl1=>?_)
  ·refine⟨_,rfl,_,rfl,rfl,_,rfl,?_⟩
   rw[ne1]
   exact hR
  have sm1:Same H (upd H l1 (.lst ((ns.filter fun n=>!decide (n=x)).map V.int))):=(smR H).upd hl1
  have g1:upd H l1 (.lst ((ns.filter fun n=>!decide (n=x)).map V.int)) l1=some (.lst ((ns.filter fun n=>!decide (n=x)).map V.int)):=z0c
  generalize upd H l1 (.lst ((ns.filter fun n=>!decide (n=x)).map V.int))=H1 at sm1 g1
  dsimp only[gName]
  refine z7l (t:=tAsg (tComp _ _ _ _) _) (z7u (z1r (K:=K) ?_))
  refine⟨_,rfl,b,rfl,⟨_,sm1.seq hT⟩,?_⟩
  refine z3q (K:=K) (a:=b) (xs:=ms) (g:=V.int) (fun n=>!decide (n=-x)) V.int (z1m (by omega)) (sm1.seq hT) (fun n _ R hR=>?_) (fun n _ _ R hR=>⟨_,rfl,hR⟩) (fun l2 hl2=>?_)
  ·refine⟨_,rfl,_,rfl,_,rfl,rfl,_,rfl,?_⟩
   rw[ne1]
   exact hR
  have n12:l1≠l2:=z0f g1 hl2
  have sm2:Same H (upd H1 l2 (.lst ((ms.filter fun n=>!decide (n=-x)).map V.int))):=sm1.upd (sm1.free hl2)
  have g2:upd H1 l2 (.lst ((ms.filter fun n=>!decide (n=-x)).map V.int)) l2=some (.lst ((ms.filter fun n=>!decide (n=-x)).map V.int)):=z0c
  have g12:upd H1 l2 (.lst ((ms.filter fun n=>!decide (n=-x)).map V.int)) l1=some (.lst ((ns.filter fun n=>!decide (n=x)).map V.int)):=by rw[z0h n12];exact g1
  generalize upd H1 l2 (.lst ((ms.filter fun n=>!decide (n=-x)).map V.int))=H2 at sm2 g2 g12
  have f1:(ns.filter fun n=>!decide (n=x)).length<=ns.length:=List.length_filter_le _ _
  have f2:(ms.filter fun n=>!decide (n=-x)).length<=ms.length:=List.length_filter_le _ _
  refine⟨_,rfl,_,rfl,l1,l2,_,_,rfl,rfl,g12,g2,by have:=sizeLine_eq;simp only[List.length_map];omega,fun l3 hl3=>?_⟩
  refine⟨l3,ns.filter (fun n=>!decide (n=x))++ms.filter (fun n=>!decide (n=-x)),rfl,by rw[z0c];simp,by simp only[List.length_append];omega,fun l zs hl hR=>?_⟩
  have sm3:Same H (upd H2 l3 (.lst ((ns.filter fun n=>!decide (n=x)).map V.int++(ms.filter fun n=>!decide (n=-x)).map V.int))):=sm2.upd (sm2.free hl3)
  exact q2 l _ (sm3.free hl) (sm3.upd (sm3.free hl)) (by rw[z0c,x9k hR])
end
abbrev Stp:=Int×Int×Int×List Int
abbrev Sr:=Addr×Addr×Stp
def srefs (ss:List Sr):List V:=ss.map fun s=>V.ref s.1
def tupS (t:Stp)(m:Addr):HO:=.tup [.int t.1,.int t.2.1,.int t.2.2.1,.ref m]
def SsOk (H:Hp)(ss:List Sr):Prop:=∀ s∈ss,H s.1=some (tupS s.2.2 s.2.1)/\H s.2.1=some (.lst (s.2.2.2.2.2.map V.int))
def sls (ss:List Sr):List Stp:=ss.map fun s=>s.2.2
theorem SsOk.mono {H H':Hp}{ss:List Sr}(h:SsOk H ss)(e:Same H H'):SsOk H' ss:=fun s hs=>⟨e _ _ (h s hs).1,e _ _ (h s hs).2⟩
theorem SsOk.snoc {H:Hp}{ss:List Sr}{s:Sr}(h:SsOk H ss)(h1:H s.1=some (tupS s.2.2 s.2.1))(h2:H s.2.1=some (.lst (s.2.2.2.2.2.map V.int))):SsOk H (ss++[s]):=fun x hx=>by
 rcases mApp hx with z|z
 ·exact h x z
 ·have:x=s:=by simpa using z
  rw[this];exact⟨h1,h2⟩
theorem z4l (ss:List Sr):(srefs ss).length=ss.length:=by simp[srefs]
theorem z9a (ss:List Sr):(sls ss).length=ss.length:=by simp[sls]
theorem z5p (ss:List Sr)(s:Sr):srefs (ss++[s])=srefs ss++[.ref s.1]:=by simp[srefs]
theorem z8h (ss:List Sr)(s:Sr):sls (ss++[s])=sls ss++[s.2.2]:=by simp[sls]
theorem x3t {ss:List Sr}{i:Nat}{y:V}(h:(srefs ss)[i]?=some y):∃ q,ss[i]?=some q/\y=.ref q.1:=by
 obtain⟨q,h1,h2⟩:=getV (f:=fun p:Sr=>V.ref p.1) h
 exact⟨q,h1,h2⟩
abbrev Pd:=Int×Option Int
def stepB (W:List (List Int))(hand:Int)(wish:List Int)(l j:Int):Stp :=
 if 0<l then (j,hand,l,mrg l (W.getD j.toNat []) wish) else (hand,j,-l,mrg (-l) wish (W.getD j.toNat []))
def goB (W:List (List Int)):List Pd->Int->List Int->Int->List Pd×List Stp
 | [],_,_,_=>([],[])
 | (l,why)::r,hand,wish,n =>
  if -l∈wish then
   match why with
   | none=>((-l,some hand)::r,[])
   | some j=>((goB W r n (stepB W hand wish l j).2.2.2 (n+1)).1,stepB W hand wish l j::(goB W r n (stepB W hand wish l j).2.2.2 (n+1)).2)
  else goB W r hand wish n
theorem z6q {W:List (List Int)}{l:Int}{why:Option Int}{r:List Pd}{hand:Int}{wish:List Int}{n:Int}(c:¬ -l∈wish):goB W ((l,why)::r) hand wish n=goB W r hand wish n:=by
 cases why<;>rw[goB,if_neg c]
def Tv (W:List (List Int)):List Pd->Prop
 | []=>True
 | (l,why)::r=>l≠0/\(∀ j,why=some j->0<=j/\j<W.length/\l∈W.getD j.toNat []/\∀ y∈W.getD j.toNat [],y≠l->-y∈r.map (·.1))/\Tv W r
def Cov (wish:List Int)(r:List Pd):Prop:=∀ y∈wish,-y∈r.map (·.1)
theorem mem_stepB {W:List (List Int)}{hand:Int}{wish:List Int}{l j y:Int}:y∈(stepB W hand wish l j).2.2.2↔(y∈W.getD j.toNat []/\y≠l)∨(y∈wish/\y≠-l):=by
 unfold stepB
 split
 ·exact mem_mrg
 ·show y∈mrg (-l) wish (W.getD j.toNat [])↔_
  rw[mem_mrg,Int.neg_neg]
  exact Or.comm
theorem z7q (W:List (List Int))(hand:Int)(wish:List Int)(l j:Int):(stepB W hand wish l j).2.2.2.Pairwise (· < ·):=by
 unfold stepB
 split<;>exact (z6z _).1
theorem Cov.skip {wish:List Int}{r:List Pd}{l:Int}{why:Option Int}(h:Cov wish ((l,why)::r))(hn:¬ -l∈wish):Cov wish r:=fun y hy=>by
 rcases List.mem_cons.mp (h y hy) with z|z
 ·exact absurd (by rw[←(show -y=l from z),Int.neg_neg];exact hy) hn
 ·exact z
theorem Cov.step {W:List (List Int)}{wish:List Int}{r:List Pd}{l j hand:Int}(h:Cov wish ((l,some j)::r))(hj:∀ y∈W.getD j.toNat [],y≠l->-y∈r.map (·.1)):Cov (stepB W hand wish l j).2.2.2 r:=fun y hy=>by
 rcases mem_stepB.mp hy with ⟨z,n⟩|⟨z,n⟩
 ·exact hj y z n
 ·rcases List.mem_cons.mp (h y z) with e|e
  ·have e':-y=l:=e
   exact absurd (by omega) n
  ·exact e
theorem Cov.len {wish:List Int}{r:List Pd}(h:Cov wish r)(hs:wish.Pairwise (· < ·)):wish.length<=r.length:=by
 have:=y0c (b:=r.map fun p=>-p.1) hs fun y hy=>by
  obtain⟨p,hp,e⟩:=List.mem_map.mp (h y hy)
  exact List.mem_map.mpr ⟨p,hp,by rw[e,Int.neg_neg]⟩
 simpa using this
def z8z (W:List (List Int))(t:Stp):Prop:=0<=t.1/\t.1<W.length/\0<=t.2.1/\t.2.1<W.length/\1<=t.2.2.1/\t.2.2.1∈W.getD t.1.toNat []/\-t.2.2.1∈W.getD t.2.1.toNat []/\t.2.2.2=mrg t.2.2.1 (W.getD t.1.toNat []) (W.getD t.2.1.toNat [])
def z2t:List (List Int)->List Stp->Prop
 | _,[]=>True
 | W,t::ts=>z8z W t/\z2t (W++[t.2.2.2]) ts
theorem y2w {W V:List (List Int)}{j:Int}(h:j.toNat<W.length):(W++V).getD j.toNat []=W.getD j.toNat []:=by
 simp[List.getD,List.getElem?_append_left h]
theorem x2h {W V:List (List Int)}{hand:Int}{wish:List Int}{l j:Int}(h:j.toNat<W.length):stepB (W++V) hand wish l j=stepB W hand wish l j:=by
 unfold stepB
 rw[y2w h]
theorem y8o {W V:List (List Int)}{hand:Int}{wish:List Int}{l j:Int}(l0:l≠0)(j0:0<=j)(j1:j<W.length)(hl:l∈W.getD j.toNat [])(h0:0<=hand)(h1:hand<(W++V).length)(hw:(W++V).getD hand.toNat []=wish)(hm:-l∈wish) :
 z8z (W++V) (stepB W hand wish l j):=by
 have e:(W++V).getD j.toNat []=W.getD j.toNat []:=y2w (by omega)
 have ln:W.length<=(W++V).length:=by simp
 unfold stepB
 by_cases c:0<l
 ·rw[if_pos c]
  refine⟨j0,?_,h0,h1,?_,?_,?_,?_⟩
  ·show j<((W++V).length:Int);omega
  ·show 1<=l;omega
  ·show l∈(W++V).getD j.toNat [];rw[e];exact hl
  ·show -l∈(W++V).getD hand.toNat [];rw[hw];exact hm
  ·show mrg l (W.getD j.toNat []) wish=mrg l ((W++V).getD j.toNat []) ((W++V).getD hand.toNat []);rw[e,hw]
 ·rw[if_neg c]
  refine⟨h0,h1,j0,?_,?_,?_,?_,?_⟩
  ·show j<((W++V).length:Int);omega
  ·show 1<=-l;omega
  ·show -l∈(W++V).getD hand.toNat [];rw[hw];exact hm
  ·show - -l∈(W++V).getD j.toNat [];rw[e,Int.neg_neg];exact hl
  ·show mrg (-l) wish (W.getD j.toNat [])=mrg (-l) ((W++V).getD hand.toNat []) ((W++V).getD j.toNat []);rw[e,hw]
def z5w (hand n:Int):List Stp->Int
 | []=>hand
 | _::ts=>z5w n (n+1) ts
def z9h (wish:List Int):List Stp->List Int
 | []=>wish
 | t::ts=>z9h t.2.2.2 ts
structure Gone2 (r t:List Pd)(hand:Int)(wish:List Int):Prop where
 nil:t=[]->wish=[]
 cons:t≠[]->∃ r1 l r2,r=r1++(l,none)::r2/\t=(-l,some hand)::r2/\-l∈wish/\∀ y∈wish,y≠-l->-y∈r2.map (·.1)
theorem z9t (W:List (List Int)):∀ (r:List Pd)(V:List (List Int))(hand:Int)(wish:List Int)(n:Int),n=((W++V).length:Nat)->Tv W r->Cov wish r->0<=hand->hand<(W++V).length->(W++V).getD hand.toNat []=wish ->
 z2t (W++V) (goB W r hand wish n).2/\Gone2 r (goB W r hand wish n).1 (z5w hand n (goB W r hand wish n).2) (z9h wish (goB W r hand wish n).2)
 | [],V,hand,wish,n,hn,hv,hc,h0,h1,hw=>by
  refine⟨trivial,fun _=>?_,fun z=>absurd rfl z⟩
  show wish=[]
  cases wish with
  | nil=>rfl
  | cons y ys=>exact absurd (hc y List.mem_cons_self) (by simp)
 | (l,why)::r,V,hand,wish,n,hn,hv,hc,h0,h1,hw=>by
  obtain⟨l0,hj,hv'⟩:=hv
  by_cases c:-l∈wish
  ·cases why with
   | none =>
    have e:goB W ((l,none)::r) hand wish n=((-l,some hand)::r,[]):=by rw[goB,if_pos c]
    rw[e]
    refine⟨trivial,fun z=>by simp at z,fun _=>⟨[],l,r,rfl,rfl,c,fun y hy hne=>?_⟩⟩
    rcases List.mem_cons.mp (hc y hy) with z|z
    ·exact absurd (by have z':-y=l:=z;omega) hne
    ·exact z
   | some j =>
    obtain⟨j0,j1,jm,jo⟩:=hj j rfl
    have e:goB W ((l,some j)::r) hand wish n=((goB W r n (stepB W hand wish l j).2.2.2 (n+1)).1,stepB W hand wish l j::(goB W r n (stepB W hand wish l j).2.2.2 (n+1)).2):=by rw[goB,if_pos c]
    rw[e]
    have hr:=y8o (V:=V) l0 j0 j1 jm h0 h1 hw c
    have hcs:Cov (stepB W hand wish l j).2.2.2 r:=hc.step jo
    generalize stepB W hand wish l j=St at hr hcs
    obtain⟨a,b⟩:=z9t W r (V++[St.2.2.2]) n St.2.2.2 (n+1) (by rw[hn];simp;omega) hv' hcs (by omega) (by rw[hn];simp;omega) (by
     rw[hn,Int.toNat_natCast,←List.append_assoc]
     simp[List.getD])
    refine⟨⟨hr,by rw[List.append_assoc];exact a⟩,fun z=>b.nil z,fun z=>?_⟩
    obtain⟨r1,l',r2,e1,e2,e3,e4⟩:=b.cons z
    exact⟨(l,some j)::r1,l',r2,by rw[e1];rfl,e2,e3,e4⟩
  ·have e:goB W ((l,why)::r) hand wish n=goB W r hand wish n:=z6q c
   rw[e]
   obtain⟨a,b⟩:=z9t W r V hand wish n hn hv' (hc.skip c) h0 h1 hw
   refine⟨a,b.nil,fun z=>?_⟩
   obtain⟨r1,l',r2,e1,e2,e3,e4⟩:=b.cons z
   exact⟨(l,why)::r1,l',r2,by rw[e1];rfl,e2,e3,e4⟩
theorem y4h:∀ (hand n:Int)(ts:List Stp),z5w hand n ts=if ts=[] then hand else n+ts.length-1
 | _,_,[]=>rfl
 | hand,n,t::ts=>by
  rw[z5w,y4h n (n+1) ts,if_neg (show ¬ (t::ts=[]) by simp)]
  by_cases h:ts=[]
  ·rw[if_pos h,h];simp
  ·rw[if_neg h,List.length_cons];omega
def wlSt (ts:List Stp):List (List Int):=ts.map fun t=>t.2.2.2
theorem y1s (ts:List Stp)(t:Stp):wlSt (ts++[t])=wlSt ts++[t.2.2.2]:=by simp[wlSt]
theorem y1h (ts:List Stp):(wlSt ts).length=ts.length:=by simp[wlSt]
theorem y2c:∀ {W:List (List Int)}{ts:List Stp}{i:Nat}{t:Stp},z2t W ts->ts[i]?=some t->z8z (W++wlSt (ts.take i)) t
 | W,t::ts,0,u,h,e=>by
  have:t=u:=by simpa using e
  subst this
  simpa[wlSt] using h.1
 | W,t::ts,i+1,u,h,e=>by
  have:=y2c (i:=i) h.2 (by simpa using e)
  simpa[wlSt] using this
theorem y4g:∀ (wish:List Int)(ts:List Stp),z9h wish ts=if ts=[] then wish else (wlSt ts).getD (ts.length-1) []
 | _,[]=>rfl
 | wish,t::ts=>by
  rw[z9h,y4g t.2.2.2 ts,if_neg (show ¬ (t::ts=[]) by simp)]
  by_cases h:ts=[]
  ·rw[if_pos h,h];simp[wlSt]
  ·rw[if_neg h]
   have hl:0<ts.length:=List.length_pos_iff.mpr h
   have e:(t::ts).length-1=(ts.length-1)+1:=by simp;omega
   rw[e]
   simp[wlSt]
theorem x6s {W:List (List Int)}{hand:Int}{wish:List Int}{ts:List Stp}(h0:0<=hand)(h1:hand<W.length)(hw:W.getD hand.toNat []=wish) :
 0<=z5w hand W.length ts/\z5w hand W.length ts<(W++wlSt ts).length/\(W++wlSt ts).getD (z5w hand W.length ts).toNat []=z9h wish ts:=by
 rw[y4h,y4g]
 by_cases h:ts=[]
 ·rw[if_pos h,if_pos h,h]
  refine⟨h0,by simp[wlSt];exact h1,?_⟩
  simpa[wlSt] using hw
 ·rw[if_neg h,if_neg h]
  have hl:0<ts.length:=List.length_pos_iff.mpr h
  refine⟨by omega,by rw[List.length_append,y1h];omega,?_⟩
  have e:((W.length:Int)+(ts.length:Int)-1).toNat=W.length+(ts.length-1):=by omega
  rw[e]
  simp[List.getD,List.getElem?_append_right]
theorem z6v {P:Int->Prop}{W:List (List Int)}(hW:∀ v∈W,∀ x∈v,P x):∀ (r:List Pd)(hand:Int)(wish:List Int)(n:Int),Tv W r->Cov wish r->(∀ x∈wish,P x)->∀ t∈(goB W r hand wish n).2,t.2.2.2.length<=r.length/\∀ x∈t.2.2.2,P x
 | [],_,_,_,_,_,_,t,ht=>by simp[goB]at ht
 | (l,why)::r,hand,wish,n,hv,hc,hP,t,ht=>by
  obtain⟨l0,hj,hv'⟩:=hv
  by_cases c:-l∈wish
  ·cases why with
   | none=>rw[goB,if_pos c]at ht;simp at ht
   | some j =>
    obtain⟨j0,j1,jm,jo⟩:=hj j rfl
    rw[goB,if_pos c]at ht
    have hcs:Cov (stepB W hand wish l j).2.2.2 r:=hc.step jo
    have hl:=hcs.len (z7q _ _ _ _ _)
    have hPs:∀ x∈(stepB W hand wish l j).2.2.2,P x:=fun x hx=>by
     rcases mem_stepB.mp hx with ⟨z,_⟩|⟨z,_⟩
     ·have hm:W.getD j.toNat []∈W:=by
       have hlt:j.toNat<W.length:=by omega
       rw[List.getD_eq_getElem?_getD,List.getElem?_eq_getElem hlt];exact List.getElem_mem hlt
      exact hW _ hm x z
     ·exact hP x z
    rcases List.mem_cons.mp ht with z|z
    ·rw[z]
     exact⟨by rw[List.length_cons];omega,hPs⟩
    ·have:=z6v hW r n _ (n+1) hv' hcs hPs t z
     exact⟨by rw[List.length_cons];omega,this.2⟩
  ·rw[z6q c]at ht
   have:=z6v hW r hand wish n hv' (hc.skip c) hP t ht
   exact⟨by rw[List.length_cons];omega,this.2⟩
theorem z8c {W:List (List Int)}:∀ (r:List Pd)(hand:Int)(wish:List Int)(n:Int),(goB W r hand wish n).2.length<=r.length
 | [],_,_,_=>Nat.le_refl _
 | (l,why)::r,hand,wish,n=>by
  by_cases c:-l∈wish
  ·cases why with
   | none=>rw[goB,if_pos c];simp
   | some j =>
    rw[goB,if_pos c]
    have:=z8c (W:=W) r n (stepB W hand wish l j).2.2.2 (n+1)
    simp only[List.length_cons];omega
  ·rw[z6q c]
   have:=z8c (W:=W) r hand wish n
   rw[List.length_cons];omega
theorem x7k {W V:List (List Int)}:∀ {r:List Pd},Tv W r->Tv (W++V) r
 | [],_=>trivial
 | (l,why)::r,⟨l0,hj,hv⟩=>⟨l0,fun j ej=>by
  obtain⟨a,b,c,d⟩:=hj j ej
  have e:(W++V).getD j.toNat []=W.getD j.toNat []:=y2w (by omega)
  rw[e]
  exact⟨a,by rw[List.length_append];omega,c,d⟩,x7k hv⟩
theorem wl_at {ws:List Wr}{j:Int}(h0:0<=j)(h1:j<ws.length):∃ wr,wr∈ws/\atI (wrefs ws) j=some (.ref wr.1)/\(wl ws).getD j.toNat []=wr.2/\(wl ws)[j.toNat]?=some wr.2:=by
 have hl:j.toNat<ws.length:=by omega
 refine⟨ws[j.toNat],List.getElem_mem hl,?_,?_,?_⟩
 ·have e:j=((j.toNat:Nat):Int):=by omega
  have z:atI (wrefs ws) ((j.toNat:Nat):Int)=some (.ref ws[j.toNat].1):=z3z (by simp[wrefs,hl])
  rw[←e]at z
  exact z
 ·simp[wl,hl,List.getD]
 ·simp[wl,hl]
def x3u (K:W.Frag):Sp:=fun vs H Q _=>∃ (a b p:Addr) (ws:List Wr) (ss:List Sr) (hand l j:Int) (wish:List Int),vs=[.ref a,.ref b,.int hand,.ref p]/\SqL K H a (wrefs ws)/\WsOk H ws/\H b=some (.lst (srefs ss))/\SsOk H ss/\(∀ s r,ss=r++[s]->s.2.2.2.2.2=wish) /\
 (ss=[]->0<=hand/\hand<ws.length/\(wl ws).getD hand.toNat []=wish)/\H p=some (.tup [.int l,.int j])/\l≠0/\0<=j/\j<ws.length/\l∈(wl ws).getD j.toNat []/\-l∈wish/\wish.length+((wl ws).getD j.toNat []).length<64 /\
 ∀ t m H',H t=none->H m=none->Same H H'->H' t=some (tupS (stepB (wl ws) hand wish l j) m)->H' m=some (.lst ((stepB (wl ws) hand wish l j).2.2.2.map V.int))->Q (.ref t) H'
section
variable {P:Program}{w:World}{K:W.Frag}{mg:Str->Option Value}{base:Heap}
theorem y6x (B:Blt mg)(c_merged:Cal P w K mg base 1 "merged" z4o (spMrg K))(Df:Def K mg "step_back" z2o z4q):Cal P w K mg base 2 "step_back" z4q (x3u K):=by
 refine Df.cal sc_step_back (fun vs H Q E h=>?_) (fun f cdv A outer s H vs Q E hr h=>?_)
 ·obtain⟨a,b,p,ws,ss,hand,l,j,wish,rfl,_⟩:=h;rfl
 ·obtain⟨a,b,p,ws,ss,hand,l,j,wish,rfl,hS,hW,hb,hO,hs1,hs2,hp,l0,j0,j1,hlj,hlw,hz,q⟩:=h
  obtain⟨wr,hwr,hat,hgd,_⟩:=wl_at j0 j1
  rw[hgd]at hlj hz
  obtain⟨u1,hu1,key1⟩:∃ u,PSs (cxOf CX0 P w K mg base y2n "step_back" (z0g z2o) f cdv A outer s H E).nox ((z0m z2o).drop 1) u /\
   ∀ hw,H hw=some (.lst (wish.map V.int))->u { nx:=fun _ H'=>Q .non H',rt:=Q } [some (.ref a),some (.ref b),some (.int hand),some (.ref p),some (.ref hw),none,none] H:=by
   refine⟨_,(z0b (z0t (i:=5) sc_step_back.nd rfl (Or.inl rfl) (pe_ix ix_tup (pv 3) z0i (fun _ _=>rfl)))
 (z0b (z0t (i:=6) sc_step_back.nd rfl (Or.inl rfl) (pe_ix ix_tup (pv 3) z0i (fun _ _=>rfl)))
 (z0b (ps_if (z0k op_gt (pv 5) z0i (z0q _))
 (z0e (z0p (z5c (z0a (pv 6) (z0a (pv 2) (z0a (pv 5) (z0a (z0v c_merged hr (by decide) (z0a (pe_ix ix_list (pv 0) (pv 6) (fun _ _=>rfl)) (z0a (pv 4) (z0a (pv 5) z0d)))) z0d)))))))
 z0o)
 (z0e (z0p (z5c (z0a (pv 2) (z0a (pv 6) (z0a (pe_un z1z (pv 5)) (z0a (z0v c_merged hr (by decide) (z0a (pv 4) (z0a (pe_ix ix_list (pv 0) (pv 6) (fun _ _=>rfl)) (z0a (pe_un z1z (pv 5)) z0d)))) z0d)))))))))),fun hw hhw=>?_⟩
   refine⟨_,rfl,p,_,_,_,rfl,rfl,qTo hp,rfl,?_⟩
   refine⟨_,rfl,p,_,_,_,rfl,rfl,qTo hp,rfl,?_⟩
   refine⟨_,rfl,_,_,rfl,rfl,_,rfl,ite2 (fun c=>?_) (fun c=>?_)⟩
   ·have c':0<l:=of_decide_eq_true c
    refine⟨_,rfl,_,rfl,_,rfl,_,rfl,_,rfl,a,_,_,.ref wr.1,rfl,rfl,hS,hat,_,rfl,_,rfl,wr.1,hw,l,wr.2,wish,rfl,qLo (hW wr hwr),qLo hhw,by omega,hlj,hlw,fun m H1 hm sm1 h1=>?_⟩
    refine⟨(by show 4<=sizeLine;decide),fun t ht=>?_⟩
    have es:stepB (wl ws) hand wish l j=(j,hand,l,mrg l wr.2 wish):=by unfold stepB;rw[if_pos c',hgd]
    rw[es]at q
    exact q t m _ (sm1.free ht) hm (sm1.upd (sm1.free ht)) z0c (by rw[z0h (z0f h1 ht)];exact h1)
   ·have c':¬ 0<l:=fun z=>c (decide_eq_true z)
    refine⟨_,rfl,_,rfl,_,rfl,_,rfl,_,rfl,_,rfl,_,rfl,a,_,_,.ref wr.1,rfl,rfl,hS,hat,_,rfl,_,rfl,hw,wr.1,-l,wish,wr.2,rfl,qLo hhw,qLo (hW wr hwr),by omega,hlw,by rw[Int.neg_neg];exact hlj,fun m H1 hm sm1 h1=>?_⟩
    refine⟨(by show 4<=sizeLine;decide),fun t ht=>?_⟩
    have es:stepB (wl ws) hand wish l j=(hand,j,-l,mrg (-l) wish wr.2):=by unfold stepB;rw[if_neg c',hgd]
    rw[es]at q
    exact q t m _ (sm1.free ht) hm (sm1.upd (sm1.free ht)) z0c (by rw[z0h (z0f h1 ht)];exact h1)
  refine⟨_,(z0b (z0t (i:=4) sc_step_back.nd rfl (Or.inl rfl) (x7t (z6k (pv 1) (fun _=>rfl)) (pe_ix ix_tup (pe_ix ix_list (pv 1) (pe_un z1z z0i) (fun _ _=>rfl)) z0i (fun _ _=>rfl)) (pe_ix ix_list (pv 0) (pv 2) (fun _ _=>rfl))))
 hu1),?_⟩
  refine⟨_,rfl,!(srefs ss).isEmpty,.inl ⟨_,qLo hb,rfl⟩,?_⟩
  rcases z4g ss with rfl|⟨r,x,rfl⟩
  ·obtain⟨g0,g1,g2⟩:=hs2 rfl
   obtain⟨wr',hwr',hat',hgd',_⟩:=wl_at g0 g1
   refine iteF ⟨_,rfl,_,rfl,a,_,_,.ref wr'.1,rfl,rfl,hS,hat',key1 wr'.1 ?_⟩
   rw[←g2,hgd']
   exact hW wr' hwr'
  ·have e:(!(srefs (r++[x])).isEmpty)=true:=by simp[srefs]
   rw[e]
   have hx:=hO x (by simp)
   refine iteT ⟨_,rfl,_,rfl,b,_,_,.ref x.1,rfl,rfl,qLo hb,?_,x.1,_,_,.ref x.2.1,rfl,rfl,qTo hx.1,rfl,key1 x.2.1 ?_⟩
   ·rw[z5p];exact z8v _ _
   ·rw[←hs1 x r rfl];exact hx.2
end
def pdat (qs:List Pr):List Pd:=qs.map fun q=>q.2
def x3x (K:W.Frag):Sp:=fun vs H Q _=>∃ (a b:Addr) (ws:List Wr) (qs:List Pr) (n:Int),vs=[.ref a,.ref b,.int n]/\SqL K H a (wrefs ws)/\WsOk H ws/\SqL K H b (refs qs)/\TrOk H qs/\0<=n/\n<ws.length/\ws.length<=16700000/\qs.length<=31/\(∀ v∈wl ws,v.length<=31) /\
 Tv (wl ws) (pdat qs).reverse/\Cov ((wl ws).getD n.toNat []) (pdat qs).reverse /\
 ∀ t s1 s2 qs' ss H',H t=none->H s1=none->H s2=none->Same H H'->H' t=some (.tup [.ref s1,.ref s2])->H' s1=some (.lst (refs qs'))->TrOk H' qs'->H' s2=some (.lst (srefs ss))->SsOk H' ss ->
  pdat qs'=(goB (wl ws) (pdat qs).reverse n ((wl ws).getD n.toNat []) ws.length).1.reverse->sls ss=(goB (wl ws) (pdat qs).reverse n ((wl ws).getD n.toNat []) ws.length).2->(∀ s∈ss,H s.2.1=none)->Q (.ref t) H'
section
variable {P:Program}{w:World}{K:W.Frag}{mg:Str->Option Value}{base:Heap}
theorem y7c (B:Blt mg)(c_marked:Cal P w K mg base 1 "marked" z6m (y1m K))(c_step_back:Cal P w K mg base 2 "step_back" z4q (x3u K))(Df:Def K mg "gone_back" z3j z4e):Cal P w K mg base 3 "gone_back" z4e (x3x K):=by
 refine Df.cal sc_gone_back (fun vs H Q E h=>?_) (fun f cdv A outer s H vs Q E hr h=>?_)
 ·obtain⟨a,b,ws,qs,n,rfl,_⟩:=h;rfl
 ·obtain⟨a,b,ws,qs,n,rfl,hS,hW,hT,hO,n0,n1,hz,hq,hwz,hv,hc,q⟩:=h
  have hu:=hu_of hr
  obtain⟨wr,hwr,hat,hgd,hge⟩:=wl_at n0 n1
  refine⟨_,(z0b (z0t (i:=3) sc_gone_back.nd rfl (Or.inl rfl) (z4n z3r (by rfl) B.list_ z3y (z0a (pv 1) z0d)))
 (z0b (z0t (i:=4) sc_gone_back.nd rfl (Or.inl rfl) (z1g z0d))
 (z0b (z0t (i:=5) sc_gone_back.nd rfl (Or.inl rfl) (pv 2))
 (z0b (z0t (i:=6) sc_gone_back.nd rfl (Or.inl rfl) (z0v c_marked hr (by decide) (z0a (pe_ix ix_list (pv 0) (pv 2) (fun _ _=>rfl)) z0d)))
 (z0b (z7a PassesOwn.never (z6k (pv 3) (fun _=>rfl))
 (z0b (z0t (i:=7) sc_gone_back.nd rfl (Or.inl rfl) (y6t PySem.F.plainAttrs_list PySem.F.slot_list_pop PySem.F.type_list_pop y7l (pv 3)))
 (z0e (ps_if (z9m (x1b hu (pe_un z1z (pe_ix ix_tup (pv 7) z0i (fun _ _=>rfl))) (pv 6)))
 (z0b (ps_if (z0k y3w (pe_ix ix_tup (pv 7) z0i (fun _ _=>rfl)) z3d (z0q _))
 (z0b (z0z (pe_bm PySem.F.plainAttrs_list PySem.F.slot_list_append PySem.F.type_list_append z1f (pv 3) (z0a (z5c (z0a (pe_un z1z (pe_ix ix_tup (pv 7) z0i (fun _ _=>rfl))) (z0a (pv 5) z0d))) z0d)))
 (z0e x7q))
 z0o)
 (z0b (z0z (pe_bm PySem.F.plainAttrs_list PySem.F.slot_list_append PySem.F.type_list_append z1f (pv 4) (z0a (z0v c_step_back hr (by decide) (z0a (pv 0) (z0a (pv 4) (z0a (pv 5) (z0a (pv 7) z0d))))) z0d)))
 (z0b (z0t (i:=5) sc_gone_back.nd rfl (Or.inl rfl) (pe_op y2e (pe_op z6o (z0n z0l (by rfl) B.len_ PySem.boot_len (z0a (pv 0) z0d)) (z0n z0l (by rfl) B.len_ PySem.boot_len (z0a (pv 4) z0d))) z0i))
 (z0e (z0t (i:=6) sc_gone_back.nd rfl (Or.inl rfl) (z0v c_marked hr (by decide) (z0a (pe_ix ix_tup (pe_ix ix_list (pv 4) (pe_un z1z z0i) (fun _ _=>rfl)) z0i (fun _ _=>rfl)) z0d)))))))
 z0o))))
 (z0e (z0p (z5c (z0a (pv 3) (z0a (pv 4) z0d)))))))))),?_⟩
  refine rd_k fun N1 c1=>?_
  refine⟨_,rfl,b,_,rfl,.inl hT,fun sh hsh=>c1 _ _ ?_⟩
  have smA:Same H (upd H sh (.lst (refs qs))):=(smR H).upd hsh
  have gA:upd H sh (.lst (refs qs)) sh=some (.lst (refs qs)):=z0c
  generalize upd H sh (.lst (refs qs))=HA at smA gA
  refine rd_k fun N2 c2=>?_
  refine⟨by decide,fun st hst=>c2 _ _ ?_⟩
  have nss:sh≠st:=z0f gA hst
  have hstH:H st=none:=smA.free hst
  have smB:Same H (upd HA st (.lst [])):=smA.upd hstH
  have gB:upd HA st (.lst []) st=some (.lst []):=z0c
  have gA2:upd HA st (.lst []) sh=some (.lst (refs qs)):=by rw[z0h nss];exact gA
  generalize upd HA st (.lst [])=HB at smB gB gA2
  refine z7l (z7u ?_)
  refine⟨_,rfl,?_⟩
  dsimp only[gName]
  refine rd_k fun N3 c3=>?_
  refine⟨_,rfl,_,rfl,a,_,_,.ref wr.1,rfl,rfl,smB.seq hS,hat,wr.1,wr.2,rfl,qLo (smB _ _ (hW wr hwr)),by have:=hwz wr.2 (List.mem_of_getElem? hge);omega,fun pd HC hpd smC gC=>c3 _ _ ?_⟩
  have smBC:=smB.trans smC
  refine z7l (x3o (fun m σ H2=>∃ (q1:List Pr) (ss:List Sr) (hand:Int) (wish:List Int) (pd:Addr) (o7:Option V),σ=[some (.ref a),some (.ref b),some (.int n),some (.ref sh),some (.ref st),some (.int hand),some (.ref pd),o7]/\Same H H2/\H2 sh=some (.lst (refs q1))/\H2 st=some (.lst (srefs ss))/\SsOk H2 ss/\(∀ s∈ss,H s.2.1=none) /\
   H2 pd=some (.dK (mk (once wish)))/\TrOk H q1/\q1.length<=31/\ss.length+q1.length<=31/\goB (wl ws) (pdat qs).reverse n ((wl ws).getD n.toNat []) ws.length=((goB (wl ws) (pdat q1).reverse hand wish (ws.length+ss.length)).1,sls ss++(goB (wl ws) (pdat q1).reverse hand wish (ws.length+ss.length)).2) /\
   Tv (wl ws) (pdat q1).reverse/\Cov wish (pdat q1).reverse/\wish.length<=31/\(∀ s r,ss=r++[s]->s.2.2.2.2.2=wish)/\(ss=[]->0<=hand/\hand<ws.length/\(wl ws).getD hand.toNat []=wish)/\m=q1.length)
   ⟨_,qs,[],n,wr.2,pd,none,rfl,smBC,smC _ _ gA2,smC _ _ gB,(fun _ z=>nomatch z),(fun _ z=>nomatch z),gC,hO,hq,by simpa using hq,by rw[hgd];simp[sls],hv,by rw[←hgd];exact hc,hwz wr.2 (List.mem_of_getElem? hge),(fun s r z=>by simp at z),fun _=>⟨n0,n1,hgd⟩,rfl⟩ ?_)
  rintro m σ H2 ⟨q1,ss,hand,wish,pd,o7,rfl,sm2,hsh2,hst2,hSs,hFs,hpd2,hO1,hq1,hsq,hgo,hv1,hc1,hwl,hs1,hs2,rfl⟩ Y X hY hX
  refine⟨_,rfl,!(refs q1).isEmpty,.inl ⟨_,qLo hsh2,rfl⟩,?_⟩
  have fin:∀ (Hx:Hp) (σ7:Option V),Same H2 Hx->pdat q1=(goB (wl ws) (pdat qs).reverse n ((wl ws).getD n.toNat []) ws.length).1.reverse->sls ss=(goB (wl ws) (pdat qs).reverse n ((wl ws).getD n.toNat []) ws.length).2->∀ t,Hx t=none->Q (.ref t) (upd Hx t (.tup [.ref sh,.ref st])):=by
   intro Hx σ7 smx e1 e2 t ht
   have smx':Same H2 (upd Hx t (.tup [.ref sh,.ref st])):=smx.upd (smx.free ht)
   exact q t sh st q1 ss _ ((sm2.trans smx).free ht) hsh hstH (sm2.trans smx') z0c (smx' _ _ hsh2) (hO1.mono (sm2.trans smx')) (smx' _ _ hst2) (hSs.mono smx') e1 e2 hFs
  rcases z4g q1 with rfl|⟨q0,x,rfl⟩
  ·refine iteF (hX _ _ ?_)
   refine⟨_,rfl,_,rfl,len2,fun t ht=>fin H2 none (smR _) ?_ ?_ t ht⟩
   ·rw[hgo];simp[pdat,goB]
   ·rw[hgo];simp[pdat,goB]
  have ene:(!(refs (q0++[x])).isEmpty)=true:=by simp[refs]
  rw[ene]
  have er:(pdat (q0++[x])).reverse=x.2::(pdat q0).reverse:=by simp[pdat]
  rw[er]at hv1 hc1 hgo
  have hO0:TrOk H q0:=fun y hy=>hO1 y (List.mem_append_left _ hy)
  have hx1:H x.1=some (.tup [.int x.2.1,wv x.2.2]):=hO1 x (by simp)
  have hx2:=sm2 _ _ hx1
  have ref0:refs (q0++[x])=refs q0++[.ref x.1]:=by simp[refs]
  rw[ref0]at hsh2
  obtain⟨xa,l,why⟩:=x
  dsimp only at hv1 hc1 hgo hx1 hx2 hsh2
  obtain⟨l0,hj,hv0⟩:=hv1
  have hql:q0.length+1<=31:=by simpa using hq1
  refine iteT ⟨Y,fun _ _ h=>h,?_⟩
  refine rd_k fun N4 c4=>?_
  refine⟨_,rfl,.inl ⟨rfl,_,qLo hsh2⟩,sh,_,.ref xa,rfl,rfl,hsh2,by simp,c4 _ _ ?_⟩
  have edl:(refs q0++[V.ref xa]).dropLast=refs q0:=by simp
  rw[edl]
  have smn:Same H (upd H2 sh (.lst (refs q0))):=sm2.upd hsh
  have k1:upd H2 sh (.lst (refs q0)) sh=some (.lst (refs q0)):=z0c
  have nst:st≠sh:=nss.symm
  have k2:upd H2 sh (.lst (refs q0)) st=some (.lst (srefs ss)):=by rw[z0h nst];exact hst2
  have shd:∀ {z:Addr} {o:HO},H2 z=some o->z≠sh->upd H2 sh (.lst (refs q0)) z=some o:=fun h hn=>by rw[z0h hn];exact h
  have npd:pd≠sh:=ne_of hpd2 hsh2 (by intro z;cases z)
  have k3:=shd hpd2 npd
  have kns:∀ s∈ss,s.2.1≠sh:=fun s hs z=>by
   have h1:=(hSs s hs).2
   rw[z,hsh2]at h1
   injection h1 with h1
   injection h1 with h1
   have h2:V.ref xa∈s.2.2.2.2.2.map V.int:=by rw[←h1];simp
   obtain⟨_,_,h3⟩:=List.mem_map.mp h2
   cases h3
  have k4:SsOk (upd H2 sh (.lst (refs q0))) ss:=fun s hs=>by
   have:=hSs s hs
   exact⟨shd this.1 (ne_of this.1 hsh2 (by unfold tupS;intro z;cases z)),shd this.2 (kns s hs)⟩
  have knt:∀ s∈ss,s.2.1≠st:=fun s hs z=>by
   have h1:=(hSs s hs).2
   rw[z,hst2]at h1
   injection h1 with h1
   injection h1 with h1
   have h2:V.ref s.1∈s.2.2.2.2.2.map V.int:=by rw[←h1];exact List.mem_map.mpr ⟨s,hs,rfl⟩
   obtain⟨_,_,h3⟩:=List.mem_map.mp h2
   cases h3
  have k5:=smn _ _ hx1
  generalize upd H2 sh (.lst (refs q0))=H3 at smn k1 k2 k3 k4 k5
  have hmem:(valV (mk (once wish)) (Sum.inl (-l):Key)).isSome=decide (-l∈wish):=by rw[z7o];exact decide_eq_decide.mpr mem_once
  refine⟨_,rfl,xa,_,_,_,rfl,rfl,qTo k5,rfl,_,rfl,_,rfl,pd,_,rfl,DGet.k (k:=Sum.inl (-l)) k3,_,rfl,?_⟩
  rw[hmem]
  refine ite2 (fun c=>?_) (fun c=>?_)
  ·have c':-l∈wish:=of_decide_eq_true c
   cases why with
   | none =>
    refine⟨_,rfl,xa,_,_,_,rfl,rfl,qTo k5,rfl,rfl,_,rfl,iteT ?_⟩
    refine⟨_,rfl,.inl ⟨rfl,_,qLo k1⟩,_,rfl,xa,_,_,_,rfl,rfl,qTo k5,rfl,_,rfl,_,rfl,len2,fun pt hpt=>?_⟩
    have nps:sh≠pt:=z0f k1 hpt
    have k6:upd H3 pt (.tup [.int (-l),.int hand]) sh=some (.lst (refs q0)):=by rw[z0h nps];exact k1
    refine⟨sh,_,_,rfl,rfl,k6,z2r (by rw[z5l];omega),?_⟩
    have eg:goB (wl ws) ((l,none)::(pdat q0).reverse) hand wish (ws.length+ss.length)=((-l,some hand)::(pdat q0).reverse,[]):=by rw[goB,if_pos c']
    rw[eg]at hgo
    refine hX _ _ ?_
    refine⟨_,rfl,_,rfl,len2,fun t ht=>?_⟩
    have hptH:H pt=none:=smn.free hpt
    have s1:Same H (upd (upd H3 pt (.tup [.int (-l),.int hand])) sh (.lst (refs q0++[.ref pt]))):=(smn.upd hptH).upd hsh
    have hst4:upd (upd H3 pt (.tup [.int (-l),.int hand])) sh (.lst (refs q0++[.ref pt])) st=some (.lst (srefs ss)):=by rw[z0h nst,z0h (z0f k2 hpt)];exact k2
    have hpt4:upd (upd H3 pt (.tup [.int (-l),.int hand])) sh (.lst (refs q0++[.ref pt])) pt=some (.tup [.int (-l),.int hand]):=by rw[z0h nps.symm,z0c]
    have hsh4:upd (upd H3 pt (.tup [.int (-l),.int hand])) sh (.lst (refs q0++[.ref pt])) sh=some (.lst (refs q0++[.ref pt])):=z0c
    have hss4:SsOk (upd (upd H3 pt (.tup [.int (-l),.int hand])) sh (.lst (refs q0++[.ref pt]))) ss:=fun s hs=>by
     have:=k4 s hs
     have n1:s.1≠sh:=ne_of this.1 k1 (by unfold tupS;intro z;cases z)
     have n2:s.2.1≠sh:=kns s hs
     exact⟨by rw[z0h n1,z0h (z0f this.1 hpt)];exact this.1,by rw[z0h n2,z0h (z0f this.2 hpt)];exact this.2⟩
    generalize upd (upd H3 pt (.tup [.int (-l),.int hand])) sh (.lst (refs q0++[.ref pt]))=H4 at s1 hst4 hpt4 hsh4 hss4 ht
    have s2:Same H4 (upd H4 t (.tup [.ref sh,.ref st])):=(smR H4).upd ht
    refine q t sh st (q0++[(pt,-l,some hand)]) ss _ (s1.free ht) hsh hstH (s1.trans s2) z0c (s2 _ _ (by rw[hsh4];simp[refs])) ?_ (s2 _ _ hst4) (hss4.mono s2) ?_ ?_ hFs
    ·exact TrOk.snoc (hO0.mono (s1.trans s2)) (s2 _ _ hpt4)
    ·rw[hgo];simp[pdat]
    ·rw[hgo];simp
   | some j =>
    obtain⟨j0,j1,jm,jo⟩:=hj j rfl
    have j1':j<ws.length:=by rw[z1h]at j1;exact j1
    have hwj:((wl ws).getD j.toNat []).length<=31:=by
     obtain⟨wr2,_,_,e2,e3⟩:=wl_at j0 j1'
     rw[e2];exact hwz _ (List.mem_of_getElem? e3)
    refine⟨_,rfl,xa,_,_,_,rfl,rfl,qTo k5,rfl,rfl,_,rfl,iteF ?_⟩
    dsimp only[tNext]
    refine rd_k fun N5 c5=>?_
    refine⟨_,rfl,.inl ⟨rfl,_,qLo k2⟩,_,rfl,_,rfl,_,rfl,_,rfl,a,st,xa,ws,ss,hand,l,j,wish,rfl,smn.seq hS,hW.mono smn,k2,k4,hs1,hs2,k5,l0,j0,j1',jm,c',by omega,fun t m H4 ht hm sm4 g4 gm=>?_⟩
    have k2':=sm4 _ _ k2
    refine⟨st,_,_,rfl,rfl,k2',z2r (by rw[z4l];simp at hsq;omega),c5 _ _ ?_⟩
    have eg:goB (wl ws) ((l,some j)::(pdat q0).reverse) hand wish (ws.length+ss.length)=((goB (wl ws) (pdat q0).reverse (ws.length+ss.length) (stepB (wl ws) hand wish l j).2.2.2 (ws.length+ss.length+1)).1,stepB (wl ws) hand wish l j::(goB (wl ws) (pdat q0).reverse (ws.length+ss.length) (stepB (wl ws) hand wish l j).2.2.2 (ws.length+ss.length+1)).2):=by rw[goB,if_pos c']
    rw[eg]at hgo
    have hcs:Cov (stepB (wl ws) hand wish l j).2.2.2 (pdat q0).reverse:=hc1.step jo
    have hcl:(stepB (wl ws) hand wish l j).2.2.2.length<=31:=by
     have:=hcs.len (z7q _ _ _ _ _)
     have e:(pdat q0).reverse.length=q0.length:=by simp[pdat]
     omega
    generalize stepB (wl ws) hand wish l j=St at g4 gm hgo hcs hcl
    have htH:H t=none:=smn.free ht
    have hmH:H m=none:=smn.free hm
    have nts:t≠st:=fun z=>by rw[z,k2]at ht;cases ht
    have nms:m≠st:=fun z=>by rw[z,k2]at hm;cases hm
    have s1:Same H (upd H4 st (.lst (srefs ss++[.ref t]))):=(smn.trans sm4).upd hstH
    have r1:upd H4 st (.lst (srefs ss++[.ref t])) st=some (.lst (srefs (ss++[(t,m,St)]))):=by rw[z0c,z5p]
    have r2:upd H4 st (.lst (srefs ss++[.ref t])) t=some (tupS St m):=by rw[z0h nts];exact g4
    have r3:upd H4 st (.lst (srefs ss++[.ref t])) m=some (.lst (St.2.2.2.map V.int)):=by rw[z0h nms];exact gm
    have r4:upd H4 st (.lst (srefs ss++[.ref t])) sh=some (.lst (refs q0)):=by rw[z0h nss];exact sm4 _ _ k1
    have r5:SsOk (upd H4 st (.lst (srefs ss++[.ref t]))) ss:=fun s hs=>by
     have:=k4 s hs
     have n1:s.1≠st:=ne_of this.1 k2 (by unfold tupS;intro z;cases z)
     have n2:s.2.1≠st:=knt s hs
     exact⟨by rw[z0h n1];exact sm4 _ _ this.1,by rw[z0h n2];exact sm4 _ _ this.2⟩
    generalize upd H4 st (.lst (srefs ss++[.ref t]))=H5 at s1 r1 r2 r3 r4 r5
    refine rd_k fun N6 c6=>?_
    refine⟨_,rfl,a,_,rfl,.inl (s1.seq hS),_,rfl,st,_,rfl,.inl (qLo r1),_,_,rfl,rfl,_,_,rfl,rfl,c6 _ _ ?_⟩
    refine⟨_,rfl,_,rfl,st,_,_,.ref t,rfl,rfl,qLo r1,by rw[z5p];exact z8v _ _,t,_,_,.ref m,rfl,rfl,qTo r2,rfl,m,St.2.2.2,rfl,qLo r3,by omega,fun pd2 H6 hpd2 sm6 g6=>?_⟩
    have eh:(((wrefs ws).length:Nat):Int)+(((srefs (ss++[(t,m,St)])).length:Nat):Int)-1=(ws.length:Int)+(ss.length:Int):=by rw[z0w,z4l];simp;omega
    refine hY _ _ ⟨q0.length,by simp,q0,ss++[(t,m,St)],(ws.length:Int)+(ss.length:Int),St.2.2.2,pd2,_,by rw[←eh];rfl,s1.trans sm6,sm6 _ _ r4,sm6 _ _ r1,(r5.snoc r2 r3).mono sm6,(fun s hs=>(mApp hs).elim (hFs s) fun z=>by
     have:s=(t,m,St):=by simpa using z
     rw[this];exact hmH),g6,hO0,by omega,by simp at hsq ⊢;omega,?_,hv0,hcs,hcl,?_,?_,rfl⟩
    ·rw[hgo,z8h]
     have el:((ss++[(t,m,St)]).length:Int)=(ss.length:Int)+1:=by simp
     rw[el]
     simp[Int.add_assoc]
    ·intro s r e
     have:=List.append_inj_right' e rfl
     have e2:(t,m,St)=s:=by simpa using this
     rw[←e2]
    ·intro z
     simp at z
  ·have c':¬ -l∈wish:=fun z=>c (decide_eq_true z)
   refine hY _ _ ⟨q0.length,by simp,q0,ss,hand,wish,pd,_,rfl,smn,k1,k2,k4,hFs,k3,hO0,by omega,by simp at hsq;omega,?_,hv0,hc1.skip c',hwl,hs1,hs2,rfl⟩
   rw[hgo,z6q c']
end
def wst (ss:List Sr):List Wr:=ss.map fun s=>(s.2.1,s.2.2.2.2.2)
theorem z7i {C:Addr}{H:Hp}{p:Addr}{x:Tly}(h:TyAt C H p x){b:Addr}{vs:List V}(hb:H b=some (.tup vs)):¬ foot p x b:=by
 rintro (e|e | e | e | e | e | e | e | e | ⟨m,hm,e⟩)
 ·obtain⟨dx,ob⟩:=h.ob;rw[e,ob]at hb;cases hb
 ·rw[e,h.hw]at hb;cases hb
 ·rw[e,h.ht]at hb;cases hb
 ·rw[e,h.hd]at hb;cases hb
 ·rw[e,h.hp]at hb;cases hb
 ·rw[e,h.hs]at hb;cases hb
 ·rw[e,h.hl]at hb;cases hb
 ·rw[e,h.hf]at hb;cases hb
 ·rw[e,h.hg]at hb;cases hb
 ·rw[e,h.hM.ok m hm]at hb;cases hb
theorem y7q:∀ {M:List Mp}{m:Mp},(M.map (·.1)).Nodup->m∈M->lookM M m.1=some m
 | [],m,_,h=>nomatch h
 | m0::M,m,hn,h=>by
  rw[List.map_cons,List.nodup_cons]at hn
  unfold lookM
  rcases List.mem_cons.mp h with e|e
  ·rw[e];simp
  ·have:m0.1≠m.1:=fun z=>hn.1 (by rw[z];exact List.mem_map.mpr ⟨m,e,rfl⟩)
   have ih:=y7q hn.2 e
   unfold lookM at ih
   simp[this,ih]
theorem Tal.mlen {C:Addr}{H:Hp}{p:Addr}{x:Tly}{c:Nat}(h:Tal C H p x)(hb:∀ v∈wl x.ws,∀ y∈v,y.natAbs<=c):x.M.length<=2*c+1:=by
 have hk:∀ m∈x.M,m.1.natAbs<=c:=fun m hm=>by
  have e:ilook x.M m.1=m.2.2:=by unfold ilook;rw[y7q h.ty.hM.kn hm]
  rw[h.pl]at e
  obtain⟨i,hi⟩:=List.exists_mem_of_ne_nil _ (h.ne m hm)
  rw[←e]at hi
  obtain⟨hl,hm2⟩:=in_idxs.mp hi
  have hg:(wl x.ws).getD i []=(wl x.ws)[i]:=by simp[hl]
  exact hb _ (List.getElem_mem hl) _ (hg▸hm2)
 have nd:((x.M.map (·.1)).map fun y=>y+(c:Int)+1).Nodup:=List.pairwise_map.mpr (List.Pairwise.imp (fun {a b} hne e=>hne (by
  have:a+(c:Int)+1=b+(c:Int)+1:=e
  omega)) h.ty.hM.kn)
 have:=y6s (2*c+1) 0 _ nd fun y hy=>by
  obtain⟨z,hz,rfl⟩:=List.mem_map.mp hy
  obtain⟨m,hm,rfl⟩:=List.mem_map.mp hz
  have:=hk m hm
  omega
 simpa using this
def y4u (C:Addr):Sp:=fun vs H Q _=>∃ (p:Addr) (x:Tly) (n:Int),vs=[.ref p,.int n]/\Tal C H p x/\0<=n/\n<x.ws.length/\x.ws.length<=16690000/\x.qs.length<=31/\(∀ v∈wl x.ws,v.length<=31)/\(∀ v∈wl x.ws,∀ y∈v,y.natAbs<=1000) /\
 Tv (wl x.ws) (pdat x.qs).reverse/\Cov ((wl x.ws).getD n.toNat []) (pdat x.qs).reverse /\
 ∀ (s2:Addr) (ss:List Sr) (x':Tly) (H':Hp),Tal C H' p x'->Fr p x x' H H'->x'.ws=x.ws++wst ss->x'.at_=x.at_->x'.M.length<=x.M.length+31*ss.length->pdat x'.qs=(goB (wl x.ws) (pdat x.qs).reverse n ((wl x.ws).getD n.toNat []) x.ws.length).1.reverse->sls ss=(goB (wl x.ws) (pdat x.qs).reverse n ((wl x.ws).getD n.toNat []) x.ws.length).2 ->
  H s2=none->¬ foot p x' s2->H' s2=some (.lst (srefs ss))->SsOk H' ss->(∀ s∈ss,H s.2.1=none)->Q (.ref s2) H'
section
variable {P:Program}{w:World}{K:W.Frag}{mg:Str->Option Value}{base:Heap}{C:Addr}
theorem x2v (B:Blt mg)(T:TallyCls K mg C)(m_put:MCal P w K mg base 3 C "put" z2q (spPut C))(m_take_off:MCal P w K mg base 3 C "take_off" z1l (spOff C))(m_put_wish:MCal P w K mg base 3 C "put_wish" z1e (x0l C))
 (c_gone_back:Cal P w K mg base 3 "gone_back" z4e (x3x K)) (Df:Def K mg "go_back" z4z z5s):Cal P w K mg base 4 "go_back" z5s (y4u C):=by
 refine Df.cal sc_go_back (fun vs H Q E h=>?_) (fun f cdv A outer s H vs Q E hr h=>?_)
 ·obtain⟨p,x,n,rfl,_⟩:=h;rfl
 ·obtain⟨p,x,n,rfl,hx,n0,n1,hz,hq,hv,hM0,hTv,hCov,q⟩:=h
  have hM:=hx.mlen hM0
  have hu:=hu_of hr
  have cl:=T.cl
  refine⟨_,(z0b (z0t (i:=2) sc_go_back.nd rfl (Or.inl rfl) (z0v c_gone_back hr (by decide) (z0a (z1n (pv 0) rfl) (z0a (z1n (pv 0) rfl) (z0a (pv 1) z0d)))))
 (z0b (z0t (i:=3) sc_go_back.nd rfl (Or.inl rfl) (pe_ix z8b (pv 2) z0i (fun _ _=>rfl)))
 (z0b (z7a PassesOwn.never (PW.pt (y0t (z6k (z1n (pv 0) rfl) (fun _=>rfl)) (z7v (z0k op_ge (z0n z0l (by rfl) B.len_ PySem.boot_len (z0a (z1n (pv 0) rfl) z0d)) (z0n z0l (by rfl) B.len_ PySem.boot_len (z0a (pv 3) z0d)) (z0q _)))))
 (z0e (z0z (z9o m_take_off cl hr (by decide) (pv 0)))))
 (z0b (z3a PassesOwn.never rfl (z1d (pe_ix z8b (pv 2) z0i (fun _ _=>rfl))) (z1c (i:=4) sc_go_back.nd rfl (Or.inl rfl))
 (z0e (z0z (z6s m_put_wish cl hr (by decide) (pv 0) (z0a (pe_ix z8b (pv 4) z0i (fun _ _=>rfl)) z0d)))))
 (z0b (ps_if (z6k (pv 3) (fun _=>rfl))
 (z0e (z0z (z6s m_put cl hr (by decide) (pv 0) (z0a (pe_ix z8b (pe_ix ix_list (pv 3) (pe_un z1z z0i) (fun _ _=>rfl)) z0i (fun _ _=>rfl)) (z0a (pe_ix z8b (pe_ix ix_list (pv 3) (pe_un z1z z0i) (fun _ _=>rfl)) z0i (fun _ _=>rfl)) z0d)))))
 z0o)
 (z0e (z0p (pe_ix z8b (pv 2) z0i (fun _ _=>rfl))))))))),?_⟩
  obtain⟨d,ob⟩:=hx.ty.ob
  refine⟨_,rfl,p,C,d,_,_,rfl,ob,T.cl,T.n1,z9u x,_,rfl,p,C,d,_,_,rfl,ob,T.cl,T.n2,z8q x,_,rfl,x.aw,x.at_,x.ws,x.qs,n,rfl,qLo hx.ty.hw,hx.ty.wo,qLo hx.ty.ht,hx.ty.to,n0,n1,by omega,hq,hv,hTv,hCov,fun t s1 s2 qs' ss H1 ht hs1 hs2 sm h1t h1s1 h1q h1s2 h1ss ep es hfs=>?_⟩
  obtain⟨_,hG2⟩:=z9t (wl x.ws) (pdat x.qs).reverse [] n ((wl x.ws).getD n.toNat []) x.ws.length (by rw[List.append_nil,z1h]) hTv hCov n0 (by rw[List.append_nil,z1h];exact n1) (by rw[List.append_nil])
  have hsm:=z6v (P:=fun _=>True) (W:=wl x.ws) (fun _ _ _ _=>trivial) (pdat x.qs).reverse n ((wl x.ws).getD n.toNat []) x.ws.length hTv hCov (fun _ _=>trivial)
  rw[←es]at hsm
  generalize hgo:goB (wl x.ws) (pdat x.qs).reverse n ((wl x.ws).getD n.toNat []) x.ws.length=go at ep es hG2 q
  have hrl:(pdat x.qs).reverse.length=x.qs.length:=by simp[pdat]
  have nt:¬ foot p x t:=z4a hx.ty ht
  have ns1:¬ foot p x s1:=z4a hx.ty hs1
  have ns2:¬ foot p x s2:=z4a hx.ty hs2
  have hx1:=hx.same sm
  have hql:qs'.length=go.1.length:=by have:=congrArg List.length ep;simpa[pdat] using this
  have hle:qs'.length<=x.qs.length:=by
   by_cases z:go.1=[]
   ·rw[hql,z];simp
   ·obtain⟨r1,l,r2,e1,e2,_⟩:=hG2.cons z
    rw[hql,e2,←hrl,e1];simp
  refine⟨_,rfl,.inr (.inl ⟨t,_,_,_,rfl,rfl,qTo h1t,rfl,?_⟩)⟩
  dsimp only[gName]
  refine z7m (fun σ Hx=>∃ x1:Tly,σ=[some (.ref p),some (.int n),some (.ref t),some (.ref s1),none]/\Tal C Hx p x1/\Fr p x x1 H1 Hx/\x1.ws=x.ws/\x1.qs=x.qs.take (qs'.length-1)/\x1.at_=x.at_/\x1.M=x.M) (fun N hN=>?_) ?_
  ·refine⟨fun m σ Hx=>∃ (x1:Tly),σ=[some (.ref p),some (.int n),some (.ref t),some (.ref s1),none]/\Tal C Hx p x1/\Fr p x x1 H1 Hx/\x1.ws=x.ws/\x1.qs=x.qs.take m/\m<=x.qs.length/\qs'.length-1<=m/\x1.at_=x.at_/\x1.M=x.M,
    ⟨x.qs.length,x,rfl,hx1,Fr.refl _ _ _,rfl,by simp,Nat.le_refl _,by omega,rfl,rfl⟩,?_⟩
   rintro m σ Hx ⟨x1,rfl,hy,fr,ew,eq,hm1,hm2,ea,eM⟩
   obtain⟨d1,ob1⟩:=hy.ty.ob
   have hln:x1.qs.length=m:=by rw[eq];simp;omega
   have hs1x:=fr.out _ _ h1s1 ns1
   have stop:m=0∨m<qs'.length->N [some (.ref p),some (.int n),some (.ref t),some (.ref s1),none] Hx:=fun h=>hN _ _ ⟨x1,rfl,hy,fr,ew,by rw[eq];congr 1;omega,ea,eM⟩
   refine⟨_,rfl,p,C,d1,_,_,rfl,ob1,T.cl,T.n2,z8q _,_,.inl ⟨_,qLo hy.ty.ht,rfl⟩,ite2 (fun c=>?_) (fun c=>?_)⟩
   ·have hne:x1.qs≠[]:=fun z=>by rw[z]at c;cases c
    have hpos:0<m:=by rw[←hln];exact List.length_pos_iff.mpr hne
    refine⟨_,rfl,p,C,d1,_,_,rfl,ob1,T.cl,T.n2,z8q _,_,_,rfl,.inl (qLo hy.ty.ht),_,rfl,s1,_,rfl,.inl (qLo hs1x),_,_,rfl,rfl,_,rfl,ite2 (fun c2=>?_) (fun c2=>?_)⟩
    ·obtain⟨rs,u,er⟩:∃ rs u,x1.qs=rs++[u]:=⟨_,_,(List.dropLast_concat_getLast hne).symm⟩
     have noT:(flds x1).lookup ("take_off" : Str)=none:=fl_nx x1 (by decide +kernel)
     have hge:qs'.length<=m:=by
      have:=of_decide_eq_true c2
      rw[z5l,z5l,hln]at this;omega
     refine⟨_,fun σ' H' h=>h,?_⟩
     refine⟨_,rfl,p,d1,_,rfl,ob1,noT,p,x1,rs,u,rfl,hy,er,by rw[ew];omega,fun x2 H2 hx2 fr2 ew2 eq2 ea2 eM2=>⟨m-1,by omega,x2,rfl,hx2,fr.trans fr2,by rw[ew2,ew],?_,by omega,by omega,by rw[ea2,ea],by rw[eM2,eM]⟩⟩
     rw[eq2]
     have e0:rs=x1.qs.take (m-1):=by
      have:rs.length=m-1:=by have:=congrArg List.length er;simp at this;omega
      rw[er,←this];simp
     rw[e0,eq,List.take_take];congr 1;omega
    ·have hlt:¬ qs'.length<=m:=fun z=>c2 (decide_eq_true (by rw[z5l,z5l,hln];omega))
     exact stop (.inr (by omega))
   ·refine iteF (stop (.inl ?_))
    rw[←hln]
    cases h:x1.qs with
    | nil=>rfl
    | cons u r=>rw[h]at c;exact absurd rfl c
  rintro σ H2 ⟨x1,rfl,hy,fr,ew,eq,ea,eM⟩
  have h2t:=fr.out _ _ h1t nt
  have h2s2:=fr.out _ _ h1s2 ns2
  have h2s1:=fr.out _ _ h1s1 ns1
  have h2ss:SsOk H2 ss:=fun s hs=>⟨fr.out _ _ (h1ss s hs).1 (z7i hx1.ty (h1ss s hs).1),fr.out _ _ (h1ss s hs).2 (z4a hx.ty (hfs s hs))⟩
  have h2q:TrOk H2 qs':=fun u hu=>fr.out _ _ (h1q u hu) (z7i hx1.ty (h1q u hu))
  have nf:∀ b,¬ foot p x b->(∃ o,H1 b=some o)->¬ foot p x1 b:=fun b hb ⟨o,ho⟩ z=>by
   rcases fr.inn b z with y|y
   ·exact hb y
   ·rw[ho]at y;cases y
  refine z7m (fun σ Hx=>∃ (x2:Tly) (v:Option V),σ=[some (.ref p),some (.int n),some (.ref t),some (.ref s1),v]/\Tal C Hx p x2/\Fr p x1 x2 H2 Hx/\x2.ws=x.ws++wst ss/\x2.qs=x.qs.take (qs'.length-1)/\x2.at_=x.at_/\x2.M.length<=x.M.length+31*ss.length) (fun N hN=>?_) ?_
  ·refine⟨_,rfl,.inr (.inl ⟨t,_,_,_,rfl,rfl,qTo h2t,rfl,s2,rfl,⟨_,qLo h2s2⟩,?_⟩)⟩
   have n12:¬ foot p x1 s2:=nf _ ns2 ⟨_,h1s2⟩
   refine z2z (K:=K) (a:=s2) (xs:=srefs ss) (fun j σ Hx=>∃ (x2:Tly) (v:Option V),σ=[some (.ref p),some (.int n),some (.ref t),some (.ref s1),v]/\Tal C Hx p x2/\Fr p x1 x2 H2 Hx/\x2.ws=x.ws++wst (ss.take j)/\x2.qs=x.qs.take (qs'.length-1)/\x2.at_=x.at_/\x2.M.length<=x.M.length+31*j)
    ⟨x1,none,rfl,hy,Fr.refl _ _ _,by rw[ew];simp[wst],eq,ea,by rw[eM];omega⟩ (fun j σ Hx _ hh=>by
     obtain⟨_,_,_,_,fr2,_⟩:=hh
     exact qLo (fr2.out _ _ h2s2 n12)) ?_ ?_
   ·rintro j y σ Hx hj ⟨x2,v,rfl,hy2,fr2,ew2,eq2,ea2,hM2⟩
    obtain⟨st,hst,rfl⟩:=x3t hj
    have hmem:=List.mem_of_getElem? hst
    have hjl:j<ss.length:=(List.getElem?_eq_some_iff.mp hst).1
    obtain⟨g1,g2⟩:=h2ss st hmem
    have g1':=fr2.out _ _ g1 (z7i hy.ty g1)
    have nm1:¬ foot p x1 st.2.1:=nf _ (z4a hx.ty (hfs st hmem)) ⟨_,(h1ss st hmem).2⟩
    have g2':=fr2.out _ _ g2 nm1
    have nm2:¬ foot p x2 st.2.1:=fun z=>by
     rcases fr2.inn _ z with y|y
     ·exact nm1 y
     ·rw[g2]at y;cases y
    obtain⟨d2,ob2⟩:=hy2.ty.ob
    have noW:(flds x2).lookup ("put_wish" : Str)=none:=fl_nx x2 (by decide +kernel)
    have hsl:ss.length<=31:=by
     have:=z8c (W:=wl x.ws) (pdat x.qs).reverse n ((wl x.ws).getD n.toNat []) x.ws.length
     rw[hgo,←es,z9a]at this;omega
    have hvl:st.2.2.2.2.2.length<=31:=by
     have:=(hsm st.2.2 (List.mem_map.mpr ⟨st,hmem,rfl⟩)).1
     omega
    have hwl:x2.ws.length=x.ws.length+j:=by rw[ew2];simp[wst];omega
    refine⟨_,rfl,p,d2,_,rfl,ob2,noW,_,rfl,.inr (.inl ⟨st.1,_,_,_,rfl,rfl,qTo g1',rfl,p,st.2.1,x2,st.2.2.2.2.2,rfl,hy2,g2',nm2,by omega,by omega,by omega,fun x3 H3 hy3 fr3 ew3 eq3 ea3 hM3=>⟨x3,_,rfl,hy3,fr2.trans fr3,?_,by rw[eq3,eq2],by rw[ea3,ea2],by omega⟩⟩)⟩
    rw[ew3,ew2,List.take_add_one,hst];simp[wst]
   ·rintro σ Hx ⟨x2,v,rfl,hy2,fr2,ew2,eq2,ea2,hM2⟩
    rw[z4l]at ew2 hM2
    rw[List.take_length]at ew2
    exact hN _ _ ⟨x2,v,rfl,hy2,fr2,ew2,eq2,ea2,hM2⟩
  rintro σ H3 ⟨x2,v,rfl,hy2,fr2,ew2,eq2,ea2,hM2⟩
  have n2t:¬ foot p x1 t:=nf _ nt ⟨_,h1t⟩
  have n2s1:¬ foot p x1 s1:=nf _ ns1 ⟨_,h1s1⟩
  have n2s2:¬ foot p x1 s2:=nf _ ns2 ⟨_,h1s2⟩
  have h3t:=fr2.out _ _ h2t n2t
  have h3s1:=fr2.out _ _ h2s1 n2s1
  have h3s2:=fr2.out _ _ h2s2 n2s2
  have h3ss:SsOk H3 ss:=fun s hs=>⟨fr2.out _ _ (h2ss s hs).1 (z7i hy.ty (h2ss s hs).1),fr2.out _ _ (h2ss s hs).2 (nf _ (z4a hx.ty (hfs s hs)) ⟨_,(h1ss s hs).2⟩)⟩
  have h3q:TrOk H3 qs':=fun u hu=>fr2.out _ _ (h2q u hu) (z7i hy.ty (h2q u hu))
  have nf2:∀ b,¬ foot p x1 b->(∃ o,H2 b=some o)->¬ foot p x2 b:=fun b hb ⟨o,ho⟩ z=>by
   rcases fr2.inn b z with y|y
   ·exact hb y
   ·rw[ho]at y;cases y
  have frA:Fr p x x2 H H3:=((Fr.same sm).trans fr).trans fr2
  have fin:∀ (x3:Tly) (H4:Hp),Tal C H4 p x3->Fr p x2 x3 H3 H4->x3.ws=x2.ws->x3.at_=x2.at_->x3.M=x2.M->pdat x3.qs=pdat qs'->¬ foot p x3 s2/\H4 t=some (.tup [.ref s1,.ref s2])/\Q (.ref s2) H4:=fun x3 H4 hy3 fr3 ew3 ea3 eM3 ep3=>by
   have m2:∀ b,¬ foot p x1 b->(∃ o,H2 b=some o)->∀ o,H3 b=some o->H4 b=some o:=fun b hb he o ho=>fr3.out b o ho (nf2 b hb he)
   have n3:¬ foot p x3 s2:=fun z=>by
    rcases fr3.inn _ z with y|y
    ·exact nf2 _ n2s2 ⟨_,h2s2⟩ y
    ·rw[h3s2]at y;cases y
   refine⟨n3,m2 _ n2t ⟨_,h2t⟩ _ h3t,?_⟩
   refine q s2 ss x3 H4 hy3 (frA.trans fr3) (by rw[ew3,ew2]) (by rw[ea3,ea2]) (by rw[eM3];exact hM2) (by rw[ep3,ep]) es hs2 n3 (m2 _ n2s2 ⟨_,h2s2⟩ _ h3s2) (fun s hs=>⟨fr3.out _ _ (h3ss s hs).1 (z7i hy2.ty (h3ss s hs).1),m2 _ (nf _ (z4a hx.ty (hfs s hs)) ⟨_,(h1ss s hs).2⟩) ⟨_,(h2ss s hs).2⟩ _ (h3ss s hs).2⟩) hfs
  refine z7m (fun σ Hx=>∃ v,σ=[some (.ref p),some (.int n),some (.ref t),some (.ref s1),v]/\Hx t=some (.tup [.ref s1,.ref s2])/\Q (.ref s2) Hx) (fun N hN=>?_) ?_
  ·refine⟨_,rfl,_,.inl ⟨_,qLo h3s1,rfl⟩,ite2 (fun c=>?_) (fun c=>?_)⟩
   ·have hne:qs'≠[]:=fun z=>by rw[z]at c;cases c
    obtain⟨q0,u,eu⟩:∃ q0 u,qs'=q0++[u]:=⟨_,_,(List.dropLast_concat_getLast hne).symm⟩
    have hgn:go.1≠[]:=fun z=>hne (List.length_eq_zero_iff.mp (by rw[hql,z];rfl))
    obtain⟨r1,l,r2,e1,e2,_,_⟩:=hG2.cons hgn
    have ep2:pdat q0++[u.2]=r2.reverse++[(-l,some (z5w n x.ws.length go.2))]:=by
     have:=ep
     rw[eu,e2]at this
     simpa[pdat] using this
    obtain⟨f1,f2⟩:=List.append_inj' ep2 rfl
    have eu2:u.2=(-l,some (z5w n x.ws.length go.2)):=by simpa using f2
    have eu1:u.2.1=-l:=congrArg (·.1) eu2
    have ek:qs'.length-1=r2.length:=by
     have h1:=congrArg List.length f1
     rw[eu];simp[pdat]at h1 ⊢;exact h1
    have epx:pdat x.qs=r2.reverse++(l,none)::r1.reverse:=by
     have:=congrArg List.reverse e1
     rw[List.reverse_reverse]at this
     rw[this];simp
    have eTx:x.T=(pdat x.qs).map (·.1):=by rw[hx.T];simp[lets,pdat]
    have hTk:x.T[r2.length]?=some l:=by rw[eTx,epx];simp
    obtain⟨d1,d2⟩:=hx.dis _ _ hTk
    have eT2:x2.T=x.T.take r2.length:=by rw[hy2.T,eq2,ek,hx.T];simp[lets,List.map_take]
    obtain⟨dd,obb⟩:=hy2.ty.ob
    have noP:(flds x2).lookup ("put" : Str)=none:=fl_nx x2 (by decide +kernel)
    have hg:atI (refs qs') (-1)=some (.ref u.1):=by
     have e:refs qs'=refs q0++[V.ref u.1]:=by rw[eu];simp[refs]
     rw[e];exact z8v _ _
    have hu3:=h3q u (by rw[eu];simp)
    have hwl2:x2.ws.length<=16700000:=by
     have:=z8c (W:=wl x.ws) (pdat x.qs).reverse n ((wl x.ws).getD n.toNat []) x.ws.length
     rw[hgo,←es,z9a]at this
     rw[ew2];simp[wst];omega
    refine⟨_,rfl,p,dd,_,rfl,obb,noP,_,rfl,1,rfl,s1,_,_,_,rfl,rfl,qLo h3s1,hg,.inr (.inl ⟨u.1,_,_,_,rfl,rfl,qTo hu3,rfl,_,rfl,1,rfl,s1,_,_,_,rfl,rfl,qLo h3s1,hg,.inr (.inl ⟨u.1,_,_,_,rfl,rfl,qTo hu3,rfl,p,x2,u.2.1,u.2.2,rfl,hy2,by rw[eT2,eu1];exact d2,by rw[eT2,eu1,Int.neg_neg];exact d1,hwl2,by rw[eq2];simp;omega,fun pt x3 H4 hy3 fr3 ew3 eq3 ea3 eM3=>?_⟩)⟩)⟩
    obtain⟨_,a1,a2⟩:=fin x3 H4 hy3 fr3 ew3 ea3 eM3 (by
     rw[eq3,eq2,ek,eu]
     have:pdat (x.qs.take r2.length)=pdat q0:=by
      have h1:pdat (x.qs.take r2.length)=(pdat x.qs).take r2.length:=by simp[pdat,List.map_take]
      have h2:r2.length=r2.reverse.length:=by simp
      rw[h1,epx,h2,List.take_left,f1]
     have e4:∀ (a b:List Pr),pdat (a++b)=pdat a++pdat b:=fun a b=>by simp[pdat]
     rw[e4,e4,this];rfl)
    exact hN _ _ ⟨_,rfl,a1,a2⟩
   ·have h0:qs'=[]:=by
     cases h:qs' with
     | nil=>rfl
     | cons u r=>rw[h]at c;exact absurd rfl c
    obtain⟨_,a1,a2⟩:=fin x2 H3 hy2 (Fr.refl _ _ _) rfl rfl rfl (by rw[eq2,h0];simp[pdat])
    exact hN _ _ ⟨_,rfl,a1,a2⟩
  rintro σ Hx ⟨v,rfl,a1,a2⟩
  exact⟨_,rfl,.inr (.inl ⟨t,_,_,_,rfl,rfl,qTo a1,rfl,a2⟩)⟩
end
def so (bs:List Bool)(n:Int):Bool:=bs.getD (n.natAbs-1) false==decide (0<n)
theorem w1j {bs:List Bool}{n:Int}(h0:n≠0)(h1:n.natAbs<=bs.length):atI (bs.map V.bl) ((if n<0 then -n else n)-1)=some (.bl (bs.getD (n.natAbs-1) false)):=by
 have e:(if n<0 then -n else n)-1=((n.natAbs-1:Nat):Int):=by split<;>omega
 rw[e]
 refine z3z ?_
 have:n.natAbs-1<bs.length:=by omega
 simp[this]
theorem x0p {bs:List Bool}{n:Int}(h:n≠0):so bs (-n)=!so bs n:=by
 unfold so
 have e:(-n).natAbs=n.natAbs:=by omega
 rw[e]
 by_cases p:0<n
 ·have:¬ 0 < -n:=by omega
  simp only[decide_eq_true p,decide_eq_false this]
  cases bs.getD (n.natAbs-1) false<;>rfl
 ·have:0 < -n:=by omega
  simp only[decide_eq_false p,decide_eq_true this]
  cases bs.getD (n.natAbs-1) false<;>rfl
def litB (q:Pd):Bool:=q.2.isNone&&decide (0<q.1)
def openB:List Pd->List Bool->Bool
 | [],_=>true
 | q::P,s=>if so s q.1=true then openB P s else litB q
def agB (P:List Pd)(s:List Bool):Bool:=P.all fun q=>so s q.1
theorem x7i (P Q:List Pd)(s:List Bool):agB (P++Q) s=(agB P s&&agB Q s):=by simp[agB]
def allS:Nat->List (List Bool)
 | 0=>[[]]
 | c+1=>(allS c).map (true::·)++(allS c).map (false::·)
theorem mem_allS:∀ {c:Nat}{s:List Bool},s∈allS c↔s.length=c
 | 0,s=>by simp[allS]
 | c+1,s=>by
  cases s with
  | nil=>simp[allS]
  | cons b s =>
   have ih:=mem_allS (c:=c) (s:=s)
   cases b<;>simp[allS,ih]
theorem x2b:∀ c,(allS c).length=2 ^ c
 | 0=>rfl
 | c+1=>by simp[allS,x2b c,Nat.pow_succ];omega
theorem y3d {α:Type}{p q:α->Bool}:∀ {l:List α},(∀ x∈l,q x=true->p x=true)->(l.filter q).length<=(l.filter p).length
 | [],_=>Nat.le_refl _
 | a::l,h=>by
  have ih:=y3d (l:=l) fun x hx=>h x (List.mem_cons_of_mem _ hx)
  rw[List.filter_cons,List.filter_cons]
  by_cases hq:q a=true
  ·rw[if_pos hq,if_pos (h a List.mem_cons_self hq)];simpa using ih
  ·rw[if_neg hq]
   split
   ·simp only[List.length_cons];omega
   ·exact ih
def z2s (W:List (List Int))(s:List Bool):Prop:=∀ v∈W,v.any (so s)=true
theorem so_val {s:List Bool}{y:Int}:so s y=true↔s.getD (y.natAbs-1) false=decide (0<y):=by unfold so;simp
theorem y0o {P:List Pd}{s:List Bool}(h:agB P s=true){y:Int}(hy:y∈P.map (·.1)):so s y=true:=by
 obtain⟨q,hq,rfl⟩:=List.mem_map.mp hy
 exact List.all_eq_true.mp h q hq
theorem w1l (P:List Pd)(s:List Bool):agB P.reverse s=agB P s:=by simp[agB]
theorem Tv_nz {W:List (List Int)}:∀ {r:List Pd},Tv W r->∀ y∈r.map (·.1),y≠0
 | [],_,y,hy=>by simp at hy
 | (l,why)::r,⟨l0,_,hv⟩,y,hy=>by
  rcases List.mem_cons.mp hy with z|z
  ·rw[z];exact l0
  ·exact Tv_nz hv y z
theorem x0f {W:List (List Int)}{r2:List Pd}:∀ {r1:List Pd},Tv W (r1++r2)->Tv W r2
 | [],h=>h
 | (_,_)::r1,h=>x0f (r1:=r1) h.2.2
theorem x6o {W:List (List Int)}{l j:Int}{r:List Pd}{s:List Bool}(h:Tv W ((l,some j)::r))(hm:z2s W s)(ha:agB r s=true):so s l=true:=by
 obtain⟨l0,hj,hv⟩:=h
 obtain⟨j0,j1,hl,ho⟩:=hj j rfl
 have hw:W.getD j.toNat []∈W:=by
  have:j.toNat<W.length:=by omega
  simp[this]
 obtain⟨y,hy,hs⟩:=List.any_eq_true.mp (hm _ hw)
 by_cases e:y=l
 ·rw[←e];exact hs
 ·have h1:=ho y hy e
  have h2:=y0o ha h1
  have h3:=Tv_nz hv _ h1
  rw[x0p (by omega),hs]at h2;cases h2
theorem x5s {l:Int}{a b:List Int}{s:List Bool}(l0:l≠0)(ha:a.any (so s)=true)(hb:b.any (so s)=true):(mrg l a b).any (so s)=true:=by
 obtain⟨y,hy,hys⟩:=List.any_eq_true.mp ha
 obtain⟨z,hz,hzs⟩:=List.any_eq_true.mp hb
 by_cases e:y=l
 ·by_cases e2:z=-l
  ·rw[e2,x0p l0,←e,hys]at hzs;cases hzs
  ·exact List.any_eq_true.mpr ⟨z,mem_mrg.mpr (.inr ⟨hz,e2⟩),hzs⟩
 ·exact List.any_eq_true.mpr ⟨y,mem_mrg.mpr (.inl ⟨hy,e⟩),hys⟩
theorem z7h {W:List (List Int)}{j:Int}(h0:0<=j)(h1:j<W.length):W.getD j.toNat []∈W:=by
 have:j.toNat<W.length:=by omega
 simp[this]
theorem y6p {s:List Bool}:∀ {ts:List Stp}{W:List (List Int)},z2t W ts->z2s W s->z2s (W++wlSt ts) s
 | [],W,_,h=>by simpa[wlSt] using h
 | t::ts,W,hr,h=>by
  obtain⟨h1,h2⟩:=hr
  obtain⟨a0,a1,b0,b1,l1,_,_,e⟩:=h1
  have hm:z2s (W++[t.2.2.2]) s:=fun v hv=>by
   rcases mApp hv with z|z
   ·exact h v z
   ·have:v=t.2.2.2:=by simpa using z
    rw[this,e]
    exact x5s (by omega) (h _ (z7h a0 a1)) (h _ (z7h b0 b1))
  have:=y6p h2 hm
  simpa[wlSt] using this
def GoodP (P:List Pd):Prop:=∀ R q R',P=R++q::R'->q.2=none->∀ m:Nat,1<=m->m<q.1.natAbs->∃ y∈R.map (·.1),y.natAbs=m
def erl:List Bool->List Bool->Bool
 | a::s,b::s'=>if a=b then erl s s' else a
 | _,_=>false
theorem x9p:∀ {k:Nat}{s s':List Bool},(∀ i,i<k->s.getD i false=s'.getD i false)->k<s.length->k<s'.length->s.getD k false=true->s'.getD k false=false->erl s s'=true
 | 0,a::s,b::s',_,_,_,h1,h2=>by
  have e1:a=true:=h1
  have e2:b=false:=h2
  rw[e1,e2];rfl
 | k+1,a::s,b::s',h,l1,l2,h1,h2=>by
  have e:a=b:=h 0 (Nat.succ_pos _)
  show (if a=b then erl s s' else a)=true
  rw[if_pos e]
  exact x9p (k:=k) (fun i hi=>by have:=h (i+1) (by omega);simpa using this) (by simpa using l1) (by simpa using l2) (by simpa using h1) (by simpa using h2)
 | _,[],_,_,l1,_,_,_=>by simp at l1
 | _,_::_,[],_,_,l2,_,_=>by simp at l2
theorem x6r {R R':List Pd}{q:Pd}{P:List Pd}{s s':List Bool}{c:Nat}(hg:GoodP P)(e:P=R++q::R')(hq:q.2=none)(h0:q.1≠0)(hc:q.1.natAbs<=c)(hs:s.length=c)(hs':s'.length=c)(a:agB R s=true)(a':agB R s'=true)(h1:so s (q.1.natAbs:Int)=true)(h2:so s' (q.1.natAbs:Int)=false):erl s s'=true:=by
 refine x9p (k:=q.1.natAbs-1) (fun i hi=>?_) (by omega) (by omega) ?_ ?_
 ·obtain⟨y,hy,ey⟩:=hg R q R' e hq (i+1) (by omega) (by omega)
  have b1:=so_val.mp (y0o a hy)
  have b2:=so_val.mp (y0o a' hy)
  have:y.natAbs-1=i:=by omega
  rw[this]at b1 b2
  rw[b1,b2]
 ·have:=so_val.mp h1
  have e1:((q.1.natAbs:Int)).natAbs-1=q.1.natAbs-1:=by omega
  rw[e1]at this
  rw[this];exact decide_eq_true (by omega)
 ·have:¬ s'.getD (((q.1.natAbs:Int)).natAbs-1) false=decide (0<(q.1.natAbs:Int)):=fun z=>by rw[so_val.mpr z]at h2;cases h2
  have e1:((q.1.natAbs:Int)).natAbs-1=q.1.natAbs-1:=by omega
  rw[e1,decide_eq_true (show 0<(q.1.natAbs:Int) by omega)]at this
  simpa using this
theorem y0d {α:Type}{P R R':List α}{z q:α}(h:P++[z]=R++q::R'):(R'=[]/\R=P/\q=z)∨∃ S,R'=S++[z]/\P=R++q::S:=by
 rcases List.eq_nil_or_concat R' with e|⟨S,y,e⟩
 ·subst e
  obtain⟨h1,h2⟩:=List.append_inj' h rfl
  exact .inl ⟨rfl,h1.symm,by simpa using h2.symm⟩
 ·have e':R'=S++[y]:=by rw[e];simp
  subst e'
  have h':P++[z]=(R++q::S)++[y]:=by rw[h];simp
  obtain⟨h1,h2⟩:=List.append_inj' h' rfl
  have:z=y:=by simpa using h2
  exact .inr ⟨S,by rw[this],h1⟩
theorem GoodP.put {P:List Pd}(h:GoodP P){l j:Int}:GoodP (P++[(l,some j)]):=by
 intro R q R' e hq m h1 h2
 rcases y0d e with ⟨_,_,e3⟩|⟨S,_,e3⟩
 ·rw[e3]at hq;cases hq
 ·exact h R q S e3 hq m h1 h2
structure AllI (c:Nat)(G W:List (List Int))(P:List Pd)(F:List (List Bool)):Prop where
 tv:Tv W P.reverse
 good:GoodP P
 bnd:∀ q∈P,q.1.natAbs<=c
 dis:Dis (P.map (·.1))
 imp:∀ s,z2s G s->z2s W s
 sub:∀ v∈G,v∈W
 lett:∀ v∈W,∀ y∈v,y≠0/\y.natAbs<=c
 told:∀ s:List Bool,s.length=c->z2s G s->(s∈F↔openB P s=false)
 ok:∀ s∈F,s.length=c/\z2s G s
 ord:F.Pairwise fun s s'=>erl s s'=true
theorem x7w {W:List (List Int)}{T:List Int}{x:Int}{i:Nat}(h:z1y W T=some (x,i)):∃ w,W[i]?=some w/\x∈w/\¬ x∈T/\¬ -x∈T/\∀ y∈w,y≠x->-y∈T:=by
 obtain⟨_,_,w,hw,_,ho,hx,h1,h2⟩:=z8n h
 refine⟨w,hw,hx,h1,h2,fun y hy hn=>?_⟩
 by_cases z:-y∈T
 ·exact z
 ·have:y∈z2c w T:=List.mem_filter.mpr ⟨mem_once.mpr hy,by simp[z]⟩
  rw[ho]at this
  exact absurd (by simpa using this) hn
theorem Dis.pre {T U:List Int}(h:Dis (T++U)):Dis T:=fun k l hk=>by
 have hl:=(List.getElem?_eq_some_iff.mp hk).1
 have:=h k l (by rw[List.getElem?_append_left hl];exact hk)
 rw[List.take_append_of_le_length (by omega)]at this
 exact this
theorem Dis.mid {T U:List Int}{l:Int}(h:Dis (T++l::U)):¬ l∈T/\¬ -l∈T:=by
 have:=h T.length l (by simp)
 rw[List.take_left]at this
 exact this
theorem Dis.opp {T:List Int}(h:Dis T){y:Int}(hy:y∈T)(h0:y≠0):¬ -y∈T:=fun hz=>by
 obtain⟨i,hi⟩:=List.mem_iff_getElem?.mp hy
 obtain⟨j,hj⟩:=List.mem_iff_getElem?.mp hz
 have tk:∀ {a b:Nat} {v:Int},T[a]?=some v->a<b->v∈T.take b:=fun {a b v} e lt=>by
  refine List.mem_iff_getElem?.mpr ⟨a,?_⟩
  rw[List.getElem?_take_of_lt lt];exact e
 rcases Nat.lt_trichotomy i j with c|c | c
 ·have:=(h j (-y) hj).2
  rw[Int.neg_neg]at this
  exact this (tk hi c)
 ·rw[c,hj]at hi
  have:=Option.some.inj hi
  omega
 ·exact (h i y hi).2 (tk hj c)
def setT (c:Nat)(T:List Int):List Bool:=(List.range c).map fun (i:Nat)=>decide ((1+(i:Int))∈T)
theorem z9l (c:Nat)(T:List Int):(setT c T).length=c:=by simp[setT]
theorem x0s {c:Nat}{T:List Int}{i:Nat}(h:i<c):(setT c T).getD i false=decide ((1+(i:Int))∈T):=by simp[setT,h]
theorem y8v {c:Nat}{P:List Pd}(hd:Dis (P.map (·.1)))(hb:∀ q∈P,q.1≠0/\q.1.natAbs<=c):agB P (setT c (P.map (·.1)))=true:=by
 refine List.all_eq_true.mpr fun q hq=>?_
 obtain⟨q0,qc⟩:=hb q hq
 have hm:q.1∈P.map (·.1):=List.mem_map.mpr ⟨q,hq,rfl⟩
 rw[so_val,x0s (by omega)]
 have e:(1+((q.1.natAbs-1:Nat):Int))=(q.1.natAbs:Int):=by omega
 rw[e]
 by_cases p:0<q.1
 ·have e2:(q.1.natAbs:Int)=q.1:=by omega
  rw[e2,decide_eq_true p,decide_eq_true hm]
 ·have e2:(q.1.natAbs:Int)=-q.1:=by omega
  rw[e2,decide_eq_false p,decide_eq_false (hd.opp hm q0)]
theorem x4c {c:Nat}{P:List Pd}(hd:Dis (P.map (·.1)))(hf:∀ m:Nat,1<=m->m<=c->∃ y∈P.map (·.1),y.natAbs=m){s:List Bool}(hs:s.length=c)(ha:agB P s=true):s=setT c (P.map (·.1)):=by
 refine List.ext_getElem (by rw[hs,z9l]) fun i h1 h2=>?_
 have hi:i<c:=by omega
 obtain⟨y,hy,ey⟩:=hf (i+1) (by omega) (by omega)
 have b:=so_val.mp (y0o ha hy)
 have ei:y.natAbs-1=i:=by omega
 rw[ei]at b
 have g1:s.getD i false=s[i]:=by simp[h1]
 have g2:(setT c (P.map (·.1))).getD i false=(setT c (P.map (·.1)))[i]:=by
  rw[List.getD_eq_getElem?_getD,List.getElem?_eq_getElem h2];rfl
 rw[←g1,←g2,b,x0s hi]
 by_cases p:0<y
 ·have:(1+(i:Int))=y:=by omega
  rw[this,decide_eq_true p,decide_eq_true hy]
 ·have:(1+(i:Int))=-y:=by omega
  rw[this,decide_eq_false p,decide_eq_false (hd.opp hy (by omega))]
theorem y6b {W:List (List Int)}{P:List Pd}{s:List Bool}{c:Nat}(hb:z0s W (P.map (·.1))=none)(hl:∀ v∈W,∀ y∈v,y≠0/\y.natAbs<=c)(hf:∀ m:Nat,1<=m->m<=c->∃ y∈P.map (·.1),y.natAbs=m)(ha:agB P s=true):z2s W s:=by
 intro v hv
 unfold z0s at hb
 rw[List.findIdx?_eq_none_iff]at hb
 have h1:=hb v hv
 have h2:cnt v (P.map (·.1))≠some 0:=fun z=>by rw[decide_eq_true z]at h1;cases h1
 unfold cnt at h2
 by_cases k:z2b v (P.map (·.1))=true
 ·obtain⟨y,hy,e⟩:=List.any_eq_true.mp k
  exact List.any_eq_true.mpr ⟨y,hy,y0o ha (of_decide_eq_true e)⟩
 ·rw[if_neg k]at h2
  have h3:(z2c v (P.map (·.1))).length≠0:=fun z=>h2 (by rw[z])
  obtain⟨y,hy⟩:=List.exists_mem_of_length_pos (Nat.pos_of_ne_zero h3)
  obtain⟨m1,m2⟩:=List.mem_filter.mp hy
  have hyv:=mem_once.mp m1
  have hno:¬ -y∈P.map (·.1):=by simpa using m2
  obtain⟨y0,yc⟩:=hl v hv y hyv
  obtain⟨z,hz,ez⟩:=hf y.natAbs (by omega) yc
  have:z=y∨z=-y:=by omega
  rcases this with e|e
  ·exact List.any_eq_true.mpr ⟨y,hyv,y0o ha (e▸hz)⟩
  ·exact absurd (e▸hz) hno
theorem w1h {W:List (List Int)}{P:List Pd}{n:Int}(hv:Tv W P.reverse)(n0:0<=n)(n1:n<W.length)(hc:Cov (W.getD n.toNat []) P.reverse) :
 z2t W (goB W P.reverse n (W.getD n.toNat []) W.length).2/\((goB W P.reverse n (W.getD n.toNat []) W.length).1=[]->[]∈W++wlSt (goB W P.reverse n (W.getD n.toNat []) W.length).2) /\
 ((goB W P.reverse n (W.getD n.toNat []) W.length).1≠[]->∃ R l R' j,P=R++(l,none)::R'/\(goB W P.reverse n (W.getD n.toNat []) W.length).1.reverse=R++[(-l,some j)]/\Tv (W++wlSt (goB W P.reverse n (W.getD n.toNat []) W.length).2) ((-l,some j)::R.reverse)):=by
 obtain⟨h1,h2⟩:=z9t W P.reverse [] n (W.getD n.toNat []) W.length (by rw[List.append_nil]) hv hc n0 (by rw[List.append_nil];exact n1) (by rw[List.append_nil])
 rw[List.append_nil]at h1
 have hk:=x6s (ts:=(goB W P.reverse n (W.getD n.toNat []) W.length).2) n0 n1 rfl
 generalize goB W P.reverse n (W.getD n.toNat []) W.length=go at h1 h2 hk
 obtain⟨k0,k1,k2⟩:=hk
 refine⟨h1,fun e=>?_,fun e=>?_⟩
 ·have:=h2.nil e
  rw[this]at k2
  rw[←k2]
  exact z7h k0 k1
 ·obtain⟨r1,l,r2,e1,e2,m,ho⟩:=h2.cons e
  have eP:P=r2.reverse++(l,none)::r1.reverse:=by
   have:=congrArg List.reverse e1
   rw[List.reverse_reverse]at this
   rw[this];simp
  have hv2:Tv W ((l,none)::r2):=by rw[e1]at hv;exact x0f hv
  refine⟨r2.reverse,l,r1.reverse,z5w n W.length go.2,eP,by rw[e2];simp,?_⟩
  rw[List.reverse_reverse]
  refine⟨by have:=hv2.1;omega,fun j hj=>?_,x7k hv2.2.2⟩
  have:j=z5w n W.length go.2:=(Option.some.inj hj).symm
  subst this
  exact⟨k0,k1,by rw[k2];exact m,fun y hy hne=>by rw[k2]at hy;exact ho y hy hne⟩
theorem x0a {T:List Int}{c:Nat}(h:Dis T)(hb:∀ y∈T,y≠0/\y.natAbs<=c):T.length<=c:=by
 have nd:(T.map fun y=>(y.natAbs:Int)).Nodup:=by
  rw[List.nodup_iff_pairwise_ne,List.pairwise_iff_getElem]
  intro i j hi hj hij e
  have hi':i<T.length:=by simpa using hi
  have hj':j<T.length:=by simpa using hj
  simp only[List.getElem_map]at e
  obtain⟨d1,d2⟩:=h j T[j] (List.getElem?_eq_getElem hj')
  have hm:T[i]∈T.take j:=List.mem_iff_getElem?.mpr ⟨i,by rw[List.getElem?_take_of_lt hij,List.getElem?_eq_getElem hi']⟩
  have:T[i]=T[j]∨T[i]=-T[j]:=by omega
  rcases this with z|z
  ·exact d1 (z▸hm)
  ·exact d2 (z▸hm)
 have:=y6s c 0 _ nd fun x hx=>by
  obtain⟨y,hy,rfl⟩:=List.mem_map.mp hx
  have:=hb y hy
  omega
 simpa using this
theorem y0n {W:List (List Int)}{P:List Pd}{i:Nat}(h:z0s W (P.map (·.1))=some i):i<W.length/\Cov (W.getD i []) P.reverse:=by
 unfold z0s at h
 obtain⟨hi,hc,_⟩:=List.findIdx?_eq_some_iff_getElem.mp h
 have hg:W.getD i []=W[i]:=by simp[hi]
 refine⟨hi,?_⟩
 rw[hg]
 have hc':cnt W[i] (P.map (·.1))=some 0:=of_decide_eq_true hc
 unfold cnt at hc'
 by_cases k:z2b W[i] (P.map (·.1))=true
 ·rw[if_pos k]at hc';cases hc'
 ·rw[if_neg k]at hc'
  have h0:z2c W[i] (P.map (·.1))=[]:=List.length_eq_zero_iff.mp (Option.some.inj hc')
  intro y hy
  have:¬ y∈z2c W[i] (P.map (·.1)):=by rw[h0];simp
  by_cases z:-y∈P.map (·.1)
  ·simpa using z
  ·exact absurd (List.mem_filter.mpr ⟨mem_once.mpr hy,by simp[z]⟩) this
def openN:List Pd->List Bool->Bool
 | [],_=>true
 | q::P,s=>if so s q.1=true then openN P s else q.2.isNone
theorem z9q (Q:List Pd)(s:List Bool):∀ P:List Pd,openN (P++Q) s=if agB P s=true then openN Q s else openN P s
 | []=>by simp[agB]
 | q::P=>by
  have ih:=z9q Q s P
  show (if so s q.1=true then openN (P++Q) s else q.2.isNone)=_
  have e:agB (q::P) s=(so s q.1&&agB P s):=by simp[agB]
  have e2:openN (q::P) s=if so s q.1=true then openN P s else q.2.isNone:=rfl
  by_cases h:so s q.1=true
  ·rw[if_pos h,ih,e,e2,if_pos h,h];simp
  ·rw[if_neg h,e,e2,if_neg h];simp[h]
theorem y1r {s:List Bool}:∀ {P:List Pd},agB P s=true->openN P s=true
 | [],_=>rfl
 | q::P,h=>by
  have e:agB (q::P) s=(so s q.1&&agB P s):=by simp[agB]
  rw[e,Bool.and_eq_true]at h
  show (if so s q.1=true then openN P s else q.2.isNone)=true
  rw[if_pos h.1];exact y1r h.2
theorem x4t {P:List Pd}{q:Pd}{s:List Bool}(h:openN (P++[q]) s=true):openN P s=true:=by
 rw[z9q]at h
 by_cases a:agB P s=true
 ·exact y1r a
 ·rw[if_neg a]at h;exact h
theorem x4s {R R':List Pd}{l j:Int}(l0:l≠0){s:List Bool}(h:openN (R++[(-l,some j)]) s=true):openN (R++(l,none)::R') s=true:=by
 rw[z9q]at h ⊢
 by_cases a:agB R s=true
 ·rw[if_pos a]at h ⊢
  have h1:so s (-l)=true:=by
   cases e:so s (-l) with
   | true=>rfl
   | false =>
    have h':(if so s (-l)=true then true else false)=true:=h
    rw[e]at h';simp at h'
  have e:=x0p (bs:=s) (n:=l) l0
  have h2:so s l=false:=by
   rw[h1]at e
   cases h3:so s l with
   | false=>rfl
   | true=>rw[h3]at e;cases e
  show (if so s l=true then openN R' s else true)=true
  rw[h2];simp
 ·rw[if_neg a]at h ⊢;exact h
theorem x2n {R:List Pd}{l j:Int}(l0:l≠0){s:List Bool}(a:agB R s=true)(hl:so s l=true):openN (R++[(-l,some j)]) s=false:=by
 rw[z9q,if_pos a]
 show (if so s (-l)=true then true else false)=false
 rw[x0p l0,hl];simp
def upto (k:Nat)(P:List Pd):List Pd:=P.filter fun q=>decide (q.1.natAbs<=k)
def nk (k:Nat)(P:List Pd):Nat:=((allS k).filter (openN (upto k P))).length
theorem y4m (k:Nat)(P Q:List Pd):upto k (P++Q)=upto k P++upto k Q:=by simp[upto]
theorem x1h {k:Nat}{P:List Pd}{q:Pd}:nk k (P++[q])<=nk k P:=by
 unfold nk
 refine y3d fun s _ h=>?_
 rw[y4m]at h
 by_cases z:q.1.natAbs<=k
 ·have:upto k [q]=[q]:=by simp[upto,z]
  rw[this]at h;exact x4t h
 ·have:upto k [q]=[]:=by simp[upto,z]
  rw[this,List.append_nil]at h;exact h
theorem w0s {k:Nat}{Q:List Pd}:∀ {P:List Pd},nk k (P++Q)<=nk k P:=by
 induction Q with
 | nil=>intro P;rw[List.append_nil];exact Nat.le_refl _
 | cons q Q ih =>
  intro P
  have e:P++q::Q=(P++[q])++Q:=by simp
  rw[e]
  exact Nat.le_trans ih x1h
theorem dis_pair {T:List Int}:Dis T↔T.Pairwise fun a b=>a≠b/\a≠-b:=by
 rw[List.pairwise_iff_getElem]
 constructor
 ·intro h i j hi hj hij
  obtain⟨h1,h2⟩:=h j T[j] (List.getElem?_eq_getElem hj)
  have hm:T[i]∈T.take j:=List.mem_iff_getElem?.mpr ⟨i,by rw[List.getElem?_take_of_lt hij,List.getElem?_eq_getElem hi]⟩
  exact⟨fun e=>h1 (e▸hm),fun e=>h2 (e▸hm)⟩
 ·intro h k l hk
  obtain⟨hl,e⟩:=List.getElem?_eq_some_iff.mp hk
  have key:∀ y∈T.take k,y≠l/\y≠-l:=fun y hy=>by
   obtain⟨i,hi,ei⟩:=List.mem_iff_getElem.mp hy
   rw[List.getElem_take]at ei
   have hik:i<k:=by simp at hi;omega
   have:=h i k (by omega) hl hik
   rw[ei,e]at this
   exact this
  exact⟨fun z=>(key l z).1 rfl,fun z=>(key (-l) z).2 rfl⟩
theorem x1v {k:Nat}{P:List Pd}(h:Dis (P.map (·.1))):Dis ((upto k P).map (·.1)):=by
 rw[dis_pair]at h ⊢
 exact List.Pairwise.sublist (List.Sublist.map _ List.filter_sublist) h
theorem w2i {k:Nat}{P:List Pd}(hd:Dis (P.map (·.1)))(hz:∀ q∈P,q.1≠0):0<nk k P:=by
 refine List.length_pos_iff.mpr fun z=>?_
 have ha:agB (upto k P) (setT k ((upto k P).map (·.1)))=true:=y8v (x1v hd) fun q hq=>by
  obtain⟨h1,h2⟩:=List.mem_filter.mp hq
  exact⟨hz q h1,of_decide_eq_true h2⟩
 have:setT k ((upto k P).map (·.1))∈(allS k).filter (openN (upto k P)):=List.mem_filter.mpr ⟨mem_allS.mpr (z9l k _),y1r ha⟩
 rw[z]at this;cases this
theorem w0t {k:Nat}{R R':List Pd}{l j:Int}(hd:Dis ((R++(l,none)::R').map (·.1)))(hz:∀ q∈R++(l,none)::R',q.1≠0)(hk:l.natAbs<=k):nk k (R++[(-l,some j)])<nk k (R++(l,none)::R'):=by
 have l0:l≠0:=hz (l,none) (by simp)
 have e1:upto k (R++[(-l,some j)])=upto k R++[(-l,some j)]:=by
  rw[y4m]
  have:upto k [((-l:Int),some j)]=[(-l,some j)]:=by simp[upto,hk]
  rw[this]
 have e2:upto k (R++(l,none)::R')=upto k R++(l,none)::upto k R':=by
  rw[y4m]
  have:upto k ((l,none)::R')=(l,none)::upto k R':=by simp[upto,hk]
  rw[this]
 have ha:agB (upto k (R++(l,none)::R')) (setT k ((upto k (R++(l,none)::R')).map (·.1)))=true:=y8v (x1v hd) fun q hq=>by
  obtain⟨h1,h2⟩:=List.mem_filter.mp hq
  exact⟨hz q h1,of_decide_eq_true h2⟩
 unfold nk
 refine y3e (fun s _ h=>?_) (mem_allS.mpr (z9l k ((upto k (R++(l,none)::R')).map (·.1)))) (y1r ha) ?_
 ·rw[e1]at h;rw[e2];exact x4s l0 h
 ·rw[e2,x7i,Bool.and_eq_true]at ha
  have e:∀ s,agB ((l,none)::upto k R') s=(so s l&&agB (upto k R') s):=fun s=>by simp[agB]
  rw[e,Bool.and_eq_true]at ha
  rw[e1]
  rw[e2]at *
  exact x2n l0 ha.1 ha.2.1
def GoodE (k:Nat)(E:List Int)(P:List Pd):Prop:=∀ R q R',P=R++q::R'->q.2=none->q.1.natAbs<=k/\(q.1∈E∨(0<q.1/\(∀ e∈E,e∈R.map (·.1)∨-e∈R.map (·.1))/\∀ m:Nat,1<=m->m<q.1.natAbs->∃ y∈R.map (·.1),y.natAbs=m))
theorem GoodE.put {k:Nat}{E:List Int}{P:List Pd}(h:GoodE k E P){l j:Int}:GoodE k E (P++[(l,some j)]):=by
 intro R q R' e hq
 rcases y0d e with ⟨_,_,e3⟩|⟨S,_,e3⟩
 ·rw[e3]at hq;cases hq
 ·exact h R q S e3 hq
theorem GoodE.guess {k:Nat}{E:List Int}{P:List Pd}(h:GoodE k E P){l:Int}(hk:l.natAbs<=k)(hl:l∈E∨(0<l/\(∀ e∈E,e∈P.map (·.1)∨-e∈P.map (·.1))/\∀ m:Nat,1<=m->m<l.natAbs->∃ y∈P.map (·.1),y.natAbs=m)):GoodE k E (P++[(l,none)]):=by
 intro R q R' e hq
 rcases y0d e with ⟨_,e2,e3⟩|⟨S,_,e3⟩
 ·rw[e2,e3];exact⟨hk,hl⟩
 ·exact h R q S e3 hq
theorem GoodE.pre {k:Nat}{E:List Int}{R R':List Pd}(h:GoodE k E (R++R')):GoodE k E R:=fun R1 q R2 e hq=>h R1 q (R2++R') (by rw[e];simp) hq
structure SI (c k:Nat)(E:List Int)(G W:List (List Int))(P:List Pd):Prop where
 tv:Tv W P.reverse
 bnd:∀ q∈P,q.1.natAbs<=c
 dis:Dis (P.map (·.1))
 imp:∀ s,z2s G s->z2s W s
 sub:∀ v∈G,v∈W
 lett:∀ v∈W,∀ y∈v,y≠0/\y.natAbs<=c
 good:GoodE k E P
theorem SI.zero {c k:Nat}{E:List Int}{G W:List (List Int)}(hi:∀ s,z2s G s->z2s W s)(hs:∀ v∈G,v∈W)(hl:∀ v∈W,∀ y∈v,y≠0/\y.natAbs<=c):SI c k E G W [] :=
 ⟨trivial,(fun _ h=>nomatch h),fun k l hk=>by simp at hk,hi,hs,hl,fun R q R' e=>by simp at e⟩
theorem SI.nz {c k:Nat}{E:List Int}{G W:List (List Int)}{P:List Pd}(h:SI c k E G W P):∀ q∈P,q.1≠0/\q.1.natAbs<=c:=fun q hq=>⟨Tv_nz h.tv q.1 (by simpa using ⟨q.2,hq⟩),h.bnd q hq⟩
theorem SI.len {c k:Nat}{E:List Int}{G W:List (List Int)}{P:List Pd}(h:SI c k E G W P):P.length<=c:=by
 have:=x0a (c:=c) h.dis fun y hy=>by
  obtain⟨q,hq,rfl⟩:=List.mem_map.mp hy
  exact h.nz q hq
 simpa using this
theorem SI.force {c k:Nat}{E:List Int}{G W:List (List Int)}{P:List Pd}(h:SI c k E G W P){x:Int}{i:Nat}(hn:z1y W (P.map (·.1))=some (x,i)):SI c k E G W (P++[(x,some (i:Int))]):=by
 obtain⟨w,hw,hx,h1,h2,ho⟩:=x7w hn
 have hwm:=List.mem_of_getElem? hw
 have hil:i<W.length:=(List.getElem?_eq_some_iff.mp hw).1
 have hg:W.getD i []=w:=by simp[List.getD,hw]
 obtain⟨x0,xc⟩:=h.lett w hwm x hx
 have tv':Tv W ((x,some (i:Int))::P.reverse):=⟨x0,fun j hj=>by
  have:j=(i:Int):=(Option.some.inj hj).symm
  subst this
  have et:((i:Int)).toNat=i:=by omega
  rw[et,hg]
  exact⟨by omega,by omega,hx,fun y hy hne=>by have:=ho y hy hne;simpa using this⟩,h.tv⟩
 refine⟨by rw[List.reverse_append];exact tv',fun q hq=>?_,by rw[List.map_append];exact h.dis.snoc h1 h2,h.imp,h.sub,h.lett,h.good.put⟩
 rcases mApp hq with z|z
 ·exact h.bnd q z
 ·have:q=(x,some (i:Int)):=by simpa using z
  rw[this];exact xc
theorem SI.run {c k:Nat}{E:List Int}{G W:List (List Int)}{T:List Int}{r:List (Int×Nat)}(hr:Run W T r):∀ {P:List Pd},P.map (·.1)=T->SI c k E G W P->SI c k E G W (P++r.map fun p=>(p.1,some (p.2:Int)))/\z1y W ((P++r.map fun p=>(p.1,some (p.2:Int))).map (·.1))=none:=by
 induction hr with
 | stop h =>
  intro P e hi
  rw[List.map_nil,List.append_nil]
  exact⟨hi,by rw[e];exact h⟩
 | @step T x i r hn hr ih =>
  intro P e hi
  have h1:=hi.force (by rw[e];exact hn)
  obtain⟨a,d⟩:=ih (P:=P++[(x,some (i:Int))]) (by rw[List.map_append,e];rfl) h1
  have el:P++[(x,some (i:Int))]++r.map (fun p=>(p.1,some (p.2:Int)))=P++((x,i)::r).map fun p=>(p.1,some (p.2:Int)):=by simp
  rw[el]at a d
  exact⟨a,d⟩
theorem SI.guess {c k:Nat}{E:List Int}{G W:List (List Int)}{P:List Pd}(h:SI c k E G W P){l:Int}(l0:l≠0)(lc:l.natAbs<=c)(hk:l.natAbs<=k)(h1:¬ l∈P.map (·.1))(h2:¬ -l∈P.map (·.1))(hl:l∈E∨(0<l/\(∀ e∈E,e∈P.map (·.1)∨-e∈P.map (·.1))/\∀ m:Nat,1<=m->m<l.natAbs->∃ y∈P.map (·.1),y.natAbs=m)):SI c k E G W (P++[(l,none)]):=by
 refine⟨by rw[List.reverse_append];exact⟨l0,(fun j hj=>by cases hj),h.tv⟩,fun q hq=>?_,by rw[List.map_append];exact h.dis.snoc h1 h2,h.imp,h.sub,h.lett,h.good.guess hk hl⟩
 rcases mApp hq with z|z
 ·exact h.bnd q z
 ·have:q=(l,none):=by simpa using z
  rw[this];exact lc
theorem x6j {W:List (List Int)}:∀ (r:List Pd)(hand:Int)(wish:List Int)(n:Int),(goB W r hand wish n).1≠[]->wish≠[]/\∀ t∈(goB W r hand wish n).2,t.2.2.2≠[]
 | [],_,_,_,h=>absurd rfl h
 | (l,why)::r,hand,wish,n,h=>by
  by_cases c:-l∈wish
  ·cases why with
   | none =>
    have e:goB W ((l,none)::r) hand wish n=((-l,some hand)::r,[]):=by rw[goB,if_pos c]
    rw[e]
    exact⟨fun z=>by rw[z]at c;simp at c,fun t ht=>nomatch ht⟩
   | some j =>
    have e:goB W ((l,some j)::r) hand wish n=((goB W r n (stepB W hand wish l j).2.2.2 (n+1)).1,stepB W hand wish l j::(goB W r n (stepB W hand wish l j).2.2.2 (n+1)).2):=by rw[goB,if_pos c]
    rw[e]at h ⊢
    obtain⟨a,b⟩:=x6j r n (stepB W hand wish l j).2.2.2 (n+1) h
    refine⟨fun z=>by rw[z]at c;simp at c,fun t ht=>?_⟩
    rcases List.mem_cons.mp ht with z|z
    ·rw[z];exact a
    ·exact b t z
  ·have e:goB W ((l,why)::r) hand wish n=goB W r hand wish n:=z6q c
   rw[e]at h ⊢
   exact x6j r hand wish n h
theorem y1b {wish:List Int}:∀ {ts:List Stp},z9h wish ts=[]->wish≠[]->∃ pre t,ts=pre++[t]/\t.2.2.2=[]
 | [],h,hne=>absurd h hne
 | [t],h,_=>⟨[],t,rfl,h⟩
 | t::t2::ts,h,_=>by
  by_cases z:t.2.2.2=[]
  ·-- then all that follow stay as they are: told by the last
   have:∀ (ts:List Stp) (w:List Int) (t0:Stp),z9h w (t0::ts)=[]->∃ pre t,t0::ts=pre++[t]/\t.2.2.2=[]:=by
    intro ts
    induction ts with
    | nil=>intro w t0 h;exact⟨[],t0,rfl,h⟩
    | cons t1 ts ih =>
     intro w t0 h
     obtain⟨pre,u,e1,e2⟩:=ih t0.2.2.2 t1 h
     exact⟨t0::pre,u,by rw[e1];rfl,e2⟩
   exact this (t2::ts) wish t h
  ·obtain⟨pre,u,e1,e2⟩:=y1b (wish:=t.2.2.2) (ts:=t2::ts) h z
   exact⟨t::pre,u,by rw[e1];rfl,e2⟩
theorem SI.back {c k:Nat}{E:List Int}{G W:List (List Int)}{P:List Pd}(h:SI c k E G W P){n:Int}(n0:0<=n)(n1:n<W.length)(hc:Cov (W.getD n.toNat []) P.reverse)
 {go:List Pd×List Stp} (hgo:goB W P.reverse n (W.getD n.toNat []) W.length=go) :
 go.2.length<=P.length/\(∀ t∈go.2,t.2.2.2.length<=P.length)/\z2t W go.2/\(∀ s,z2s W s->z2s (W++wlSt go.2) s) /\
 (go.1=[]->SI c k E G (W++wlSt go.2) []/\[]∈W++wlSt go.2/\(W.getD n.toNat []≠[]->∃ pre t,go.2=pre++[t]/\t.2.2.2=[])/\(W.getD n.toNat []=[]->go.2=[])) /\
 (go.1≠[]->W.getD n.toNat []≠[]/\(∀ t∈go.2,t.2.2.2≠[])/\SI c k E G (W++wlSt go.2) go.1.reverse/\nk k go.1.reverse<nk k P):=by
 subst hgo
 obtain⟨b1,b2,b3⟩:=w1h h.tv n0 n1 hc
 obtain⟨_,g2⟩:=z9t W P.reverse [] n (W.getD n.toNat []) W.length (by rw[List.append_nil]) h.tv hc n0 (by rw[List.append_nil];exact n1) (by rw[List.append_nil])
 have hs:=z6v (P:=fun y=>y≠0/\y.natAbs<=c) (W:=W) h.lett P.reverse n (W.getD n.toNat []) W.length h.tv hc (h.lett _ (z7h n0 n1))
 have hl:=z8c (W:=W) P.reverse n (W.getD n.toNat []) W.length
 have hne:=x6j (W:=W) P.reverse n (W.getD n.toNat []) W.length
 have hnil:W.getD n.toNat []=[]->(goB W P.reverse n (W.getD n.toNat []) W.length).2=[]:=fun e=>by
  rw[e]
  have:∀ (r:List Pd) (n m:Int),(goB W r n [] m).2=[]:=fun r=>by
   induction r with
   | nil=>intro n m;rfl
   | cons q r ih=>intro n m;obtain⟨l,why⟩:=q;rw[z6q (by simp)];exact ih n m
  exact this _ _ _
 generalize goB W P.reverse n (W.getD n.toNat []) W.length=go at b1 b2 b3 hs hl hne hnil g2
 rw[List.length_reverse]at hl
 have hw:∀ v∈wlSt go.2,∀ y∈v,y≠0/\y.natAbs<=c:=fun v hv=>by
  unfold wlSt at hv
  obtain⟨t,ht,rfl⟩:=List.mem_map.mp hv
  exact (hs t ht).2
 have hi:∀ s,z2s W s->z2s (W++wlSt go.2) s:=fun s hs=>y6p b1 hs
 have hlett:∀ v∈W++wlSt go.2,∀ y∈v,y≠0/\y.natAbs<=c:=fun v hv=>(mApp hv).elim (h.lett v) (hw v)
 refine⟨hl,fun t ht=>by have:=(hs t ht).1;rwa [List.length_reverse]at this,b1,hi,fun e=>⟨?_,b2 e,fun hz=>y1b (g2.nil e) hz,hnil⟩,fun e=>?_⟩
 ·exact SI.zero (fun s hs=>hi s (h.imp s hs)) (fun v hv=>List.mem_append_left _ (h.sub v hv)) hlett
 ·obtain⟨R,l,R',j,e1,e2,e3⟩:=b3 e
  obtain⟨z1,z2⟩:=hne e
  have hd:=h.dis
  rw[e1,List.map_append,List.map_cons]at hd
  obtain⟨d1,d2⟩:=hd.mid
  have hg:=h.good
  rw[e1]at hg
  refine⟨z1,z2,?_,?_⟩
  ·rw[e2]
   refine⟨by rw[List.reverse_append];exact e3,fun q hq=>?_,by rw[List.map_append];exact hd.pre.snoc d2 (by rw[Int.neg_neg];exact d1),fun s hs=>hi s (h.imp s hs),fun v hv=>List.mem_append_left _ (h.sub v hv),hlett,hg.pre.put⟩
   rcases mApp hq with z|z
   ·exact h.bnd q (by rw[e1];exact List.mem_append_left _ z)
   ·have:q=(-l,some j):=by simpa using z
    have hb:l.natAbs<=c:=h.bnd (l,none) (by rw[e1];simp)
    rw[this]
    show (-l).natAbs<=c
    omega
  ·rw[e2,e1]
   have hk:=(hg R (l,none) R' rfl rfl).1
   exact w0t (by rw[←e1];exact h.dis) (fun q hq=>(h.nz q (by rw[e1];exact hq)).1) hk
theorem GoodE.nil {k:Nat}{P:List Pd}(h:GoodE k [] P):GoodP P/\∀ q∈P,q.2=none->0<q.1:=by
 refine⟨fun R q R' e hq=>?_,fun q hq hn=>?_⟩
 ·rcases (h R q R' e hq).2 with z|z
  ·cases z
  ·exact z.2.2
 ·obtain⟨R,R',e⟩:=List.append_of_mem hq
  rcases (h R q R' e hn).2 with z|z
  ·cases z
  ·exact z.1
theorem y8a {s:List Bool}:∀ {P:List Pd},agB P s=false->∃ R q R',P=R++q::R'/\agB R s=true/\so s q.1=false
 | [],h=>by cases h
 | q::P,h=>by
  have ea:∀ R,agB (q::R) s=(so s q.1&&agB R s):=fun R=>by simp[agB]
  by_cases c:so s q.1=true
  ·rw[ea,c]at h
   obtain⟨R,q',R',e1,e2,e3⟩:=y8a (P:=P) (by simpa using h)
   exact⟨q::R,q',R',by rw[e1];rfl,by rw[ea,c,e2];rfl,e3⟩
  ·exact⟨[],q,P,rfl,rfl,by simpa using c⟩
theorem SI.found {c k:Nat}{E:List Int}{G W:List (List Int)}{P:List Pd}(h:SI c k E G W P)(hb:z0s W (P.map (·.1))=none)(hf:∀ m:Nat,1<=m->m<=c->∃ y∈P.map (·.1),y.natAbs=m) :
 z2s W (setT c (P.map (·.1)))/\z2s G (setT c (P.map (·.1)))/\(E=[]->∀ s:List Bool,s.length=c->z2s G s->s≠setT c (P.map (·.1))->erl (setT c (P.map (·.1))) s=true):=by
 have ha:=y8v h.dis h.nz
 have hm:=y6b hb h.lett hf ha
 refine⟨hm,fun v hv=>hm v (h.sub v hv),fun hE s hs hG hne=>?_⟩
 have hno:agB P s=false:=Bool.eq_false_iff.mpr fun z=>hne (x4c h.dis hf hs z)
 obtain⟨R,q,R',e,a,n⟩:=y8a hno
 have hg:=h.good
 rw[hE]at hg
 obtain⟨hgp,hlit⟩:=hg.nil
 have hqm:q∈P:=by rw[e];simp
 have hqn:q.2=none:=by
  cases hq:q.2 with
  | none=>rfl
  | some j =>
   have hv2:Tv W ((q.1,some j)::R.reverse):=by
    have e3:P.reverse=R'.reverse++q::R.reverse:=by rw[e];simp
    have:=h.tv
    rw[e3]at this
    have:=x0f this
    rw[←hq];exact this
   have:=x6o hv2 (h.imp s hG) (by rw[w1l];exact a)
   rw[this]at n;cases n
 have q0:=hlit q hqm hqn
 have e1:(q.1.natAbs:Int)=q.1:=by omega
 have haR:agB R (setT c (P.map (·.1)))=true:=by
  have ha2:=ha
  have:agB (R++q::R') (setT c (P.map (·.1)))=true:=by rw[←e];exact ha2
  rw[x7i,Bool.and_eq_true]at this
  exact this.1
 exact x6r hgp e hqn (by omega) (h.bnd q hqm) (z9l c _) hs haR a (by rw[e1];exact List.all_eq_true.mp ha q hqm) (by rw[e1];exact n)
structure Free (c:Nat)(S:List Int)(r:Option Nat):Prop where
 none:r=Option.none->∀ j:Nat,1<=j->j<=c->(j:Int)∈S
 some:∀ x,r=Option.some x->1<=x/\x<=c/\¬ (x:Int)∈S/\∀ j:Nat,1<=j->j<x->(j:Int)∈S
def fv:Option Nat->V
 | .none=>.non
 | .some x=>.int x
theorem y2y {c:Nat}{S:List Int}{r r':Option Nat}(h:Free c S r)(h':Free c S r'):r=r':=by
 cases r with
 | none =>
  cases r' with
  | none=>rfl
  | some y =>
   obtain⟨a,b,d,e⟩:=h'.some y rfl
   exact absurd (h.none rfl y a b) d
 | some x =>
  obtain⟨a,b,d,e⟩:=h.some x rfl
  cases r' with
  | none=>exact absurd (h'.none rfl x a b) d
  | some y =>
   obtain⟨a',b',d',e'⟩:=h'.some y rfl
   by_cases h1:x<y
   ·exact absurd (e' x a h1) d
   ·by_cases h2:y<x
    ·exact absurd (e y a' h2) d'
    ·have:x=y:=by omega
     rw[this]
theorem z2m {T:List Int}{j:Int}(hj:0<=j):j∈T.map absI↔j∈T∨-j∈T:=by
 rw[List.mem_map]
 constructor
 ·rintro⟨x,hx,e⟩
  unfold absI at e
  by_cases h:x<0
  ·rw[if_pos h]at e
   have:x=-j:=by omega
   rw[←this];exact .inr hx
  ·rw[if_neg h]at e
   rw[←e];exact .inl hx
 ·rintro (h|h)
  ·exact⟨j,h,by unfold absI;rw[if_neg (by omega)]⟩
  ·by_cases z:j=0
   ·subst z;exact⟨0,h,rfl⟩
   ·exact⟨-j,h,by unfold absI;rw[if_pos (by omega),Int.neg_neg]⟩
def y8u:Sp:=fun vs H Q _=>∃ (c:Nat) (p:Addr) (T:List Int),vs=[.int c,.ref p]/\H p=some (.dK (mk T))/\c<=1000000/\∀ r,Free c (T.map absI) r->Q (fv r) H
section
variable {P:Program}{w:World}{K:W.Frag}{mg:Str->Option Value}{base:Heap}
theorem y7d (B:Blt mg)(Df:Def K mg "free_lamp" z3k z4f):Cal P w K mg base 1 "free_lamp" z4f y8u:=by
 refine Df.cal sc_free_lamp (fun vs H Q E h=>?_) (fun f cdv A outer s H vs Q E hr h=>?_)
 ·obtain⟨c,p,T,rfl,_⟩:=h;rfl
 ·obtain⟨c,p,T,rfl,hp,hc,q⟩:=h
  have hu:=hu_of hr
  refine⟨_,(z0b (z3a PassesOwn.never rfl (z7y (by rfl) B.range_ (z0a z0i (z0a (pe_op z6o (pv 0) z0i) z0d))) (z1c (i:=2) sc_free_lamp.nd rfl (Or.inl rfl))
 (z0e (ps_if (PW.pt (y0t (z9m (z6t hu (pv 2) (pv 1))) (z7v (z9m (z6t hu (pe_un z1z (pv 2)) (pv 1))))))
 (z0e (z0p (pv 2)))
 z0o)))
 (z0e (z0p z3d))),?_⟩
  refine⟨_,rfl,_,_,rfl,rfl,1,_,rfl,⟨by decide,by decide,by omega,by omega⟩,?_⟩
  have en:((c:Int)+1-1).toNat=c:=by omega
  rw[en]
  refine z5h (fun i σ H4=>∃ v,σ=[some (.int c),some (.ref p),v]/\H4=H/\∀ j:Nat,1<=j->j<=i->(j:Int)∈T.map absI)
   ⟨none,rfl,rfl,fun j h1 h2=>by omega⟩ ?_ ?_
  ·rintro i σ H4 hi ⟨v,rfl,rfl,hall⟩
   have e2:1+(i:Int)=((1+i:Nat):Int):=by omega
   have step:((1+i:Nat):Int)∈T.map absI->∀ j:Nat,1<=j->j<=i+1->(j:Int)∈T.map absI:=fun hm j h1 h2=>by
    by_cases z:j<=i
    ·exact hall j h1 z
    ·have:j=1+i:=by omega
     rw[this];exact hm
   refine⟨_,rfl,_,rfl,p,_,rfl,DGet.k (k:=Sum.inl (1+(i:Int))) hp,_,rfl,?_⟩
   rw[z7o]
   refine ite2 (fun c1=>?_) (fun c1=>?_)
   ·have c1':¬ (1+(i:Int))∈T:=fun z=>by rw[decide_eq_true z]at c1;cases c1
    refine⟨_,rfl,_,rfl,_,rfl,p,_,rfl,DGet.k (k:=Sum.inl (-(1+(i:Int)))) hp,_,rfl,?_⟩
    rw[z7o]
    refine ite2 (fun c2=>?_) (fun c2=>?_)
    ·have c2':¬ (-(1+(i:Int)))∈T:=fun z=>by rw[decide_eq_true z]at c2;cases c2
     refine⟨_,rfl,?_⟩
     rw[e2]
     refine q (some (1+i)) ⟨(fun z=>nomatch z),fun x hx=>?_⟩
     cases hx
     refine⟨by omega,by omega,fun z=>?_,fun j h1 h2=>hall j h1 (by omega)⟩
     rw[←e2]at z
     rcases (z2m (by omega)).mp z with z|z
     ·exact c1' z
     ·exact c2' z
    ·have c2':(-(1+(i:Int)))∈T:=by
      by_cases z:(-(1+(i:Int)))∈T
      ·exact z
      ·exfalso;apply c2;rw[decide_eq_false z];rfl
     exact⟨_,rfl,rfl,step (by rw[←e2];exact (z2m (by omega)).mpr (.inr c2'))⟩
   ·have c1':(1+(i:Int))∈T:=by
     by_cases z:(1+(i:Int))∈T
     ·exact z
     ·exfalso;apply c1;rw[decide_eq_false z];rfl
    refine iteF ?_
    exact⟨_,rfl,rfl,step (by rw[←e2];exact (z2m (by omega)).mpr (.inl c1'))⟩
  ·rintro σ H4 ⟨v,rfl,rfl,hall⟩
   exact q none ⟨fun _ j h1 h2=>hall j h1 h2,fun x hx=>nomatch hx⟩
end
abbrev Sf:=Addr×List Bool
theorem z5m (qs:List Pr):(pdat qs).map (·.1)=lets qs:=by simp[lets,pdat]
def frefs (fs:List Sf):List V:=fs.map fun f=>V.ref f.1
theorem x3n (ws:List Wr)(ss:List Sr):wl (ws++wst ss)=wl ws++wlSt (sls ss):=by simp[wl,wst,wlSt,sls]
theorem w0n (qs:List Pr)(ts:List Nw):pdat (qs++ts.map np)=pdat qs++(ts.map nn).map fun p=>(p.1,some (p.2:Int)):=by simp[pdat,np,nn]
theorem x8n {c:Nat}{T:List Int}(h:∀ j:Nat,1<=j->j<=c->(j:Int)∈T.map absI)(m:Nat)(h1:1<=m)(h2:m<=c):∃ y∈T,y.natAbs=m:=by
 rcases (z2m (by omega)).mp (h m h1 h2) with z|z
 ·exact⟨_,z,by omega⟩
 ·exact⟨_,z,by omega⟩
theorem Fr.not {p:Addr}{x x':Tly}{H H':Hp}(fr:Fr p x x' H H'){b:Addr}{o:HO}(hb:H b=some o)(n:¬ foot p x b):¬ foot p x' b:=fun z=>by
 rcases fr.inn b z with y|y
 ·exact n y
 ·rw[hb]at y;cases y
theorem Tal.out {C:Addr}{H:Hp}{p:Addr}{x:Tly}(h:Tal C H p x){l:Addr}{vs:List V}{o:HO}(hl:H l=some (.lst vs))(n:¬ foot p x l)(nw:∀ r∈x.ws,r.1≠l):Tal C (upd H l o) p x:=by
 have k:∀ {z:Addr} {u:HO},foot p x z->H z=some u->upd H l o z=some u:=fun {z u} hz e=>by rw[z0h (fun q=>n (by rw[←q];exact hz))];exact e
 obtain⟨dx,e⟩:=h.ty.ob
 exact⟨⟨⟨dx,k (.inl rfl) e⟩,k (.inr (.inl rfl)) h.ty.hw,k x1o h.ty.ht,k x6q h.ty.hd,k (.inr (.inr (.inr (.inr (.inl rfl))))) h.ty.hp,h.ty.hM.mono fun m hm=>by rw[k (.inr (.inr (.inr (.inr (.inr (.inr (.inr (.inr (.inr ⟨m,hm,rfl⟩))))))))) (h.ty.hM.ok m hm),h.ty.hM.ok m hm],k (.inr (.inr (.inr (.inr (.inr (.inl rfl)))))) h.ty.hs,k (.inr (.inr (.inr (.inr (.inr (.inr (.inl rfl))))))) h.ty.hl,k (.inr (.inr (.inr (.inr (.inr (.inr (.inr (.inl rfl)))))))) h.ty.hf,k (.inr (.inr (.inr (.inr (.inr (.inr (.inr (.inr (.inl rfl))))))))) h.ty.hg,
  fun r hr=>by rw[z0h (nw r hr)];exact h.ty.wo r hr,fun t ht=>by rw[z0h (ne_of (h.ty.to t ht) hl (by intro z;cases z))];exact h.ty.to t ht,h.ty.nl,h.ty.nd,h.ty.nm,h.ty.nw⟩,h.T,h.pl,h.so,h.lf,h.fg,h.dis,h.ne⟩
theorem z5r {W:List (List Int)}{T:List Int}(h:z0s W T=none){v:List Int}(hv:v∈W):v≠[]:=fun e=>by
 unfold z0s at h
 rw[List.findIdx?_eq_none_iff]at h
 have:=h v hv
 rw[e]at this
 revert this
 have:cnt [] T=some 0:=by simp[cnt,z2b,z2c,once]
 rw[this];decide
def y8r (K:W.Frag)(C:Addr):Sp:=fun vs H Q _=>∃ (c:Nat) (p ae:Addr) (x:Tly) (E:List Int),vs=[.int c,.ref p,.ref ae]/\Tal C H p x/\SqL K H ae (E.map V.int)/\c<=1000000 /\
 (∀ e∈E,¬ e∈x.T->¬ -e∈x.T->Q (.int e) H)/\((∀ e∈E,e∈x.T∨-e∈x.T)->∀ r,Free c (x.T.map absI) r->Q (fv r) H)
section
variable {P:Program}{w:World}{K:W.Frag}{mg:Str->Option Value}{base:Heap}{C:Addr}
theorem y5e (T:TallyCls K mg C)(c_free_lamp:Cal P w K mg base 1 "free_lamp" z4f y8u)(Df:Def K mg "next_guess" z2v z3o):Cal P w K mg base 2 "next_guess" z3o (y8r K C):=by
 refine Df.cal sc_next_guess (fun vs H Q E h=>?_) (fun f cdv A outer s H vs Q E hr h=>?_)
 ·obtain⟨c,p,ae,x,E,rfl,_⟩:=h;rfl
 ·obtain⟨c,p,ae,x,El,rfl,hx,hE,hc,q1,q2⟩:=h
  have hu:=hu_of hr
  refine⟨_,(z0b (z3a PassesOwn.never rfl (z1d (pv 2)) (z1c (i:=3) sc_next_guess.nd rfl (Or.inl rfl))
 (z0e (ps_if (PW.pt (y0t (z9m (z6t hu (pv 3) (z1n (pv 1) rfl))) (z7v (z9m (z6t hu (pe_un z1z (pv 3)) (z1n (pv 1) rfl))))))
 (z0e (z0p (pv 3)))
 z0o)))
 (z0e (z0p (z0v c_free_lamp hr (by decide) (z0a (pv 0) (z0a (z1n (pv 1) rfl) z0d)))))),?_⟩
  obtain⟨d,ob⟩:=hx.ty.ob
  refine⟨_,rfl,ae,rfl,⟨_,hE⟩,z2z (K:=K) (a:=ae) (xs:=El.map V.int) (fun i σ Hx=>∃ v,σ=[some (.int c),some (.ref p),some (.ref ae),v]/\Hx=H/\∀ e∈El.take i,e∈x.T∨-e∈x.T)
   ⟨none,rfl,rfl,by simp⟩ (fun i σ Hx _ ⟨_,_,e,_⟩=>by rw[e];exact hE) ?_ ?_⟩
  ·rintro i y σ Hx hi ⟨v,rfl,rfl,hall⟩
   obtain⟨n,hni,rfl⟩:=getV hi
   have hm:=List.mem_of_getElem? hni
   have step:n∈x.T∨-n∈x.T->∀ e∈El.take (i+1),e∈x.T∨-e∈x.T:=fun hn e he=>by
    rw[List.take_add_one,hni]at he
    rcases mApp he with z|z
    ·exact hall e z
    ·have:e=n:=by simpa using z
     rw[this];exact hn
   refine⟨_,rfl,_,rfl,p,C,d,_,_,rfl,ob,T.cl,T.n3,z5n _,x.ad,_,rfl,DGet.k (k:=Sum.inl n) hx.ty.hd,_,rfl,?_⟩
   rw[z7o]
   refine ite2 (fun c1=>?_) (fun c1=>?_)
   ·have c1':¬ n∈x.T:=fun z=>by rw[decide_eq_true z]at c1;cases c1
    refine⟨_,rfl,n,rfl,_,rfl,p,C,d,_,_,rfl,ob,T.cl,T.n3,z5n _,x.ad,_,rfl,DGet.k (k:=Sum.inl (-n)) hx.ty.hd,_,rfl,?_⟩
    rw[z7o]
    refine ite2 (fun c2=>?_) (fun c2=>?_)
    ·have c2':¬ -n∈x.T:=fun z=>by rw[decide_eq_true z]at c2;cases c2
     exact⟨_,rfl,q1 n hm c1' c2'⟩
    ·have c2':-n∈x.T:=by
      by_cases z:-n∈x.T
      ·exact z
      ·exfalso;apply c2;rw[decide_eq_false z];rfl
     exact⟨_,rfl,rfl,step (.inr c2')⟩
   ·have c1':n∈x.T:=by
     by_cases z:n∈x.T
     ·exact z
     ·exfalso;apply c1;rw[decide_eq_false z];rfl
    refine iteF ?_
    exact⟨_,rfl,rfl,step (.inl c1')⟩
  ·rintro σ Hx ⟨v,rfl,rfl,hall⟩
   rw[List.length_map,List.take_length]at hall
   exact⟨_,rfl,_,rfl,p,C,d,_,_,rfl,ob,T.cl,T.n3,z5n _,c,x.ad,x.T,rfl,hx.ty.hd,hc,q2 hall⟩
end
def f2 (v n:Nat):Nat:=(2 ^ v-1)*2 ^ n
theorem x8q {v n:Nat}(h:0<v):1+f2 (v-1) n+f2 (v-1) n<=f2 v n:=by
 obtain⟨u,rfl⟩:∃ u,v=u+1:=⟨v-1,by omega⟩
 unfold f2
 have h1:0<2 ^ u:=Nat.pow_pos (by decide)
 have h2:0<2 ^ n:=Nat.pow_pos (by decide)
 have e:2 ^ (u+1)-1=(2 ^ u-1)+(2 ^ u-1)+1:=by rw[Nat.pow_succ];omega
 rw[e,Nat.add_mul,Nat.add_mul]
 simp only[Nat.add_sub_cancel,Nat.one_mul]
 omega
theorem w1d {v n:Nat}(h:0<n):f2 v (n-1)+f2 v (n-1)=f2 v n:=by
 obtain⟨u,rfl⟩:∃ u,n=u+1:=⟨n-1,by omega⟩
 unfold f2
 rw[Nat.pow_succ,←Nat.mul_assoc]
 simp only[Nat.add_sub_cancel]
 omega
def phi (b g:Int->Bool):Nat->Nat->List Pd->Nat
 | v,n,[]=>f2 v n
 | v,n,q::P=>if b q.1=true then (if q.2=none then 1+f2 (v-1) n else 1)+phi b g (v-1) n P else if g q.1=true then (if q.2=none then f2 v (n-1) else 0)+phi b g v (n-1) P else phi b g v n P
def cntB (b:Int->Bool)(P:List Pd):Nat:=(P.filter fun q=>b q.1).length
theorem x7b (b:Int->Bool)(q:Pd)(P:List Pd):cntB b (q::P)=(if b q.1=true then 1 else 0)+cntB b P:=by
 unfold cntB
 by_cases h:b q.1=true
 ·rw[if_pos h,List.filter_cons_of_pos (p:=fun q:Pd=>b q.1) h,List.length_cons];omega
 ·rw[if_neg h,List.filter_cons_of_neg (p:=fun q:Pd=>b q.1) h];omega
theorem z8i (b g:Int->Bool)(v n:Nat)(q:Pd)(P:List Pd):phi b g v n (q::P)=if b q.1=true then (if q.2=none then 1+f2 (v-1) n else 1)+phi b g (v-1) n P else if g q.1=true then (if q.2=none then f2 v (n-1) else 0)+phi b g v (n-1) P else phi b g v n P:=rfl
theorem x4p (b g:Int->Bool)(v n:Nat):phi b g v n []=f2 v n:=rfl
theorem y5c {b g:Int->Bool}{q:Pd}:∀ {P:List Pd}{v n:Nat},(b q.1=true->cntB b P<v)->(b q.1=false->g q.1=true->cntB (fun y=>!b y&&g y) P<n)->phi b g v n (P++[q])<=phi b g v n P
 | [],v,n,h1,h2=>by
  show phi b g v n [q]<=f2 v n
  rw[phi]
  by_cases c:b q.1=true
  ·rw[if_pos c,phi]
   have hv:0<v:=Nat.lt_of_le_of_lt (Nat.zero_le _) (h1 c)
   have:=x8q (n:=n) hv
   split<;>omega
  ·rw[if_neg c]
   by_cases d:g q.1=true
   ·rw[if_pos d,phi]
    have hn:0<n:=Nat.lt_of_le_of_lt (Nat.zero_le _) (h2 (by simpa using c) d)
    have:=w1d (v:=v) hn
    split<;>omega
   ·rw[if_neg d,phi];exact Nat.le_refl _
 | p::P,v,n,h1,h2=>by
  rw[List.cons_append,z8i,z8i]
  rw[x7b]at h1 h2
  by_cases c:b p.1=true
  ·rw[if_pos c,if_pos c]
   have:=y5c (P:=P) (v:=v-1) (n:=n) (q:=q) (b:=b) (g:=g) (fun h=>by have:=h1 h;rw[if_pos c]at this;omega) (fun h h'=>by have:=h2 h h';simp[c]at this;exact this)
   omega
  ·rw[if_neg c,if_neg c]
   have cf:b p.1=false:=by simpa using c
   by_cases d:g p.1=true
   ·rw[if_pos d,if_pos d]
    have:=y5c (P:=P) (v:=v) (n:=n-1) (q:=q) (b:=b) (g:=g) (fun h=>by have:=h1 h;rw[if_neg c]at this;omega) (fun h h'=>by have:=h2 h h';simp[cf,d]at this;omega)
    omega
   ·rw[if_neg d,if_neg d]
    have df:g p.1=false:=by simpa using d
    exact y5c (fun h=>by have:=h1 h;rw[if_neg c]at this;omega) (fun h h'=>by have:=h2 h h';simp[cf,df]at this;exact this)
def cntF (b:Int->Bool)(P:List Pd):Nat:=(P.filter fun q=>b q.1&&q.2.isSome).length
theorem z8e (b:Int->Bool)(q:Pd)(P:List Pd):cntF b (q::P)=(if b q.1=true/\q.2≠none then 1 else 0)+cntF b P:=by
 unfold cntF
 by_cases h:b q.1=true/\q.2≠none
 ·rw[if_pos h,List.filter_cons_of_pos (by simp[h.1,Option.isSome_iff_ne_none.mpr h.2]),List.length_cons];omega
 ·rw[if_neg h,List.filter_cons_of_neg]
  ·omega
  ·intro z
   rw[Bool.and_eq_true]at z
   exact h ⟨z.1,Option.isSome_iff_ne_none.mp z.2⟩
theorem y0m {b g:Int->Bool}:∀ {P:List Pd}{v n:Nat},cntF b P<=phi b g v n P
 | [],v,n=>Nat.zero_le _
 | q::P,v,n=>by
  rw[z8e,phi]
  have h1:=y0m (b:=b) (g:=g) (P:=P) (v:=v-1) (n:=n)
  have h2:=y0m (b:=b) (g:=g) (P:=P) (v:=v) (n:=n-1)
  have h3:=y0m (b:=b) (g:=g) (P:=P) (v:=v) (n:=n)
  by_cases c:b q.1=true
  ·rw[if_pos c];split<;>split<;>omega
  ·rw[if_neg c,if_neg (fun z=>c z.1)]
   split<;>omega
theorem y1q {b g:Int->Bool}{l j:Int}(hb:b (-l)=b l)(hg:g (-l)=g l)(ho:b l=true∨g l=true){R':List Pd}:∀ {R:List Pd}{v n:Nat},phi b g v n (R++[(-l,some j)])+cntF b R'<=phi b g v n (R++(l,none)::R')
 | [],v,n=>by
  rw[List.nil_append,List.nil_append,z8i,z8i]
  dsimp only
  have h1:=y0m (b:=b) (g:=g) (P:=R') (v:=v-1) (n:=n)
  have h2:=y0m (b:=b) (g:=g) (P:=R') (v:=v) (n:=n-1)
  rw[hb,hg]
  by_cases c:b l=true
  ·rw[if_pos c,if_pos c,x4p];simp;omega
  ·rw[if_neg c,if_neg c]
   have d:g l=true:=ho.resolve_left c
   rw[if_pos d,if_pos d,x4p];simp;omega
 | q::R,v,n=>by
  rw[List.cons_append,List.cons_append,z8i,z8i]
  have h1:=y1q hb hg ho (R':=R') (R:=R) (v:=v-1) (n:=n) (j:=j)
  have h2:=y1q hb hg ho (R':=R') (R:=R) (v:=v) (n:=n-1) (j:=j)
  have h3:=y1q hb hg ho (R':=R') (R:=R) (v:=v) (n:=n) (j:=j)
  split
  ·omega
  ·split<;>omega
theorem y9w {W:List (List Int)}{O:Int->Prop}{b:Int->Bool}(hO:∀ y,O y->O (-y)->b y=true)(hW:∀ v∈W,∀ y∈v,O y):∀ (r:List Pd)(hand:Int)(wish:List Int)(n:Int),Tv W r->(∀ y∈wish,O y) ->
 ((goB W r hand wish n).1=[]/\(goB W r hand wish n).2.length<=cntF b r)∨∃ R' l R h,r=R'++(l,none)::R/\(goB W r hand wish n).1=(-l,some h)::R/\(goB W r hand wish n).2.length<=cntF b R'/\O (-l)
 | [],_,_,_,_,_=>.inl ⟨rfl,Nat.zero_le _⟩
 | (l,why)::r,hand,wish,n,ht,hw=>by
  have ht':Tv W r:=ht.2.2
  by_cases c:-l∈wish
  ·cases why with
   | none =>
    have e:goB W ((l,none)::r) hand wish n=((-l,some hand)::r,[]):=by rw[goB,if_pos c]
    rw[e]
    exact .inr ⟨[],l,r,hand,rfl,rfl,Nat.zero_le _,hw _ c⟩
   | some j =>
    have e:goB W ((l,some j)::r) hand wish n=((goB W r n (stepB W hand wish l j).2.2.2 (n+1)).1,stepB W hand wish l j::(goB W r n (stepB W hand wish l j).2.2.2 (n+1)).2):=by rw[goB,if_pos c]
    rw[e]
    obtain⟨j0,j1,hl,_⟩:=ht.2.1 j rfl
    have hm:W.getD j.toNat []∈W:=by
     have hk:j.toNat<W.length:=by omega
     have e:W.getD j.toNat []=W[j.toNat]:=by simp[List.getD,hk]
     rw[e];exact List.getElem_mem hk
    have hbl:b l=true:=hO l (hW _ hm l hl) (hw _ c)
    have ih:=y9w hO hW r n (stepB W hand wish l j).2.2.2 (n+1) ht' fun y hy=>by
     rcases mem_stepB.mp hy with z|z
     ·exact hW _ hm y z.1
     ·exact hw y z.1
    rcases ih with ⟨e1,e2⟩|⟨R',l',R,h,e1,e2,e3,e4⟩
    ·refine .inl ⟨e1,?_⟩
     rw[z8e,if_pos ⟨hbl,by simp⟩,List.length_cons];omega
    ·refine .inr ⟨(l,some j)::R',l',R,h,by rw[e1];rfl,e2,?_,e4⟩
     rw[z8e,if_pos ⟨hbl,by simp⟩,List.length_cons];omega
  ·rw[z6q c]
   rcases y9w hO hW r hand wish n ht' hw with ⟨e1,e2⟩|⟨R',l',R,h,e1,e2,e3,e4⟩
   ·exact .inl ⟨e1,by rw[z8e];omega⟩
   ·exact .inr ⟨(l,why)::R',l',R,h,by rw[e1];rfl,e2,by rw[z8e];omega,e4⟩
theorem x1x (b:Int->Bool)(P:List Pd):cntF b P.reverse=cntF b P:=by simp[cntF,List.filter_reverse]
theorem x8w {W:List (List Int)}{O:Int->Prop}{b g:Int->Bool}(hO:∀ y,O y->O (-y)->b y=true)(hG:∀ q:Int,0<q->O (-q)->b q=true∨g q=true)(hb:∀ y,b (-y)=b y)(hg:∀ y,g (-y)=g y)(hW:∀ v∈W,∀ y∈v,O y){P:List Pd}(ht:Tv W P.reverse)(hp:∀ q∈P,q.2=none->0<q.1){hand:Int}{wish:List Int}{n:Int}(hw:∀ y∈wish,O y){v m:Nat} :
 ((goB W P.reverse hand wish n).1=[]->(goB W P.reverse hand wish n).2.length<=phi b g v m P)/\((goB W P.reverse hand wish n).1≠[]->(goB W P.reverse hand wish n).2.length+phi b g v m (goB W P.reverse hand wish n).1.reverse<=phi b g v m P):=by
 have h:=y9w hO hW P.reverse hand wish n ht hw
 generalize goB W P.reverse hand wish n=go at h
 rcases h with ⟨e1,e2⟩|⟨R',l,R,h,e1,e2,e3,e4⟩
 ·refine⟨fun _=>?_,fun z=>absurd e1 z⟩
  rw[x1x]at e2
  exact Nat.le_trans e2 y0m
 ·refine⟨fun z=>absurd (e2.symm.trans z) (by simp),fun _=>?_⟩
  have eP:P=R.reverse++(l,none)::R'.reverse:=by
   have:=congrArg List.reverse e1
   simpa using this
  have hl:0<l:=hp (l,none) (by rw[eP];simp) rfl
  have f:=y1q (b:=b) (g:=g) (j:=h) (hb l) (hg l) (hG l hl e4) (R':=R'.reverse) (R:=R.reverse) (v:=v) (n:=m)
  rw[x1x]at f
  rw[e2,eP,List.reverse_cons]
  omega
abbrev Sx:=List (List Int)×List Pd
inductive Ends (c:Nat):Sx->Sx->Prop where
 | stopB {W:List (List Int)} {P:List Pd} {i:Nat} (h:z0s W (P.map (·.1))=some i) (g:(goB W P.reverse (i:Int) (W.getD i []) W.length).1=[]):Ends c (W,P) (W++wlSt (goB W P.reverse (i:Int) (W.getD i []) W.length).2,[])
 | stopY {W:List (List Int)} {P:List Pd} (h:z0s W (P.map (·.1))=none) (g:z1y W (P.map (·.1))=none) (f:Free c ((P.map (·.1)).map absI) none):Ends c (W,P) (W,P)
 | back {W:List (List Int)} {P:List Pd} {i:Nat} {y:Sx} (h:z0s W (P.map (·.1))=some i) (g:(goB W P.reverse (i:Int) (W.getD i []) W.length).1≠[]) (e:Ends c (W++wlSt (goB W P.reverse (i:Int) (W.getD i []) W.length).2,(goB W P.reverse (i:Int) (W.getD i []) W.length).1.reverse) y):Ends c (W,P) y
 | force {W:List (List Int)} {P:List Pd} {x:Int} {i:Nat} {y:Sx} (g:z1y W (P.map (·.1))=some (x,i)) (e:Ends c (W,P++[(x,some (i:Int))]) y):Ends c (W,P) y
 | guess {W:List (List Int)} {P:List Pd} {k:Nat} {y:Sx} (h:z0s W (P.map (·.1))=none) (g:z1y W (P.map (·.1))=none) (f:Free c ((P.map (·.1)).map absI) (some k)) (e:Ends c (W,P++[((k:Int),none)]) y):Ends c (W,P) y
theorem z5u {W:List (List Int)}{T:List Int}{x:Int×Nat}(h:z1y W T=some x):z0s W T=none:=by
 unfold z1y at h
 cases hb:z0s W T with
 | some j=>rw[hb]at h;cases h
 | none=>rfl
theorem Ends.one {c:Nat}{x y:Sx}(h:Ends c x y):∀ {z:Sx},Ends c x z->y=z:=by
 induction h with
 | @stopB W P i h g =>
  intro z hz
  cases hz with
  | stopB h' g'=>rw[h]at h';cases h';rfl
  | stopY h' g' f'=>rw[h]at h';cases h'
  | back h' g' e'=>rw[h]at h';cases h';exact absurd g g'
  | force g' e'=>rw[z5u g']at h;cases h
  | guess h' g' f' e'=>rw[h]at h';cases h'
 | @stopY W P h g f =>
  intro z hz
  cases hz with
  | stopB h' g'=>rw[h]at h';cases h'
  | stopY h' g' f'=>rfl
  | back h' g' e'=>rw[h]at h';cases h'
  | force g' e'=>rw[g]at g';cases g'
  | guess h' g' f' e'=>cases y2y f f'
 | @back W P i y h g e ih =>
  intro z hz
  cases hz with
  | stopB h' g'=>rw[h]at h';cases h';exact absurd g' g
  | stopY h' g' f'=>rw[h]at h';cases h'
  | back h' g' e'=>rw[h]at h';cases h';exact ih e'
  | force g' e'=>rw[z5u g']at h;cases h
  | guess h' g' f' e'=>rw[h]at h';cases h'
 | @force W P x i y g e ih =>
  intro z hz
  cases hz with
  | stopB h' g'=>rw[z5u g]at h';cases h'
  | stopY h' g' f'=>rw[g]at g';cases g'
  | back h' g' e'=>rw[z5u g]at h';cases h'
  | force g' e'=>rw[g]at g';cases g';exact ih e'
  | guess h' g' f' e'=>rw[g]at g';cases g'
 | @guess W P k y h g f e ih =>
  intro z hz
  cases hz with
  | stopB h' g'=>rw[h]at h';cases h'
  | stopY h' g' f'=>cases y2y f f'
  | back h' g' e'=>rw[h]at h';cases h'
  | force g' e'=>rw[g]at g';cases g'
  | guess h' g' f' e'=>cases y2y f f';exact ih e'
def Till (c:Nat)(x0 x:Sx):Prop:=∀ y,Ends c x y->Ends c x0 y
theorem Till.run {c:Nat}{x0:Sx}{W:List (List Int)}{T:List Int}{r:List (Int×Nat)}(hr:Run W T r):∀ {P:List Pd},P.map (·.1)=T->Till c x0 (W,P)->Till c x0 (W,P++r.map fun p=>(p.1,some (p.2:Int))):=by
 induction hr with
 | stop h=>intro P e hi;rw[List.map_nil,List.append_nil];exact hi
 | @step T x i r hn hr ih =>
  intro P e hi
  have:=ih (P:=P++[(x,some (i:Int))]) (by rw[List.map_append,e];rfl) fun y hy=>hi y (.force (by rw[e];exact hn) hy)
  have el:P++[(x,some (i:Int))]++r.map (fun p=>(p.1,some (p.2:Int)))=P++((x,i)::r).map fun p=>(p.1,some (p.2:Int)):=by simp
  rw[el]at this
  exact this
theorem Till.guess {c:Nat}{x0:Sx}{W:List (List Int)}{P:List Pd}{k:Nat}(hi:Till c x0 (W,P))(h:z0s W (P.map (·.1))=none)(g:z1y W (P.map (·.1))=none)(f:Free c ((P.map (·.1)).map absI) (some k)):Till c x0 (W,P++[((k:Int),none)]):=fun y hy=>hi y (.guess h g f hy)
theorem Till.back {c:Nat}{x0:Sx}{W:List (List Int)}{P:List Pd}{i:Nat}(hi:Till c x0 (W,P))(h:z0s W (P.map (·.1))=some i){go:List Pd×List Stp}(hgo:goB W P.reverse (i:Int) (W.getD i []) W.length=go)(g:go.1≠[]):Till c x0 (W++wlSt go.2,go.1.reverse):=by
 subst hgo
 exact fun y hy=>hi y (.back h g hy)
theorem Till.stopB {c:Nat}{x0:Sx}{W:List (List Int)}{P:List Pd}{i:Nat}(hi:Till c x0 (W,P))(h:z0s W (P.map (·.1))=some i){go:List Pd×List Stp}(hgo:goB W P.reverse (i:Int) (W.getD i []) W.length=go)(g:go.1=[]):Ends c x0 (W++wlSt go.2,[]):=by
 subst hgo
 exact hi _ (.stopB h g)
theorem Till.stopY {c:Nat}{x0:Sx}{W:List (List Int)}{P:List Pd}(hi:Till c x0 (W,P))(h:z0s W (P.map (·.1))=none)(g:z1y W (P.map (·.1))=none)(f:Free c ((P.map (·.1)).map absI) none):Ends c x0 (W,P):=hi _ (.stopY h g f)
theorem z6u {α:Type} [DecidableEq α]:∀ {l m:List α},l.Nodup->(∀ x∈l,x∈m)->l.length<=m.length
 | [],_,_,_=>Nat.zero_le _
 | x::l,m,h,hs=>by
  obtain⟨h1,h2⟩:=List.nodup_cons.mp h
  have hx:=hs x List.mem_cons_self
  have ih:=z6u (l:=l) (m:=m.erase x) h2 fun y hy=>(List.mem_erase_of_ne (fun e:y=x=>h1 (by rw[←e];exact hy))).mpr (hs y (List.mem_cons_of_mem _ hy))
  rw[List.length_erase_of_mem hx]at ih
  have:=List.length_pos_of_mem hx
  rw[List.length_cons];omega
def oc (G:List (List Int))(y:Int):Bool:=G.any fun w=>decide (y∈w)
theorem oc_iff {G:List (List Int)}{y:Int}:oc G y=true↔∃ w∈G,y∈w:=by simp[oc]
def bth (G:List (List Int))(y:Int):Bool:=oc G y&&oc G (-y)
def ngo (G:List (List Int))(y:Int):Bool:=oc G (-(y.natAbs:Int))
def nof (c:Nat)(f:Int->Bool):Nat:=((List.range c).filter fun i:Nat=>f ((i:Int)+1)).length
theorem w1e {T:List Int}{c:Nat}{f:Int->Bool}(h:Dis T)(hb:∀ y∈T,y≠0/\y.natAbs<=c)(hf:∀ y,f (-y)=f y):(T.filter f).length<=nof c f:=by
 have nd:((T.filter f).map fun y=>y.natAbs-1).Nodup:=by
  rw[List.nodup_iff_pairwise_ne,List.pairwise_map]
  refine List.Pairwise.imp_of_mem ?_ ((dis_pair.mp h).sublist List.filter_sublist)
  intro a b ha hb' hab e
  have h1:=hb a (List.mem_filter.mp ha).1
  have h2:=hb b (List.mem_filter.mp hb').1
  omega
 have:=z6u nd (m:=(List.range c).filter fun i:Nat=>f ((i:Int)+1)) fun x hx=>by
  obtain⟨y,hy,rfl⟩:=List.mem_map.mp hx
  obtain⟨h1,h2⟩:=List.mem_filter.mp hy
  have h3:=hb y h1
  refine List.mem_filter.mpr ⟨List.mem_range.mpr (by omega),?_⟩
  by_cases z:0<y
  ·have e:(((y.natAbs-1:Nat):Int)+1)=y:=by omega
   show f (((y.natAbs-1:Nat):Int)+1)=true
   rw[e];exact h2
  ·have e:(((y.natAbs-1:Nat):Int)+1)=-y:=by omega
   show f (((y.natAbs-1:Nat):Int)+1)=true
   rw[e,hf];exact h2
 simpa[nof] using this
theorem x0d (G:List (List Int))(y:Int):bth G (-y)=bth G y:=by unfold bth;rw[Int.neg_neg,Bool.and_comm]
theorem x5g (G:List (List Int))(y:Int):ngo G (-y)=ngo G y:=by unfold ngo;rw[Int.natAbs_neg]
def kv (c:Nat)(G:List (List Int)):Nat:=nof c (bth G)
def kn (c:Nat)(G:List (List Int)):Nat:=nof c fun y=>!bth G y&&ngo G y
def Pot (c:Nat)(G:List (List Int))(P:List Pd):Nat:=phi (bth G) (ngo G) (kv c G) (kn c G) P
def pot (c:Nat)(G:List (List Int)):Nat:=f2 (kv c G) (kn c G)
theorem y5y {c:Nat}{G:List (List Int)}{P:List Pd}{q:Pd}(hd:Dis ((P++[q]).map (·.1)))(hz:∀ p∈P++[q],p.1≠0/\p.1.natAbs<=c):Pot c G (P++[q])<=Pot c G P:=by
 have hz':∀ y∈(P++[q]).map (·.1),y≠0/\y.natAbs<=c:=fun y hy=>by
  obtain⟨p,hp,rfl⟩:=List.mem_map.mp hy
  exact hz p hp
 have key:∀ f:Int->Bool,(∀ y,f (-y)=f y)->f q.1=true->cntB f P<nof c f:=fun f hf hq=>by
  have h1:=w1e hd hz' hf
  have h2:(((P++[q]).map (·.1)).filter f).length=cntB f P+1:=by
   rw[List.map_append,List.filter_append,List.length_append,List.filter_map,List.length_map]
   simp[cntB,hq,Function.comp_def]
  omega
 exact y5c (fun h=>key _ (x0d G) h) (fun h h'=>key (fun y=>!bth G y&&ngo G y) (fun y=>by rw[x0d,x5g]) (by simp[h,h']))
theorem x8y {c:Nat}{G:List (List Int)}{Q:List Pd}:∀ {P:List Pd},Dis ((P++Q).map (·.1))->(∀ p∈P++Q,p.1≠0/\p.1.natAbs<=c)->Pot c G (P++Q)<=Pot c G P:=by
 induction Q with
 | nil=>intro P _ _;rw[List.append_nil];exact Nat.le_refl _
 | cons q Q ih =>
  intro P hd hz
  have e:P++q::Q=(P++[q])++Q:=by simp
  rw[e]at hd hz ⊢
  refine Nat.le_trans (ih hd hz) (y5y ?_ fun p hp=>hz p (List.mem_append_left _ hp))
  rw[List.map_append]at hd
  exact hd.pre
theorem x2c {c:Nat}{G W:List (List Int)}(hW:∀ v∈W,∀ y∈v,oc G y=true){P:List Pd}(ht:Tv W P.reverse)(hp:∀ q∈P,q.2=none->0<q.1){hand:Int}{wish:List Int}{n:Int}(hw:∀ y∈wish,oc G y=true){go:List Pd×List Stp}(hgo:goB W P.reverse hand wish n=go) :
 (go.1=[]->go.2.length<=Pot c G P)/\(go.1≠[]->go.2.length+Pot c G go.1.reverse<=Pot c G P):=by
 subst hgo
 refine x8w (O:=fun y=>oc G y=true) (fun y h1 h2=>?_) (fun q h0 h1=>?_) (x0d G) (x5g G) hW ht hp hw
 ·unfold bth;rw[h1,h2];rfl
 ·right
  unfold ngo
  have:-((q.natAbs:Nat):Int)=-q:=by omega
  rw[this];exact h1
theorem w1c {v n m:Nat}(h:n<=m):f2 v n<=f2 v m:=Nat.mul_le_mul_left _ (Nat.pow_le_pow_right (by decide) h)
theorem x8p {v n:Nat}(h1:v+n<=24)(h2:2*v+n<=31):f2 v n<=16646144:=by
 have hv:v<16:=by omega
 have key:∀ u:Fin 16,f2 u.1 (min (24-u.1) (31-2*u.1))<=16646144:=by decide +kernel
 exact Nat.le_trans (w1c (show n<=min (24-v) (31-2*v) by omega)) (key ⟨v,hv⟩)
theorem y9x {α:Type}(p q r:α->Bool)(h:∀ x,p x=true->q x=true∨r x=true):∀ l:List α,(l.filter p).length<=(l.filter q).length+(l.filter r).length
 | []=>Nat.zero_le _
 | x::l=>by
  have ih:=y9x p q r h l
  have hx:=h x
  simp only[List.filter_cons]
  cases hp:p x<;>cases hq:q x<;>cases hr:r x<;>simp[hp,hq,hr]at hx ⊢<;>omega
theorem y5r {α:Type}(p q r:α->Bool)(h:∀ x,¬ (p x=true/\q x=true))(h':∀ x,p x=true∨q x=true->r x=true):∀ l:List α,(l.filter p).length+(l.filter q).length<=(l.filter r).length
 | []=>Nat.zero_le _
 | x::l=>by
  have ih:=y5r p q r h h' l
  have hx:=h x
  have hx':=h' x
  simp only[List.filter_cons]
  cases hp:p x<;>cases hq:q x<;>cases hr:r x<;>simp[hp,hq,hr]at hx hx' ⊢<;>omega
theorem y6q {c:Nat}{G:List (List Int)}{L:List Int}{S:List Nat}(hc:c<=24)(hL:L.length<=25)(hS:S.length<=3)(h:∀ v∈G,∀ y∈v,y∈L∨y.natAbs∈S):pot c G<=16646144:=by
 have ho:∀ y,oc G y=true->y∈L∨y.natAbs∈S:=fun y hy=>by
  obtain⟨w,hw,hy⟩:=oc_iff.mp hy
  exact h w hw y hy
 have nr:(List.range c).Nodup:=List.nodup_range
 have h3:((List.range c).filter fun i:Nat=>decide (i+1∈S)).length<=3:=by
  have:=z6u (l:=((List.range c).filter fun i:Nat=>decide (i+1∈S)).map (· + 1)) (m:=S) (by
   rw[List.nodup_iff_pairwise_ne,List.pairwise_map]
   refine ((nr.sublist List.filter_sublist)).imp fun {a b} hab e=>hab (by omega)) fun x hx=>by
   obtain⟨i,hi,rfl⟩:=List.mem_map.mp hx
   exact of_decide_eq_true (List.mem_filter.mp hi).2
  rw[List.length_map]at this
  omega
 have hpos:((List.range c).filter fun i:Nat=>decide (((i:Int)+1)∈L)).length<=(L.filter fun y=>decide (0<y)).length:=by
  have:=z6u (l:=((List.range c).filter fun i:Nat=>decide (((i:Int)+1)∈L)).map fun i:Nat=>((i:Int)+1)) (m:=L.filter fun y=>decide (0<y)) (by
   rw[List.nodup_iff_pairwise_ne,List.pairwise_map]
   refine ((nr.sublist List.filter_sublist)).imp fun {a b} hab e=>hab (by omega)) fun x hx=>by
   obtain⟨i,hi,rfl⟩:=List.mem_map.mp hx
   exact List.mem_filter.mpr ⟨of_decide_eq_true (List.mem_filter.mp hi).2,decide_eq_true (by omega)⟩
  rwa [List.length_map]at this
 have hneg:((List.range c).filter fun i:Nat=>decide (-((i:Int)+1)∈L)).length<=(L.filter fun y=>!decide (0<y)).length:=by
  have:=z6u (l:=((List.range c).filter fun i:Nat=>decide (-((i:Int)+1)∈L)).map fun i:Nat=>-((i:Int)+1)) (m:=L.filter fun y=>!decide (0<y)) (by
   rw[List.nodup_iff_pairwise_ne,List.pairwise_map]
   refine ((nr.sublist List.filter_sublist)).imp fun {a b} hab e=>hab (by omega)) fun x hx=>by
   obtain⟨i,hi,rfl⟩:=List.mem_map.mp hx
   refine List.mem_filter.mpr ⟨of_decide_eq_true (List.mem_filter.mp hi).2,?_⟩
   rw[decide_eq_false (by omega)];rfl
  rwa [List.length_map]at this
 have hsum:(L.filter fun y=>decide (0<y)).length+(L.filter fun y=>!decide (0<y)).length<=(L.filter fun _=>true).length:=y5r _ _ _ (fun x=>by simp) (fun x _=>rfl) L
 have hall:(L.filter fun _=>true).length=L.length:=by rw[List.filter_eq_self.mpr fun _ _=>rfl]
 have hv:kv c G<=((List.range c).filter fun i:Nat=>decide (((i:Int)+1)∈L)).length+((List.range c).filter fun i:Nat=>decide (i+1∈S)).length:=y9x _ _ _ (fun i hi=>by
  unfold bth at hi
  rw[Bool.and_eq_true]at hi
  rcases ho _ hi.1 with z|z
  ·exact .inl (decide_eq_true z)
  ·refine .inr (decide_eq_true ?_)
   have:((i:Int)+1).natAbs=i+1:=by omega
   rwa [this]at z) _
 have hvn:kv c G+kn c G<=((List.range c).filter fun i:Nat=>ngo G ((i:Int)+1)).length:=y5r _ _ _ (fun i hi=>by
  obtain⟨h1,h2⟩:=hi
  have h2:(!bth G ((i:Int)+1)&&ngo G ((i:Int)+1))=true:=h2
  rw[h1]at h2;simp at h2) (fun i hi=>by
  rcases hi with z|z
  ·unfold bth at z
   rw[Bool.and_eq_true]at z
   unfold ngo
   have:-((((i:Int)+1).natAbs:Nat):Int)=-((i:Int)+1):=by omega
   rw[this];exact z.2
  ·have z:(!bth G ((i:Int)+1)&&ngo G ((i:Int)+1))=true:=z
   rw[Bool.and_eq_true]at z;exact z.2) _
 have hn:((List.range c).filter fun i:Nat=>ngo G ((i:Int)+1)).length<=((List.range c).filter fun i:Nat=>decide (-((i:Int)+1)∈L)).length+((List.range c).filter fun i:Nat=>decide (i+1∈S)).length:=y9x _ _ _ (fun i hi=>by
  unfold ngo at hi
  have e:-((((i:Int)+1).natAbs:Nat):Int)=-((i:Int)+1):=by omega
  rw[e]at hi
  rcases ho _ hi with z|z
  ·exact .inl (decide_eq_true z)
  ·refine .inr (decide_eq_true ?_)
   have:(-((i:Int)+1)).natAbs=i+1:=by omega
   rwa [this]at z) _
 have hcc:((List.range c).filter fun i:Nat=>ngo G ((i:Int)+1)).length<=c:=by
  have:=List.length_filter_le (fun i:Nat=>ngo G ((i:Int)+1)) (List.range c)
  rwa [List.length_range]at this
 exact x8p (by omega) (by omega)
theorem x6m {c:Nat}{T:List Int}(hd:Dis T)(hb:∀ y∈T,y≠0/\y.natAbs<=c)(hl:T.length=c):Free c (T.map absI) none:=by
 refine⟨fun _ j h1 h2=>?_,fun x hx=>by cases hx⟩
 by_cases z:(j:Int)∈T.map absI
 ·exact z
 exfalso
 have n1:¬ (j:Int)∈T:=fun e=>z ((z2m (by omega)).mpr (.inl e))
 have n2:¬ -(j:Int)∈T:=fun e=>z ((z2m (by omega)).mpr (.inr e))
 have:=x0a (c:=c) (hd.snoc n1 n2) fun y hy=>by
  rcases mApp hy with e|e
  ·exact hb y e
  ·have:y=(j:Int):=by simpa using e
   omega
 rw[List.length_append]at this
 simp at this
 omega
def freeL (c:Nat)(T:List Int):List Int:=(((List.range c).filter fun i:Nat=>!decide ((1+(i:Int))∈T)).map fun i:Nat=>(1+(i:Int))).filter fun y=>!decide (-y∈T)
theorem mem_freeL {c:Nat}{T:List Int}{y:Int}:y∈freeL c T↔1<=y/\y<=c/\¬ y∈T/\¬ -y∈T:=by
 unfold freeL
 rw[List.mem_filter,List.mem_map]
 constructor
 ·rintro⟨⟨i,hi,rfl⟩,h2⟩
  obtain⟨h3,h4⟩:=List.mem_filter.mp hi
  have h5:=List.mem_range.mp h3
  exact⟨by omega,by omega,by simpa using h4,by simpa using h2⟩
 ·rintro⟨h1,h2,h3,h4⟩
  have e:(1+((y-1).toNat:Int))=y:=by omega
  refine⟨⟨(y-1).toNat,List.mem_filter.mpr ⟨List.mem_range.mpr (by omega),?_⟩,e⟩,by simpa using h4⟩
  show (!decide ((1+((y-1).toNat:Int))∈T))=true
  rw[e];simpa using h3
theorem y7u (c:Nat)(T:List Int):(freeL c T).Pairwise (· < ·):=by
 refine List.Pairwise.sublist List.filter_sublist ?_
 rw[List.pairwise_map]
 refine List.Pairwise.sublist List.filter_sublist ?_
 exact List.pairwise_lt_range.imp fun {a b} h=>by omega
theorem x3h {c:Nat}{T:List Int}(hd:Dis T)(hb:∀ y∈T,y≠0/\y.natAbs<=c)(hl:T.length≠c):∃ (k:Nat)(r:List Int),freeL c T=(k:Int)::r/\Free c (T.map absI) (some k):=by
 cases hf:freeL c T with
 | nil =>
  exfalso
  have hle:=x0a hd hb
  have hall:∀ j:Int,1<=j->j<=c->j∈T.map absI:=fun j h1 h2=>by
   by_cases z:j∈T.map absI
   ·exact z
   have:j∈freeL c T:=mem_freeL.mpr ⟨h1,h2,fun e=>z ((z2m (by omega)).mpr (.inl e)),fun e=>z ((z2m (by omega)).mpr (.inr e))⟩
   rw[hf]at this;cases this
  have:=z6u (l:=(List.range c).map fun i:Nat=>(1+(i:Int))) (m:=T.map absI) (by
   rw[List.nodup_iff_pairwise_ne,List.pairwise_map]
   exact List.nodup_range.imp fun {a b} h e=>h (by omega)) fun x hx=>by
   obtain⟨i,hi,rfl⟩:=List.mem_map.mp hx
   have:=List.mem_range.mp hi
   exact hall _ (by omega) (by omega)
  simp at this
  omega
 | cons y r =>
  have hy:y∈freeL c T:=by rw[hf];exact List.mem_cons_self
  obtain⟨h1,h2,h3,h4⟩:=mem_freeL.mp hy
  have e:((y.toNat:Nat):Int)=y:=by omega
  refine⟨y.toNat,r,by rw[e],(fun z=>by cases z),fun x hx=>?_⟩
  have hx':y.toNat=x:=Option.some.inj hx
  subst hx'
  refine⟨by omega,by omega,?_,fun j j1 j2=>?_⟩
  ·rw[e];exact fun z=>((z2m (by omega)).mp z).elim h3 h4
  ·by_cases z:(j:Int)∈T.map absI
   ·exact z
   exfalso
   have hj:(j:Int)∈freeL c T:=mem_freeL.mpr ⟨by omega,by omega,fun e=>z ((z2m (by omega)).mpr (.inl e)),fun e=>z ((z2m (by omega)).mpr (.inr e))⟩
   have hs:=y7u c T
   rw[hf]at hj hs
   rcases List.mem_cons.mp hj with q|q
   ·omega
   ·have:=(List.pairwise_cons.mp hs).1 _ q
    omega
theorem y1d:∀ {ts us:List Stp}{W:List (List Int)},z2t W ts->z2t (W++wlSt ts) us->z2t W (ts++us)
 | [],us,W,_,h=>by simpa[wlSt] using h
 | t::ts,us,W,⟨h1,h2⟩,h=>⟨h1,y1d h2 (by simpa[wlSt] using h)⟩
def Ends2 (c:Nat)(W0 W:List (List Int))(T:List Int)(ts:List Stp):Prop :=
 (T=[]/\[]∈W/\((ts=[]/\[]∈W0)∨∃ pre t,ts=pre++[t]/\t.2.2.2=[]))∨(z0s W T=none/\∀ m:Nat,1<=m->m<=c->∃ y∈T,y.natAbs=m)
theorem x9w (ss ts:List Sr):wst (ss++ts)=wst ss++wst ts:=by simp[wst]
theorem x4a (ss ts:List Sr):sls (ss++ts)=sls ss++sls ts:=by simp[sls]
structure Near (p:Addr)(x0 x:Tly)(H Hx:Hp)(l:Addr)(ss:List Sr):Prop where
 fr:Fr p x0 x H Hx
 hl:Hx l=some (.lst (srefs ss))
 l0:H l=none
 nl:¬ foot p x l
 ho:∀ s∈ss,Hx s.1=some (tupS s.2.2 s.2.1)
 nw:∀ r∈x.ws,r.1≠l
theorem Near.go {p:Addr}{x0 x x':Tly}{H Hx H':Hp}{l:Addr}{ss:List Sr}{C:Addr}(h:Near p x0 x H Hx l ss)(hx:TyAt C Hx p x)(fr:Fr p x x' Hx H')(ew:∀ r∈x'.ws,r∈x.ws∨Hx r.1=none):Near p x0 x' H H' l ss :=
 ⟨h.fr.trans fr,fr.out _ _ h.hl h.nl,h.l0,fr.not h.hl h.nl,fun s hs=>fr.out _ _ (h.ho s hs) (z7i hx (h.ho s hs)),fun r hr=>(ew r hr).elim (h.nw r) fun z=>(z0f h.hl z).symm⟩
theorem Near.ext {p:Addr}{x0 x:Tly}{H Hx:Hp}{l:Addr}{ss ts:List Sr}(h:Near p x0 x H Hx l ss)(ht:∀ s∈ts,Hx s.1=some (tupS s.2.2 s.2.1)):Near p x0 x H (upd Hx l (.lst (srefs (ss++ts)))) l (ss++ts) :=
 ⟨⟨fun b o hb hf=>by rw[z0h (z0f hb h.l0)];exact h.fr.out b o hb hf,h.fr.inn⟩,z0c,h.l0,h.nl,fun s hs=>by
   have hh:Hx s.1=some (tupS s.2.2 s.2.1):=(mApp hs).elim (h.ho s) (ht s)
   rw[z0h (ne_of hh h.hl (by unfold tupS;intro z;cases z))];exact hh,h.nw⟩
def OcAll (G W:List (List Int)):Prop:=∀ v∈W,∀ y∈v,oc G y=true
def y1y (K:W.Frag)(C:Addr):Sp:=fun vs H Q _=>∃ (c:Nat) (p ae:Addr) (x:Tly),vs=[.int c,.ref p,.ref ae]/\Tal C H p x/\x.qs=[]/\H ae=some (.lst (([]:List Int).map V.int))/\¬ foot p x ae/\c<=28/\x.ws.length<=1000/\pot c (wl x.ws)<=16646144/\(∀ v∈wl x.ws,v.length<=28)/\(∀ v∈wl x.ws,∀ y∈v,y≠0/\y.natAbs<=c) /\
 ∀ (ls:Addr) (ss:List Sr) (x':Tly) (H':Hp),Tal C H' p x'->Fr p x x' H H'->H ls=none->¬ foot p x' ls->H' ls=some (.lst (srefs ss))->SsOk H' ss->x'.ws=x.ws++wst ss->(∀ v∈wl x'.ws,v.length<=28)->x'.ws.length<=x.ws.length+pot c (wl x.ws)->z2t (wl x.ws) (sls ss)->SI c c [] (wl x.ws) (wl x'.ws) (pdat x'.qs)->Ends2 c (wl x.ws) (wl x'.ws) x'.T (sls ss)->Ends c (wl x.ws,[]) (wl x'.ws,pdat x'.qs)->Q (.ref ls) H'
section
variable {P:Program}{w:World}{K:W.Frag}{mg:Str->Option Value}{base:Heap}{C:Addr}
theorem x2q (B:Blt mg)(T:TallyCls K mg C)(m_go_on:MCal P w K mg base 4 C "go_on" z2k (x3y C))(m_first_broken:MCal P w K mg base 1 C "first_broken" z0x (y1o C))(m_put:MCal P w K mg base 3 C "put" z2q (spPut C))
 (c_go_back:Cal P w K mg base 4 "go_back" z5s (y4u C)) (c_next_guess:Cal P w K mg base 2 "next_guess" z3o (y8r K C))
 (Df:Def K mg "search" z6c z7d):Cal P w K mg base 5 "search" z7d (y1y K C):=by
 refine Df.cal sc_search (fun vs H Q E h=>?_) (fun f cdv A outer s H vs Q E hr h=>?_)
 ·obtain⟨c,p,ae,x,rfl,_⟩:=h;rfl
 ·obtain⟨c,p,ae,x0,rfl,hx0,hq0,hE,nae,hc,hz,hpot,hv,hlett,q⟩:=h
  have hu:=hu_of hr
  have cl:=T.cl
  refine⟨_,(z0b (z0t (i:=3) sc_search.nd rfl (Or.inl rfl) (z1g z0d))
 (z0b (z0z (z9o m_go_on cl hr (by decide) (pv 1)))
 (z0e (z7a PassesOwn.never (z2a pe_bl)
 (z0b (z0t (i:=4) sc_search.nd rfl (Or.inl rfl) (z9o m_first_broken cl hr (by decide) (pv 1)))
 (z0b (ps_if (z0k y2f (pv 4) z3d (z0q _))
 (z0b (z0z (pe_bm PySem.F.plainAttrs_list PySem.F.slot_list_extend PySem.F.type_list_extend z9d (pv 3) (z0a (z0v c_go_back hr (by decide) (z0a (pv 1) (z0a (pv 4) z0d))) z0d)))
 (z0e (ps_if (z2y (z6k (z1n (pv 1) rfl) (fun _=>rfl)))
 (z0e (z0p (pv 3)))
 z0o)))
 (z0b (z0t (i:=5) sc_search.nd rfl (Or.inl rfl) (z0v c_next_guess hr (by decide) (z0a (pv 0) (z0a (pv 1) (z0a (pv 2) z0d)))))
 (z0b (ps_if (z0k y3w (pv 5) z3d (z0q _))
 (z0e (z0p (pv 3)))
 z0o)
 (z0e (z0z (z6s m_put cl hr (by decide) (pv 1) (z0a (pv 5) (z0a z3d z0d))))))))
 (z0e (z0z (z9o m_go_on cl hr (by decide) (pv 1)))))))))),?_⟩
  refine⟨by decide,fun l hl=>?_⟩
  have sm1:Same H (upd H l (.lst [])):=(smR H).upd hl
  have g1:upd H l (.lst []) l=some (.lst []):=z0c
  have hx1:=hx0.same sm1
  have nl:¬ foot p x0 l:=z4a hx0.ty hl
  have ne0:Near p x0 x0 H (upd H l (.lst [])) l []:=⟨Fr.same sm1,g1,hl,nl,(fun _ h=>nomatch h),fun r hr=>z0f (hx0.ty.wo r hr) hl⟩
  generalize upd H l (.lst [])=H1 at sm1 g1 hx1 ne0
  have noG:∀ y:Tly,(flds y).lookup ("go_on" : Str)=none:=fun y=>fl_nx y (by decide +kernel)
  have noB:∀ y:Tly,(flds y).lookup ("first_broken" : Str)=none:=fun y=>fl_nx y (by decide +kernel)
  have noP:∀ y:Tly,(flds y).lookup ("put" : Str)=none:=fun y=>fl_nx y (by decide +kernel)
  have keepE:∀ {x:Tly} {Hx:Hp} {ss:List Sr},Near p x0 x H Hx l ss->Hx ae=some (.lst (([]:List Int).map V.int)):=fun h=>h.fr.out _ _ hE nae
  have bLen:∀ {x:Tly},(∀ v∈wl x.ws,v.length<=28)->∀ r∈x.ws,r.2.length<=100000:=fun {x} h r hr=>by
   have:=h r.2 (by unfold wl;exact List.mem_map.mpr ⟨r,hr,rfl⟩)
   omega
  have went:∀ {x x':Tly} {Hx H':Hp} {ss:List Sr} {ts:List Nw},Tal C Hx p x->Near p x0 x H Hx l ss->SI c c [] (wl x0.ws) (wl x.ws) (pdat x.qs)->Till c (wl x0.ws,[]) (wl x.ws,pdat x.qs)->Tal C H' p x'->Fr p x x' Hx H'->x'.ws=x.ws->x'.qs=x.qs++ts.map np->Run (wl x.ws) x.T (ts.map nn) ->
   Near p x0 x' H H' l ss/\SI c c [] (wl x0.ws) (wl x'.ws) (pdat x'.qs)/\z1y (wl x'.ws) x'.T=none/\nk c (pdat x'.qs)<=nk c (pdat x.qs)/\x.qs.length<=x'.qs.length/\(z1y (wl x.ws) x.T=none->x'.qs=x.qs)/\Pot c (wl x0.ws) (pdat x'.qs)<=Pot c (wl x0.ws) (pdat x.qs)/\Till c (wl x0.ws,[]) (wl x'.ws,pdat x'.qs):=by
   intro x x' Hx H' ss ts hx ne si ti hx' fr ew eq hrun
   have ep:pdat x'.qs=pdat x.qs++(ts.map nn).map fun p=>(p.1,some (p.2:Int)):=by rw[eq,w0n]
   obtain⟨i1,i3⟩:=SI.run hrun (P:=pdat x.qs) (by rw[z5m,hx.T]) si
   have ti':=Till.run hrun (P:=pdat x.qs) (by rw[z5m,hx.T]) ti
   rw[←ep,←ew]at i1 i3 ti'
   have hpp:Pot c (wl x0.ws) (pdat x'.qs)<=Pot c (wl x0.ws) (pdat x.qs):=by
    rw[ep];exact x8y (by rw[←ep];exact i1.dis) (by rw[←ep];exact i1.nz)
   refine⟨ne.go hx.ty fr (fun r hr=>.inl (by rw[←ew];exact hr)),i1,by rw[hx'.T,←z5m];exact i3,by rw[ep];exact w0s,by rw[eq];simp,fun hn=>?_,hpp,ti'⟩
   cases hts:ts.map nn with
   | nil =>
    have:ts=[]:=List.map_eq_nil_iff.mp hts
    rw[eq,this];simp
   | cons u r =>
    rw[hts]at hrun
    cases hrun with
    | step h _=>rw[hn]at h;cases h
  obtain⟨d1,ob1⟩:=hx1.ty.ob
  have si0:SI c c [] (wl x0.ws) (wl x0.ws) (pdat x0.qs):=by rw[hq0];exact SI.zero (fun _ h=>h) (fun _ h=>h) hlett
  have ti0:Till c (wl x0.ws,[]) (wl x0.ws,pdat x0.qs):=by rw[hq0];exact fun _ h=>h
  have po0:Pot c (wl x0.ws) (pdat x0.qs)=pot c (wl x0.ws):=by rw[hq0];rfl
  have oc0:OcAll (wl x0.ws) (wl x0.ws):=fun v hv y hy=>oc_iff.mpr ⟨v,hv,hy⟩
  refine⟨_,rfl,p,d1,_,rfl,ob1,noG _,p,x0,rfl,hx1,by rw[hq0];simp;omega,bLen hv,fun ts x2 H2 hx2 fr2 ew2 eq2 ea2 eM2 hrun=>?_⟩
  obtain⟨n2,si2,hn2,hk2,hl2,hst2,hp2,ti2⟩:=went hx1 ne0 si0 ti0 hx2 fr2 ew2 eq2 hrun
  refine⟨fun m σ Hx=>∃ (x:Tly) (ss:List Sr) (v4 v5:Option V),σ=[some (.int c),some (.ref p),some (.ref ae),some (.ref l),v4,v5]/\Tal C Hx p x/\Near p x0 x H Hx l ss/\SI c c [] (wl x0.ws) (wl x.ws) (pdat x.qs)/\z1y (wl x.ws) x.T=none/\(∀ v∈wl x.ws,v.length<=28)/\x.ws=x0.ws++wst ss/\z2t (wl x0.ws) (sls ss) /\
   x.ws.length+Pot c (wl x0.ws) (pdat x.qs)<=x0.ws.length+pot c (wl x0.ws)/\OcAll (wl x0.ws) (wl x.ws)/\Till c (wl x0.ws,[]) (wl x.ws,pdat x.qs)/\((ss=[]/\x.qs=[])∨¬ []∈wl x.ws)/\nk c (pdat x.qs)*(c+2)+(c-x.qs.length)<=m,
   ⟨_,x2,[],none,none,rfl,hx2,n2,si2,hn2,by rw[ew2];exact hv,by rw[ew2];simp[wst],trivial,?_,by rw[ew2];exact oc0,ti2,?_,Nat.le_refl _⟩,?_⟩
  ·rw[ew2];omega
  ·by_cases z:[]∈wl x0.ws
   ·refine .inl ⟨rfl,?_⟩
    rw[hst2 ?_,hq0]
    refine z8m fun hb=>z5r hb z rfl
   ·right;rw[ew2];exact z
  rintro m σ Hx ⟨x,ss,v4,v5,rfl,hx,ne,si,hnx,hvl,ew,hra,hsz,hoc,hti,hem,hm⟩
  have hlen:=si.len
  have hql:(pdat x.qs).length=x.qs.length:=by simp[pdat]
  have hpos:0<nk c (pdat x.qs):=w2i si.dis fun q hq=>(si.nz q hq).1
  have eT:x.T=(pdat x.qs).map (·.1):=by rw[z5m,hx.T]
  obtain⟨d,ob⟩:=hx.ty.ob
  refine⟨_,rfl,iteT ?_⟩
  refine⟨_,fun σ' H' h=>h,?_⟩
  refine⟨_,rfl,p,d,_,rfl,ob,noB _,p,x,rfl,hx,?_⟩
  have turn:∀ {x3:Tly} {H3:Hp} {ss3:List Sr} {v4 v5:Option V} {m':Nat},Tal C H3 p x3->Near p x0 x3 H H3 l ss3->SI c c [] (wl x0.ws) (wl x3.ws) (pdat x3.qs)->(∀ v∈wl x3.ws,v.length<=28)->x3.ws=x0.ws++wst ss3->z2t (wl x0.ws) (sls ss3)->x3.ws.length+Pot c (wl x0.ws) (pdat x3.qs)<=x0.ws.length+pot c (wl x0.ws)->OcAll (wl x0.ws) (wl x3.ws)->Till c (wl x0.ws,[]) (wl x3.ws,pdat x3.qs)->¬ []∈wl x3.ws ->
   nk c (pdat x3.qs)*(c+2)+(c-x3.qs.length)<m->∀ (ts:List Nw) (x4:Tly) (H4:Hp),Tal C H4 p x4->Fr p x3 x4 H3 H4->x4.ws=x3.ws->x4.qs=x3.qs++ts.map np->x4.at_=x3.at_->x4.M=x3.M->Run (wl x3.ws) x3.T (ts.map nn) ->
   ∃ m',m'<m/\∃ (x:Tly) (ss:List Sr) (v4' v5':Option V),[some (V.int c),some (.ref p),some (.ref ae),some (.ref l),v4,v5]=[some (.int c),some (.ref p),some (.ref ae),some (.ref l),v4',v5']/\Tal C H4 p x/\Near p x0 x H H4 l ss/\SI c c [] (wl x0.ws) (wl x.ws) (pdat x.qs)/\z1y (wl x.ws) x.T=none/\(∀ v∈wl x.ws,v.length<=28)/\x.ws=x0.ws++wst ss/\z2t (wl x0.ws) (sls ss) /\
   x.ws.length+Pot c (wl x0.ws) (pdat x.qs)<=x0.ws.length+pot c (wl x0.ws)/\OcAll (wl x0.ws) (wl x.ws)/\Till c (wl x0.ws,[]) (wl x.ws,pdat x.qs)/\((ss=[]/\x.qs=[])∨¬ []∈wl x.ws)/\nk c (pdat x.qs)*(c+2)+(c-x.qs.length)<=m':=by
   intro x3 H3 ss3 v4 v5 _ hx3 ne3 si3 hvl3 ew3 hra3 hsz3 hoc3 hti3 hem3 hm3 ts x4 H4 hx4 fr4 ew4 eq4 _ _ hrun4
   obtain⟨n4,si4,hn4,hk4,hl4,_,hp4,ti4⟩:=went hx3 ne3 si3 hti3 hx4 fr4 ew4 eq4 hrun4
   have h2:nk c (pdat x4.qs)*(c+2)<=nk c (pdat x3.qs)*(c+2):=Nat.mul_le_mul_right _ hk4
   exact⟨_,by omega,x4,ss3,v4,v5,rfl,hx4,n4,si4,hn4,by rw[ew4];exact hvl3,by rw[ew4];exact ew3,hra3,by rw[ew4];omega,by rw[ew4];exact hoc3,ti4,.inr (by rw[ew4];exact hem3),Nat.le_refl _⟩
  cases hbr:z0s (wl x.ws) x.T with
  | some i =>
   refine⟨_,rfl,rfl,_,rfl,ite2 (fun cb=>?_) (fun cb=>?_)⟩
   rotate_left
   ·exact absurd rfl cb
   rw[eT]at hbr
   obtain⟨hi,hcov⟩:=y0n hbr
   have hlit:=(GoodE.nil si.good).2
   have hi2:(i:Int)<x.ws.length:=by rw[←z1h];omega
   have ei:((i:Int)).toNat=i:=by omega
   refine⟨_,rfl,.inl ⟨rfl,_,qLo ne.hl⟩,_,rfl,_,rfl,p,x,(i:Int),rfl,hx,by omega,hi2,by omega,by omega,fun v hv=>by have:=hvl v hv;omega,fun v hv y hy=>by have:=si.lett v hv y hy;omega,si.tv,by rw[ei];exact hcov,fun s2 ss2 x2 H4 hx2 fr2 ew2 ea2 hM2 ep2 es2 hs2 ns2 h4s2 h4ss hfs=>?_⟩
   generalize hgo:goB (wl x.ws) (pdat x.qs).reverse (i:Int) ((wl x.ws).getD ((i:Int)).toNat []) (x.ws.length:Int)=go at ep2 es2
   obtain⟨b1,b2,b3,b4,b5,b6⟩:=si.back (go:=go) (n:=(i:Int)) (by omega) (by rw[z1h];exact hi2) (by rw[ei];exact hcov) (by rw[z1h];exact hgo)
   have ewl:wl x2.ws=wl x.ws++wlSt go.2:=by rw[ew2,x3n,es2]
   have hwm:(wl x.ws).getD ((i:Int)).toNat []∈wl x.ws:=z7h (by omega) (by rw[z1h];exact hi2)
   obtain⟨po1,po2⟩:=x2c (c:=c) hoc si.tv hlit (hoc _ hwm) hgo
   have hsm:=z6v (P:=fun y=>oc (wl x0.ws) y=true) (W:=wl x.ws) hoc (pdat x.qs).reverse (i:Int) ((wl x.ws).getD ((i:Int)).toNat []) (x.ws.length:Int) si.tv (by rw[ei];exact hcov) (hoc _ hwm)
   rw[hgo]at hsm
   have hoc2:OcAll (wl x0.ws) (wl x2.ws):=fun v hv=>by
    rw[ewl]at hv
    rcases mApp hv with z|z
    ·exact hoc v z
    ·unfold wlSt at z
     obtain⟨t,ht,rfl⟩:=List.mem_map.mp z
     exact (hsm t ht).2
   have hgo':goB (wl x.ws) (pdat x.qs).reverse (i:Int) ((wl x.ws).getD i []) ((wl x.ws).length:Int)=go:=by
    rw[z1h,←hgo,ei]
   have hssl:ss2.length=go.2.length:=by rw[←es2,z9a]
   have hw2:x2.ws.length=x.ws.length+ss2.length:=by rw[ew2];simp[wst]
   have hvl2:∀ v∈wl x2.ws,v.length<=28:=fun v hv=>by
    rw[ewl]at hv
    rcases mApp hv with z|z
    ·exact hvl v z
    ·unfold wlSt at z
     obtain⟨t,ht,rfl⟩:=List.mem_map.mp z
     have:=b2 t ht
     omega
   have n2:=ne.go hx.ty fr2 fun r hr=>by
    rw[ew2]at hr
    rcases mApp hr with z|z
    ·exact .inl z
    ·unfold wst at z
     obtain⟨s,hs,rfl⟩:=List.mem_map.mp z
     exact .inr (hfs s hs)
   have hsr:(srefs ss).length=ss.length:=z4l ss
   have hsr2:(srefs ss2).length=ss2.length:=z4l ss2
   have hssw:x.ws.length=x0.ws.length+ss.length:=by rw[ew];simp[wst]
   refine⟨l,s2,_,_,rfl,rfl,n2.hl,.inl h4s2,z1m (by omega),?_⟩
   have esr:srefs ss++srefs ss2=srefs (ss++ss2):=by simp[srefs]
   dsimp only
   rw[esr]
   have hx5:=hx2.out (o:=.lst (srefs (ss++ss2))) n2.hl n2.nl n2.nw
   have n5:=n2.ext (ts:=ss2) fun s hs=>(h4ss s hs).1
   generalize upd H4 l (.lst (srefs (ss++ss2)))=H5 at hx5 n5
   have ew5:x2.ws=x0.ws++wst (ss++ss2):=by rw[ew2,ew,x9w,List.append_assoc]
   have ewl0:wl x.ws=wl x0.ws++wlSt (sls ss):=by rw[ew,x3n]
   have hra5:z2t (wl x0.ws) (sls (ss++ss2)):=by
    rw[x4a,es2]
    exact y1d hra (by rw[←ewl0];exact b3)
   obtain⟨d2,ob2⟩:=hx5.ty.ob
   refine⟨_,rfl,p,C,d2,_,_,rfl,ob2,T.cl,T.n2,z8q _,_,.inl ⟨_,qLo hx5.ty.ht,rfl⟩,?_⟩
   by_cases hg:go.1=[]
   ·obtain⟨c1,c2,c3,c4⟩:=b5 hg
    have po1:=po1 hg
    have hq0':x2.qs=[]:=by
     rw[hg]at ep2
     have:=congrArg List.length ep2
     exact List.length_eq_zero_iff.mp (by simpa[pdat] using this)
    rw[hq0']
    refine iteT ⟨_,rfl,?_⟩
    have hT0:x2.T=[]:=by rw[hx2.T,hq0'];rfl
    refine q l (ss++ss2) x2 H5 hx5 n5.fr n5.l0 n5.nl n5.hl (fun s hs=>⟨n5.ho s hs,?_⟩) ew5 hvl2 (by omega) hra5 (by rw[hq0',ewl];exact c1) (.inl ⟨hT0,by rw[ewl];exact c2,?_⟩) (by rw[hq0',ewl];exact hti.stopB hbr hgo' hg)
    ·refine hx5.ty.wo (s.2.1,s.2.2.2.2.2) ?_
     rw[ew5]
     exact List.mem_append_right _ (List.mem_map.mpr ⟨s,hs,rfl⟩)
    ·by_cases hw:(wl x.ws).getD ((i:Int)).toNat []=[]
     ·have hmem:[]∈wl x.ws:=by rw[←hw];exact z7h (by omega) (by rw[z1h];exact hi2)
      rcases hem with ⟨e1,e2⟩|e
      ·left
       have e3:ss2=[]:=List.length_eq_zero_iff.mp (by rw[hssl,c4 hw];rfl)
       rw[e1,e3]
       refine⟨rfl,?_⟩
       rw[e1]at ew
       have:x.ws=x0.ws:=by rw[ew];simp[wst]
       rw[←this];exact hmem
      ·exact absurd hmem e
     ·right
      obtain⟨pre,t,e1,e2⟩:=c3 hw
      exact⟨sls ss++pre,t,by rw[x4a,es2,e1];simp,e2⟩
   ·obtain⟨c1,c2,c3,c4⟩:=b6 hg
    have po2:=po2 hg
    have hti2:=hti.back hbr hgo' hg
    have hqn:x2.qs≠[]:=fun z=>by
     rw[z]at ep2
     have:=congrArg List.length ep2
     exact hg (List.length_eq_zero_iff.mp (by simpa[pdat] using this.symm))
    have het:(refs x2.qs).isEmpty=false:=by
     cases h:x2.qs with
     | nil=>exact absurd h hqn
     | cons u r=>rfl
    have hem5:¬ []∈wl x2.ws:=fun z=>by
     rw[ewl]at z
     rcases mApp z with y|y
     ·rcases hem with ⟨e1,e2⟩|e
      ·rw[e2]at hgo
       refine hg ?_
       rw[←hgo];rfl
      ·exact e y
     ·unfold wlSt at y
      obtain⟨t,ht,e⟩:=List.mem_map.mp y
      exact c2 t ht e
    rw[←ep2]at c3 c4 po2 hti2
    rw[←ewl]at c3 hti2
    have hfall:nk c (pdat x2.qs)*(c+2)+(c-x2.qs.length)<m:=by
     have h1:(nk c (pdat x2.qs)+1)*(c+2)<=nk c (pdat x.qs)*(c+2):=Nat.mul_le_mul_right _ c4
     rw[Nat.succ_mul]at h1
     omega
    refine ite2 (fun z=>?_) (fun _=>?_)
    ·exfalso
     revert z
     cases h:x2.qs with
     | nil=>exact absurd h hqn
     | cons u r=>simp[refs]
    have hl2:=c3.len
    have hql2:(pdat x2.qs).length=x2.qs.length:=by simp[pdat]
    refine⟨_,rfl,p,d2,_,rfl,ob2,noG _,p,x2,rfl,hx5,by omega,bLen hvl2,?_⟩
    exact turn (m':=0) hx5 n5 c3 hvl2 ew5 hra5 (by omega) hoc2 hti2 hem5 hfall
  | none =>
   refine⟨_,rfl,rfl,_,rfl,ite2 (fun cb=>?_) (fun cb=>?_)⟩
   ·cases cb
   have hemW:¬ []∈wl x.ws:=fun z=>z5r hbr z rfl
   refine⟨_,rfl,_,rfl,_,rfl,c,p,ae,x,[],rfl,hx,qLo (keepE ne),by omega,(fun _ he=>nomatch he),fun hall r hfree=>?_⟩
   have hfr:Free c (((pdat x.qs).map (·.1)).map absI) r:=by rw[←eT];exact hfree
   have hnx':=hnx
   have hbr':=hbr
   rw[eT]at hnx' hbr'
   cases r with
   | none =>
    refine⟨_,rfl,rfl,_,rfl,iteT ⟨_,rfl,?_⟩⟩
    have hal:=hfree.none rfl
    refine q l ss x Hx hx ne.fr ne.l0 ne.nl ne.hl (fun s hs=>⟨ne.ho s hs,?_⟩) ew hvl (by omega) hra si (.inr ⟨hbr,fun m h1 h2=>x8n hal m h1 h2⟩) (hti.stopY hbr' hnx' hfr)
    refine hx.ty.wo (s.2.1,s.2.2.2.2.2) ?_
    rw[ew]
    exact List.mem_append_right _ (List.mem_map.mpr ⟨s,hs,rfl⟩)
   | some lam =>
    obtain⟨f1,f2,f3,f4⟩:=hfree.some lam rfl
    have hn1:¬ (lam:Int)∈x.T:=fun z=>f3 ((z2m (by omega)).mpr (.inl z))
    have hn2:¬ -(lam:Int)∈x.T:=fun z=>f3 ((z2m (by omega)).mpr (.inr z))
    have below:∀ m:Nat,1<=m->m<lam->∃ y∈x.T,y.natAbs=m:=fun m h1 h2=>by
     rcases (z2m (by omega)).mp (f4 m h1 h2) with z|z
     ·exact⟨_,z,by omega⟩
     ·exact⟨_,z,by omega⟩
    refine⟨_,rfl,rfl,_,rfl,ite2 (fun z=>?_) (fun _=>?_)⟩
    ·cases z
    refine⟨_,rfl,p,d,_,rfl,ob,noP _,_,rfl,p,x,(lam:Int),none,rfl,hx,hn1,hn2,by omega,by omega,fun pt x3 H3 hx3 fr3 ew3 eq3 ea3 eM3=>?_⟩
    have ep3:pdat x3.qs=pdat x.qs++[((lam:Int),none)]:=by rw[eq3];simp[pdat]
    have si3:=si.guess (l:=(lam:Int)) (by omega) (by omega) (by omega) (by rw[←eT];exact hn1) (by rw[←eT];exact hn2) (.inr ⟨by omega,(fun _ he=>nomatch he),fun m h1 h2=>by rw[←eT];exact below m h1 (by omega)⟩)
    have hk3:nk c (pdat x3.qs)<=nk c (pdat x.qs):=by rw[ep3];exact x1h
    have hl3:=si3.len
    have hpo3:Pot c (wl x0.ws) (pdat x3.qs)<=Pot c (wl x0.ws) (pdat x.qs):=by rw[ep3];exact y5y si3.dis si3.nz
    have hti3:=hti.guess hbr' hnx' hfr
    rw[←ep3]at si3 hl3 hti3
    have hql3:(pdat x3.qs).length=x3.qs.length:=by simp[pdat]
    have hq3:x3.qs.length=x.qs.length+1:=by rw[eq3];simp
    have hmm:nk c (pdat x3.qs)*(c+2)<=nk c (pdat x.qs)*(c+2):=Nat.mul_le_mul_right _ hk3
    have n3:=ne.go hx.ty fr3 (fun r hr=>.inl (by rw[←ew3];exact hr))
    obtain⟨d3,ob3⟩:=hx3.ty.ob
    have ewl3:x3.ws.length=x.ws.length:=by rw[ew3]
    refine⟨_,rfl,p,d3,_,rfl,ob3,noG _,p,x3,rfl,hx3,by omega,bLen (by rw[ew3];exact hvl),?_⟩
    exact turn (m':=0) hx3 n3 (by rw[ew3];exact si3) (by rw[ew3];exact hvl) (by rw[ew3];exact ew) hra (by omega) (by rw[ew3];exact hoc) (by rw[ew3];exact hti3) (by rw[ew3];exact hemW) (by omega)
end
def y5x (W:List (List Int))(ts:List Stp):Prop:=z2t W ts/\((ts=[]/\[]∈W)∨∃ pre t,ts=pre++[t]/\t.2.2.2=[])
def y6f (K:W.Frag):Sp:=fun vs H Q _=>∃ (c:Nat) (a:Addr) (ws:List Wr),vs=[.int c,.ref a]/\SqL K H a (wrefs ws)/\WsOk H ws/\c<=28/\ws.length<=1000/\total (wl ws)<=10000/\pot c (wl ws)<=16646144/\(∀ v∈wl ws,v.length<=28)/\(∀ v∈wl ws,∀ y∈v,y≠0/\y.natAbs<=c) /\
 (∀ (t l:Addr) (W':List (List Int)) (P:List Pd) (H':Hp),Same H H'->H' t=some (.tup [.str "yes",.ref l])->H' l=some (.lst ((setT c (P.map (·.1))).map V.bl))->Ends c (wl ws,[]) (W',P)->z0s W' (P.map (·.1))=none->z2s (wl ws) (setT c (P.map (·.1)))->(∀ s':List Bool,s'.length=c->z2s (wl ws) s'->s'≠setT c (P.map (·.1))->erl (setT c (P.map (·.1))) s'=true)->Q (.ref t) H') /\
 ∀ (t l:Addr) (ss:List Sr) (H':Hp),Same H H'->H' t=some (.tup [.str "no",.ref l])->H' l=some (.lst (srefs ss))->SsOk H' ss->y5x (wl ws) (sls ss)->ss.length<=16646144->(∀ s∈ss,s.2.2.2.2.2.length<=28)->(∀ s∈ss,∀ y∈s.2.2.2.2.2,y≠0/\y.natAbs<=c)->(∀ s,z2s (wl ws) s->False)->Ends c (wl ws,[]) (wl ws++wlSt (sls ss),[])->[]∈wl ws++wlSt (sls ss)->Q (.ref t) H'
section
variable {P:Program}{w:World}{K:W.Frag}{mg:Str->Option Value}{base:Heap}{C:Addr}
theorem x2p (B:Blt mg)(T:TallyCls K mg C)(mk_Tally:Made P w K mg base 4 "Tally" C z2j (x0m K C))(m_first_broken:MCal P w K mg base 1 C "first_broken" z0x (y1o C))
 (c_search:Cal P w K mg base 5 "search" z7d (y1y K C)) (c_setting_of:Cal P w K mg base 1 "setting_of" z3n (y8p C))
 (Df:Def K mg "solved" z6b z8j):Cal P w K mg base 6 "solved" z8j (y6f K):=by
 refine Df.cal sc_solved (fun vs H Q E h=>?_) (fun f cdv A outer s H vs Q E hr h=>?_)
 ·obtain⟨c,a,ws,rfl,_⟩:=h;rfl
 ·obtain⟨c,a,ws,rfl,hS,hW,hc,hz,hz2,hpot,hv,hlt,qy,qn⟩:=h
  have hu:=hu_of hr
  have cl:=T.cl
  refine⟨_,(z0b (z0t (i:=2) sc_solved.nd rfl (Or.inl rfl) (w0k mk_Tally hr (by decide) (z0a (pv 1) z0d)))
 (z0b (z0t (i:=3) sc_solved.nd rfl (Or.inl rfl) (z0v c_search hr (by decide) (z0a (pv 0) (z0a (pv 2) (z0a (z1g z0d) z0d)))))
 (z0b (ps_if (z0k y3w (z9o m_first_broken cl hr (by decide) (pv 2)) z3d (z0q _))
 (z0e (z0p (z5c (z0a y2d (z0a (z0v c_setting_of hr (by decide) (z0a (pv 0) (z0a (pv 2) z0d))) z0d)))))
 z0o)
 (z0e (z0p (z5c (z0a y2d (z0a (pv 3) z0d)))))))),?_⟩
  refine⟨_,rfl,fun p dx hp hdx ndx=>?_⟩
  have sm0:Same H (upd (upd H dx (.own p)) p (.ins C dx [])):=((smR H).upd hdx).upd hp
  refine⟨p,a,dx,H,ws,rfl,⟨sm0,z0c,hp,(fun _ h=>nomatch h),List.nodup_nil,Nat.le_refl _⟩,hS,hW,by omega,by omega,fun x0 H1 hx0 ew eq sm1 hf hm=>⟨rfl,?_⟩⟩
  refine⟨_,rfl,_,rfl,by decide,fun le hle=>?_⟩
  have sm2:Same H1 (upd H1 le (.lst [])):=(smR H1).upd hle
  have g2:upd H1 le (.lst []) le=some (.lst ([].map V.int)):=z0c
  have nle:¬ foot p x0 le:=z4a hx0.ty hle
  have hx2:=hx0.same sm2
  generalize upd H1 le (.lst [])=H2 at sm2 g2 hx2
  have s02:=sm1.trans sm2
  refine⟨c,p,le,x0,rfl,hx2,eq,g2,nle,hc,by rw[ew];omega,by rw[ew];exact hpot,by rw[ew];exact hv,by rw[ew];exact hlt,fun ls ss x3 H3 hx3 fr3 hls nls h3s h3ss ew3 hvl3 hsz3 hra3 si3 hend hends=>?_⟩
  rw[ew]at ew3 hsz3 hra3 hend si3 hends
  have s03:Same H H3:=fun b o hb=>fr3.out b o (s02 b o hb) fun z=>by rw[hf b z]at hb;cases hb
  have hlsH:=s02.free hls
  obtain⟨d3,ob3⟩:=hx3.ty.ob
  have noB:(flds x3).lookup ("first_broken" : Str)=none:=fl_nx x3 (by decide +kernel)
  refine⟨_,rfl,p,d3,_,rfl,ob3,noB,p,x3,rfl,hx3,rfl,_,rfl,?_⟩
  have eT:x3.T=(pdat x3.qs).map (·.1):=by rw[z5m,hx3.T]
  rcases hend with ⟨hT,hem,hl⟩|⟨hb,hall⟩
  ·have hbr:z0s (wl x3.ws) x3.T≠none:=fun z=>z5r z hem rfl
   refine ite2 (fun z=>?_) (fun _=>?_)
   ·exfalso
    cases h:z0s (wl x3.ws) x3.T with
    | none=>exact hbr h
    | some i=>rw[h]at z;cases z
   refine⟨_,rfl,len2,fun t ht=>?_⟩
   have s4:Same H3 (upd H3 t (.tup [.str "no",.ref ls])):=(smR H3).upd ht
   have hmem:∀ s∈ss,s.2.2.2.2.2∈wl x3.ws:=fun s hs=>by
    rw[ew3]
    unfold wl
    exact List.mem_map.mpr ⟨(s.2.1,s.2.2.2.2.2),List.mem_append_right _ (List.mem_map.mpr ⟨s,hs,rfl⟩),rfl⟩
   have hq3:pdat x3.qs=[]:=by
    rw[eT]at hT
    exact List.map_eq_nil_iff.mp hT
   have ewl3:wl x3.ws=wl ws++wlSt (sls ss):=by rw[ew3,x3n]
   rw[hq3,ewl3]at hends
   refine qn t ls ss _ (s03.trans s4) z0c (s4 _ _ h3s) (h3ss.mono s4) ⟨hra3,hl⟩ ?_ (fun s hs=>hvl3 _ (hmem s hs)) (fun s hs=>si3.lett _ (hmem s hs)) (fun s hs=>?_) hends (by rw[←ewl3];exact hem)
   ·have:x3.ws.length=ws.length+ss.length:=by rw[ew3];simp[wst]
    omega
   ·have:=si3.imp s hs [] hem
    simp at this
  ·rw[hb]
   refine iteT ⟨_,rfl,_,rfl,p,x3,c,rfl,hx3,by omega,fun l4 H4 hl4 s4 h4=>⟨len2,fun t ht=>?_⟩⟩
   have ef:(List.range c).map (fun (i:Nat)=>V.bl (decide ((1+(i:Int))∈x3.T)))=(setT c ((pdat x3.qs).map (·.1))).map V.bl:=by rw[←eT];simp[setT]
   rw[ef]at h4
   have s5:Same H4 (upd H4 t (.tup [.str "yes",.ref l4])):=(smR H4).upd ht
   have s04:=s03.trans s4
   rw[eT]at hb
   obtain⟨f1,f2,f3⟩:=si3.found hb (fun m h1 h2=>by rw[←eT];exact hall m h1 h2)
   exact qy t l4 _ _ _ (s04.trans s5) z0c (s5 _ _ h4) hends hb f2 (f3 rfl)
end
theorem x1r (b:Bool)(s s':List Bool):erl (b::s) (b::s')=erl s s':=by
 show (if b=b then erl s s' else b)=_
 rw[if_pos rfl]
theorem x2a:∀ c,(allS c).Pairwise fun s s'=>erl s s'=true
 | 0=>by simp[allS]
 | c+1=>by
  have ih:=x2a c
  unfold allS
  refine List.pairwise_append.mpr ⟨List.pairwise_map.mpr (ih.imp fun {a b} h=>by rw[x1r];exact h),List.pairwise_map.mpr (ih.imp fun {a b} h=>by rw[x1r];exact h),fun s hs s' hs'=>?_⟩
  obtain⟨u,_,rfl⟩:=List.mem_map.mp hs
  obtain⟨u',_,rfl⟩:=List.mem_map.mp hs'
  rfl
theorem x1s:∀ {s s':List Bool},erl s s'=true->erl s' s=false
 | [],_,h=>by cases h
 | _::_,[],h=>by cases h
 | a::s,b::s',h=>by
  have e1:erl (a::s) (b::s')=if a=b then erl s s' else a:=rfl
  have e2:erl (b::s') (a::s)=if b=a then erl s' s else b:=rfl
  rw[e1]at h
  rw[e2]
  by_cases c:a=b
  ·rw[if_pos c]at h
   rw[if_pos c.symm];exact x1s h
  ·rw[if_neg c]at h
   rw[if_neg (Ne.symm c)]
   cases b with
   | false=>rfl
   | true=>exact absurd h c
theorem y4f {p:List Bool->Bool}{s:List Bool}(hp:p s=true):∀ {l:List (List Bool)},l.Pairwise (fun s s'=>erl s s'=true)->s∈l->(∀ s'∈l,p s'=true->s'≠s->erl s s'=true)->l.find? p=some s
 | [],_,h,_=>nomatch h
 | a::l,hw,hm,hf=>by
  rw[List.pairwise_cons]at hw
  by_cases e:a=s
  ·rw[List.find?_cons_of_pos (by rw[e];exact hp),e]
  ·have hs:s∈l:=(List.mem_cons.mp hm).elim (fun z=>absurd z.symm e) id
   by_cases ha:p a=true
   ·have h1:=hf a List.mem_cons_self ha e
    have h2:=hw.1 s hs
    rw[x1s h1]at h2;cases h2
   ·rw[List.find?_cons_of_neg ha]
    exact y4f hp hw.2 hs fun s' hs'=>hf s' (List.mem_cons_of_mem _ hs')
def y0k (c:Nat)(W:List (List Int)):Option (List Bool):=(allS c).find? fun s=>W.all fun v=>v.any (so s)
theorem x3i {c:Nat}{W:List (List Int)}{s:List Bool}(hl:s.length=c)(hm:z2s W s)(hf:∀ s':List Bool,s'.length=c->z2s W s'->s'≠s->erl s s'=true):y0k c W=some s :=
 y4f (List.all_eq_true.mpr hm) (x2a c) (mem_allS.mpr hl) fun s' hs' hp hne=>hf s' (mem_allS.mp hs') (List.all_eq_true.mp hp) hne
def spMet:Sp:=fun vs H Q _=>∃ (a b:Addr) (ns:List Int) (bs:List Bool),vs=[.ref a,.ref b]/\H a=some (.lst (ns.map V.int))/\H b=some (.lst (bs.map V.bl))/\(∀ n∈ns,n≠0/\n.natAbs<=bs.length)/\Q (.bl (ns.any (so bs))) H
section
variable {P:Program}{w:World}{K:W.Frag}{mg:Str->Option Value}{base:Heap}
theorem x2t (B:Blt mg)(Df:Def K mg "_law_meets" z4x z5f):Cal P w K mg base 1 "_law_meets" z5f spMet:=by
 refine Df.cal sc_l_meets (fun vs H Q E h=>?_) (fun f cdv A outer s H vs Q E hr h=>?_)
 ·obtain⟨a,b,ns,bs,rfl,_⟩:=h;rfl
 ·obtain⟨a,b,ns,bs,rfl,ha,hb,hn,q⟩:=h
  refine⟨_,(z0b (z3a PassesOwn.never rfl (z1d (pv 0)) (z1c (i:=2) sc_l_meets.nd rfl (Or.inl rfl))
 (z0e (ps_if (z0k op_eq (pe_ix ix_list (pv 1) (pe_op y2e (z0n x1z (by rfl) B.abs_ x9u (z0a (pv 2) z0d)) z0i) (fun _ _=>rfl)) (z4m op_gt (pv 2) z0i (z0q _)) (z0q _))
 (z0e (z0p pe_bl))
 z0o)))
 (z0e (z0p pe_bl))),?_⟩
  refine⟨_,rfl,a,rfl,⟨_,qLo ha⟩,z2z (K:=K) (a:=a) (xs:=ns.map V.int) (fun i σ H2=>∃ v,σ=[some (.ref a),some (.ref b),v]/\H2=H/\∀ n∈ns.take i,so bs n=false)
   ⟨none,rfl,rfl,by simp⟩ (fun i σ H2 _ ⟨_,_,e,_⟩=>by rw[e];exact qLo ha) ?_ ?_⟩
  ·rintro i y σ H2 hi ⟨v,rfl,rfl,hno⟩
   obtain⟨n,hni,rfl⟩:=getV hi
   obtain⟨h0,h1⟩:=hn n (List.mem_of_getElem? hni)
   refine⟨_,rfl,_,rfl,n,rfl,_,_,rfl,rfl,b,_,_,_,rfl,rfl,qLo hb,w1j h0 h1,_,rfl,_,_,rfl,rfl,rfl,_,rfl,?_⟩
   refine ite2 (fun c=>?_) (fun c=>?_)
   ·have c':so bs n=true:=by
     have:=of_decide_eq_true c
     unfold so
     injection this with e
     rw[e];simp
    have:ns.any (so bs)=true:=List.any_eq_true.mpr ⟨n,List.mem_of_getElem? hni,c'⟩
    rw[this]at q
    exact q
   ·have c':so bs n=false:=by
     unfold so
     rw[Bool.eq_false_iff]
     intro z
     apply c
     apply decide_eq_true
     rw[eq_of_beq z]
    refine⟨_,rfl,rfl,fun m hm=>?_⟩
    rw[List.take_add_one,hni]at hm
    rcases mApp hm with z|z
    ·exact hno m z
    ·have:m=n:=by simpa using z
     rw[this];exact c'
  ·rintro σ H2 ⟨v,rfl,rfl,hno⟩
   have:ns.any (so bs)=false:=by
    rw[List.any_eq_false]
    intro n hm
    have:=hno n (by simpa using hm)
    simp[this]
   rw[this]at q
   exact q
end
def y4v (K:W.Frag):Sp:=fun vs H Q _=>∃ (a b:Addr) (ws:List Wr) (bs:List Bool),vs=[.ref a,.ref b]/\SqL K H a (wrefs ws)/\WsOk H ws/\H b=some (.lst (bs.map V.bl))/\(∀ v∈wl ws,∀ n∈v,n≠0/\n.natAbs<=bs.length)/\Q (.bl ((wl ws).all fun v=>v.any (so bs))) H
section
variable {P:Program}{w:World}{K:W.Frag}{mg:Str->Option Value}{base:Heap}
theorem y7b (c_l_meets:Cal P w K mg base 1 "_law_meets" z5f spMet)(Df:Def K mg "_law_all_met" z3i z4d):Cal P w K mg base 2 "_law_all_met" z4d (y4v K):=by
 refine Df.cal sc_l_all_met (fun vs H Q E h=>?_) (fun f cdv A outer s H vs Q E hr h=>?_)
 ·obtain⟨a,b,ws,bs,rfl,_⟩:=h;rfl
 ·obtain⟨a,b,ws,bs,rfl,hS,hW,hb,hl,q⟩:=h
  refine⟨_,(z0b (z3a PassesOwn.never rfl (z1d (pv 0)) (z1c (i:=2) sc_l_all_met.nd rfl (Or.inl rfl))
 (z0e (ps_if (z2y (z2a (z0v c_l_meets hr (by decide) (z0a (pv 2) (z0a (pv 1) z0d)))))
 (z0e (z0p pe_bl))
 z0o)))
 (z0e (z0p pe_bl))),?_⟩
  refine⟨_,rfl,a,rfl,⟨_,hS⟩,z2z (K:=K) (a:=a) (xs:=wrefs ws) (fun i σ H2=>∃ v,σ=[some (.ref a),some (.ref b),v]/\H2=H/\∀ u∈(wl ws).take i,u.any (so bs)=true)
   ⟨none,rfl,rfl,by simp⟩ (fun i σ H2 _ ⟨_,_,e,_⟩=>by rw[e];exact hS) ?_ ?_⟩
  ·rintro i y σ H2 hi ⟨v,rfl,rfl,hall⟩
   obtain⟨wr,hwi,rfl⟩:=x0g hi
   have hmem:=List.mem_of_getElem? hwi
   have hwl:(wl ws)[i]?=some wr.2:=by unfold wl;rw[List.getElem?_map,hwi];rfl
   refine⟨_,rfl,_,rfl,wr.1,b,wr.2,bs,rfl,hW wr hmem,hb,hl wr.2 (List.mem_of_getElem? hwl),_,rfl,?_⟩
   cases e:wr.2.any (so bs) with
   | true =>
    refine iteF ⟨_,rfl,rfl,fun u hu=>?_⟩
    rw[List.take_add_one,hwl]at hu
    rcases mApp hu with z|z
    ·exact hall u z
    ·have:u=wr.2:=by simpa using z
     rw[this];exact e
   | false =>
    refine iteT ?_
    have:((wl ws).all fun v=>v.any (so bs))=false:=by
     rw[List.all_eq_false]
     exact⟨wr.2,List.mem_of_getElem? hwl,by rw[e];simp⟩
    rw[this]at q;exact q
  ·rintro σ H2 ⟨v,rfl,rfl,hall⟩
   have:((wl ws).all fun v=>v.any (so bs))=true:=by
    rw[List.all_eq_true]
    intro u hu
    exact hall u (by rw[z0w,←z1h,List.take_length];exact hu)
   rw[this]at q;exact q
end
def x9h (K:W.Frag):Sp:=fun vs H Q _=>∃ (a:Addr) (s:List Bool),vs=[.ref a,.int s.length]/\H a=some (.lst (s.map V.bl))/\Q (.bl true) H
section
variable {P:Program}{w:World}{K:W.Frag}{mg:Str->Option Value}{base:Heap}
theorem x5b (B:Blt mg)(Df:Def K mg "_law_full" z6g z8k):Cal P w K mg base 1 "_law_full" z8k (x9h K):=by
 refine Df.cal sc_l_full (fun vs H Q E h=>?_) (fun f cdv A outer s H vs Q E hr h=>?_)
 ·obtain⟨a,s,rfl,_⟩:=h;rfl
 ·obtain⟨a,s,rfl,ha,q⟩:=h
  refine⟨_,(z0b (ps_if (PW.pt (pw_or (z2y (z2a (z0n z2n (by rfl) B.isinstance_ z0u (z0a (pv 0) (z0a (pe_ty B.list_ z3y) z0d))))) (z5a (z0k op_ne (z0n z0l (by rfl) B.len_ PySem.boot_len (z0a (pv 0) z0d)) (pv 1) (z0q _)))))
 (z0e (z0p pe_bl))
 z0o)
 (z0b (z3a PassesOwn.never rfl (z1d (pv 0)) (z1c (i:=2) sc_l_full.nd rfl (Or.inl rfl))
 (z0e (ps_if (z2y (z2a (z0n z2n (by rfl) B.isinstance_ z0u (z0a (pv 2) (z0a (pe_ty B.bool_ y5v) z0d)))))
 (z0e (z0p pe_bl))
 z0o)))
 (z0e (z0p pe_bl)))),?_⟩
  have el:(((s.map V.bl).length:Nat):Int)=(s.length:Int):=by simp
  refine⟨_,rfl,_,.lst,.lst,rfl,⟨_,.inl ha⟩,_,rfl,?_⟩
  refine iteF ⟨_,rfl,a,_,rfl,.inl (qLo ha),_,rfl,rfl,_,rfl,ite2 (fun c=>?_) (fun _=>?_)⟩
  ·rw[el]at c;simp at c
  ·refine⟨_,rfl,a,rfl,⟨_,qLo ha⟩,z2z (K:=K) (a:=a) (xs:=s.map V.bl) (fun i σ H2=>∃ v,σ=[some (.ref a),some (.int s.length),v]/\H2=H) ⟨none,rfl,rfl⟩ (fun i σ H2 _ ⟨_,_,e⟩=>by rw[e];exact qLo ha) ?_ ?_⟩
   ·rintro i y σ H2 hi ⟨v,rfl,rfl⟩
    obtain⟨b,_,rfl⟩:=getV hi
    exact⟨_,rfl,_,.bl,.bl,rfl,trivial,_,rfl,iteF ⟨_,rfl,rfl⟩⟩
   ·rintro σ H2 ⟨v,rfl,rfl⟩
    exact q
end
theorem rd_op {r:R2}{ta tb:TE}{σ:L2.St}{H:Hp}{Q:VK}(h:ta σ H fun x H1=>tb σ H1 fun y H2=>r x y H2 Q):tOp r ta tb σ H Q:=h
def FsOk (H:Hp)(fs:List Sf):Prop:=∀ f∈fs,H f.1=some (.lst (f.2.map V.bl))
theorem FsOk.mono {H H':Hp}{fs:List Sf}(h:FsOk H fs)(s:Same H H'):FsOk H' fs:=fun f hf=>s _ _ (h f hf)
theorem y2x (fs:List Sf):(frefs fs).length=fs.length:=by simp[frefs]
theorem x1w {K:W.Frag}{a:Addr}{b:Bool}{fs:List Sf}{σ:L2.St}{js:List Nat}{te:TE}{Q:VK}{H:Hp}(h:H a=some (.lst (frefs fs)))(hF:FsOk H fs)(hz:fs.length<=10000000)
 (he:∀ (f:Sf) (H2:Hp) (N:VK),H2 f.1=some (.lst (f.2.map V.bl))->f∈fs->(∀ p H3,H2 p=none->Same H2 H3->H3 p=some (.lst ((b::f.2).map V.bl))->N (.ref p) H3)->te (inner σ js (some (.ref f.1))) H2 N)
 (hd:∀ (l:Addr) (gs:List Sf) (H':Hp),H l=none->Same H H'->FsOk H' gs->gs.map (·.2)=(fs.map (·.2)).map (b::·)->H' l=some (.lst (frefs gs))->Q (.ref l) H'):CompW (Itl K a) σ js tTrue te Q H:=by
 refine y3g (K:=K) (a:=a) (xs:=frefs fs) (fun i ys H2=>∃ gs:List Sf,ys=frefs gs/\Same H H2/\FsOk H2 gs/\gs.map (·.2)=((fs.map (·.2)).take i).map (b::·)) ⟨[],rfl,smR _,(fun _ h=>nomatch h),by simp⟩ (z1m (by rw[y2x];omega)) (fun i ys H2 _ ⟨_,_,e,_⟩=>qLo (e _ _ h)) ?_ ?_
 ·rintro i y ys H2 N hi hyl ⟨gs,rfl,sm2,hO,hwl⟩ hN
  obtain⟨f,hfi,rfl⟩:=getV (f:=fun q:Sf=>V.ref q.1) hi
  have hmem:=List.mem_of_getElem? hfi
  have hf2:(fs.map (·.2))[i]?=some f.2:=by rw[List.getElem?_map,hfi];rfl
  refine iteT ?_
  refine he f H2 _ (sm2 _ _ (hF f hmem)) hmem fun pl H3 hpl s3 h3=>?_
  refine hN _ _ ⟨gs++[(pl,b::f.2)],by simp[frefs],sm2.trans s3,fun q hq=>?_,?_⟩ (by simpa using hyl)
  ·rcases mApp hq with z|z
   ·exact (hO.mono s3) q z
   ·have:q=(pl,b::f.2):=by simpa using z
    rw[this];exact h3
  ·rw[List.take_add_one,hf2,List.map_append,hwl];simp
 ·rintro ys H2 ⟨gs,rfl,sm2,hO,hwl⟩ l hl
  have s3:Same H2 (upd H2 l (.lst (frefs gs))):=(smR H2).upd hl
  refine hd l gs _ (sm2.free hl) (sm2.trans s3) (hO.mono s3) ?_ z0c
  have el:(frefs fs).length=(fs.map (·.2)).length:=by simp[frefs]
  rw[hwl,el,List.take_length]
def w2v (H:Hp)(o:Option (List Bool))(v:V):Prop:=match o with
 | none=>v=.non
 | some s=>∃ l,v=.ref l/\H l=some (.lst (s.map V.bl))
def y6i (K:W.Frag):Sp:=fun vs H Q _=>∃ (c:Nat) (a:Addr) (ws:List Wr),vs=[.int c,.ref a]/\SqL K H a (wrefs ws)/\WsOk H ws/\c<=16/\(∀ v∈wl ws,∀ y∈v,y≠0/\y.natAbs<=c)/\∀ (v:V) (H':Hp),Same H H'->w2v H' (y0k c (wl ws)) v->Q v H'
section
variable {P:Program}{w:World}{K:W.Frag}{mg:Str->Option Value}{base:Heap}
theorem y5g (B:Blt mg)(c_l_all_met:Cal P w K mg base 2 "_law_all_met" z4d (y4v K))(Df:Def K mg "_law_first_of" z2w z4j):Cal P w K mg base 3 "_law_first_of" z4j (y6i K):=by
 refine Df.cal sc_l_first_of (fun vs H Q E h=>?_) (fun f cdv A outer s H vs Q E hr h=>?_)
 ·obtain⟨c,a,ws,rfl,_⟩:=h;rfl
 ·obtain⟨c,a,ws,rfl,hS,hW,hc,hl,q⟩:=h
  refine⟨_,(z0b (z0t (i:=2) sc_l_first_of.nd rfl (Or.inl rfl) (z1g (z0a (z1g z0d) z0d)))
 (z0b (z3a PassesOwn.never rfl (z5b (by rfl) B.range_ (z0a (pv 0) z0d)) (z1c (i:=3) sc_l_first_of.nd rfl (Or.inl rfl))
 (z0e (z0t (i:=2) sc_l_first_of.nd rfl (Or.inl rfl) (pe_op z7n (z4p (fvn:=[]) (js:=[]) rfl (z1d (pv 2)) .nil ⟨by decide +kernel,rfl,by decide +kernel,rfl,by decide +kernel,by decide +kernel⟩ (fun _ _ _ _ _=>z7w) (fun _ _ _ _ _=>(pe_op z7n (z1g (z0a pe_bl z0d)) (pv 0)))) (z4p (fvn:=[]) (js:=[]) rfl (z1d (pv 2)) .nil ⟨by decide +kernel,rfl,by decide +kernel,rfl,by decide +kernel,by decide +kernel⟩ (fun _ _ _ _ _=>z7w) (fun _ _ _ _ _=>(pe_op z7n (z1g (z0a pe_bl z0d)) (pv 0))))))))
 (z0b (z3a PassesOwn.never rfl (z1d (pv 2)) (z1c (i:=4) sc_l_first_of.nd rfl (Or.inl rfl))
 (z0e (ps_if (z2a (z0v c_l_all_met hr (by decide) (z0a (pv 1) (z0a (pv 4) z0d))))
 (z0e (z0p (pv 4)))
 z0o)))
 (z0e (z0p z3d))))),?_⟩
  refine⟨by decide,fun l0 hl0=>⟨len1,fun lr hlr=>?_⟩⟩
  have s1:Same H (upd H l0 (.lst [])):=(smR H).upd hl0
  have g1:upd H l0 (.lst []) l0=some (.lst []):=z0c
  generalize upd H l0 (.lst [])=H1 at s1 g1 hlr
  have s2:Same H1 (upd H1 lr (.lst [V.ref l0])):=(smR H1).upd hlr
  have g2:upd H1 lr (.lst [V.ref l0]) lr=some (.lst (frefs [(l0,[])])):=z0c
  generalize upd H1 lr (.lst [V.ref l0])=H2 at s2 g2
  have hl2:=s2 _ _ g1
  have s02:=s1.trans s2
  have en:((c:Int)).toNat=c:=by omega
  refine⟨_,rfl,_,rfl,by omega,by omega,?_⟩
  rw[en]
  refine z5h (fun i σ Hx=>∃ (lr:Addr) (rs:List Sf) (v3:Option V),σ=[some (.int c),some (.ref a),some (.ref lr),v3,none]/\Same H Hx/\Hx lr=some (.lst (frefs rs))/\FsOk Hx rs/\rs.map (·.2)=allS i)
   ⟨lr,[(l0,[])],none,rfl,s02,g2,fun f hf=>by
    have:f=(l0,[]):=by simpa using hf
    rw[this];exact hl2,rfl⟩ ?_ ?_
  ·rintro i σ Hx hi ⟨lr,rs,v3,rfl,sx,hx,hF,hal⟩
   have hrl:rs.length<=65536:=by
    have e:rs.length=(allS i).length:=by rw[←hal];simp
    rw[e,x2b]
    have:(2:Nat) ^ i<=2 ^ 16:=Nat.pow_le_pow_right (by decide) (by omega)
    omega
   have row:∀ (b:Bool) (f:Sf) (H2:Hp) (N:VK),H2 f.1=some (.lst (f.2.map V.bl))->f∈rs->(∀ p H3,H2 p=none->Same H2 H3->H3 p=some (.lst ((b::f.2).map V.bl))->N (.ref p) H3)->((V.ref f.1=V.ref f.1)/\(1<=sizeLine/\∀ p1,H2 p1=none->∃ l bb xs zs,V.ref p1=.ref l/\V.ref f.1=.ref bb/\upd H2 p1 (.lst [V.bl b]) l=some (.lst xs)/\upd H2 p1 (.lst [V.bl b]) bb=some (.lst zs)/\xs.length+zs.length<=sizeLine/\∀ p,upd H2 p1 (.lst [V.bl b]) p=none->N (.ref p) (upd (upd H2 p1 (.lst [V.bl b])) p (.lst (xs++zs))))):=by
    intro b f H2 N hf hm hN
    have hfl:f.2.length<=16:=by
     have:f.2∈allS i:=by rw[←hal];exact List.mem_map.mpr ⟨f,hm,rfl⟩
     rw[mem_allS.mp this];omega
    refine⟨rfl,z1m (by omega),fun p1 hp1=>⟨p1,f.1,_,_,rfl,rfl,z0c,by rw[z0h (z0f hf hp1)];exact hf,z1m (by simp;omega),fun p hp=>?_⟩⟩
    have t1:Same H2 (upd H2 p1 (.lst [V.bl b])):=(smR H2).upd hp1
    exact hN p _ (t1.free hp) (t1.trans ((smR _).upd hp)) z0c
   refine z7u (te:=tOp _ _ _) (rd_op (ta:=tComp _ _ _ _) (z1r (K:=K) ?_))
   refine⟨_,rfl,lr,rfl,⟨_,qLo hx⟩,?_⟩
   refine x1w (b:=true) hx hF (by omega) (fun f H2 N hf hm hN=>?_) fun l3 gs H3 hl3 s3 hG3 e3 h3=>?_
   ·obtain⟨_,k⟩:=row true f H2 N hf hm hN
    exact⟨len1,fun p1 hp1=>⟨_,rfl,k.2 p1 hp1⟩⟩
   refine z1r (K:=K) ?_
   refine⟨_,rfl,lr,rfl,⟨_,qLo (s3 _ _ hx)⟩,?_⟩
   refine x1w (b:=false) (s3 _ _ hx) (hF.mono s3) (by omega) (fun f H2 N hf hm hN=>?_) fun l4 ks H4 hl4 s4 hG4 e4 h4=>?_
   ·obtain⟨_,k⟩:=row false f H2 N hf hm hN
    exact⟨len1,fun p1 hp1=>⟨_,rfl,k.2 p1 hp1⟩⟩
   have hgl:gs.length=rs.length:=by have:=congrArg List.length e3;simpa using this
   have hkl:ks.length=rs.length:=by have:=congrArg List.length e4;simpa using this
   refine⟨l3,l4,_,_,rfl,rfl,s4 _ _ h3,h4,z1m (by rw[y2x,y2x];omega),fun p hp=>?_⟩
   have s5:Same H4 (upd H4 p (.lst (frefs gs++frefs ks))):=(smR H4).upd hp
   refine⟨p,gs++ks,_,rfl,((sx.trans s3).trans s4).trans s5,by rw[z0c];simp[frefs],fun f hf=>?_,?_⟩
   ·rcases mApp hf with z|z
    ·exact ((hG3.mono s4).mono s5) f z
    ·exact (hG4.mono s5) f z
   ·rw[List.map_append,e3,e4,hal];rfl
  ·rintro σ Hx ⟨lr,rs,v3,rfl,sx,hx,hF,hal⟩
   refine⟨_,rfl,lr,rfl,⟨_,qLo hx⟩,z2z (K:=K) (a:=lr) (xs:=frefs rs) (fun i σ Hy=>∃ v4,σ=[some (.int c),some (.ref a),some (.ref lr),v3,v4]/\Hy=Hx/\∀ s∈(allS c).take i,((wl ws).all fun v=>v.any (so s))=false)
    ⟨none,rfl,rfl,by simp⟩ (fun i σ Hy _ ⟨_,_,e,_⟩=>by rw[e];exact qLo hx) ?_ ?_⟩
   ·rintro i y σ Hy hi ⟨v4,rfl,rfl,hno⟩
    obtain⟨f,hfi,rfl⟩:=getV (f:=fun q:Sf=>V.ref q.1) hi
    have hmem:=List.mem_of_getElem? hfi
    have hf2:(allS c)[i]?=some f.2:=by rw[←hal,List.getElem?_map,hfi];rfl
    have hlen:f.2.length=c:=mem_allS.mp (List.mem_of_getElem? hf2)
    refine⟨_,rfl,_,rfl,a,f.1,ws,f.2,rfl,sx.seq hS,hW.mono sx,hF f hmem,fun v hv y hy=>by rw[hlen];exact hl v hv y hy,_,rfl,ite2 (fun c1=>?_) (fun c1=>?_)⟩
    ·refine⟨_,rfl,q _ _ sx ?_⟩
     have:y0k c (wl ws)=some f.2:=by
      unfold y0k
      refine List.find?_eq_some_iff_getElem.mpr ⟨c1,i,(List.getElem?_eq_some_iff.mp hf2).1,?_,fun j hj=>?_⟩
      ·exact (List.getElem?_eq_some_iff.mp hf2).2
      ·have hjl:j<(allS c).length:=by have:=(List.getElem?_eq_some_iff.mp hf2).1;omega
       have:=hno (allS c)[j] (List.mem_iff_getElem?.mpr ⟨j,by rw[List.getElem?_take_of_lt hj,List.getElem?_eq_getElem hjl]⟩)
       rw[this];rfl
     rw[this]
     exact⟨f.1,rfl,hF f hmem⟩
    ·refine⟨_,rfl,rfl,fun s hs=>?_⟩
     rw[List.take_add_one,hf2]at hs
     rcases mApp hs with z|z
     ·exact hno s z
     ·have:s=f.2:=by simpa using z
      rw[this]
      exact Bool.eq_false_iff.mpr c1
   ·rintro σ Hy ⟨v4,rfl,rfl,hno⟩
    refine q _ _ sx ?_
    have:y0k c (wl ws)=none:=by
     unfold y0k
     rw[List.find?_eq_none]
     intro s hs
     have el:(frefs rs).length=(allS c).length:=by rw[←hal];simp[frefs]
     rw[el,List.take_length]at hno
     rw[hno s hs];simp
    rw[this];rfl
end
def x0o:Sp:=fun vs H Q _=>∃ (t:Addr) (w:Str) (v:V),vs=[.ref t]/\H t=some (.tup [.str w,v])/\(w="yes"∨w="no")/\Q (.bl true) H
section
variable {P:Program}{w:World}{K:W.Frag}{mg:Str->Option Value}{base:Heap}
theorem y9g (B:Blt mg)(Df:Def K mg "_law_answer" z4h z5q):Cal P w K mg base 1 "_law_answer" z5q x0o:=by
 refine Df.cal y8w (fun vs H Q E h=>?_) (fun f cdv A outer s H vs Q E hr h=>?_)
 ·obtain⟨t,w,v,rfl,_⟩:=h;rfl
 ·obtain⟨t,wd,v,rfl,ht,hw,q⟩:=h
  refine⟨_,(z0b (ps_if (PW.pt (pw_or (z2y (z2a (z0n z2n (by rfl) B.isinstance_ z0u (z0a (pv 0) (z0a (pe_ty B.tuple_ z8u) z0d))))) (pw_or (z0k op_ne (z0n z0l (by rfl) B.len_ PySem.boot_len (z0a (pv 0) z0d)) z0i (z0q _)) (z5a (z2y (z2a (z0n z2n (by rfl) B.isinstance_ z0u (z0a (pe_ix ix_tup (pv 0) z0i (fun _ _=>rfl)) (z0a (pe_ty B.str_ w2z) z0d)))))))))
 (z0e (z0p pe_bl))
 z0o)
 (z0e (z0p (pe_or (z4m op_eq (pe_ix ix_tup (pv 0) z0i (fun _ _=>rfl)) y2d (z0q _)) (x0y (z4m op_eq (pe_ix ix_tup (pv 0) z0i (fun _ _=>rfl)) y2d (z0q _))))))),?_⟩
  refine⟨_,rfl,_,.tup,.tup,rfl,⟨_,ht⟩,_,rfl,iteF ?_⟩
  refine⟨_,rfl,t,_,rfl,.inr (qTo ht),rfl,_,rfl,iteNS rfl ?_⟩
  refine⟨_,rfl,t,_,_,_,rfl,rfl,qTo ht,rfl,_,.str,.str,rfl,trivial,_,rfl,iteF ?_⟩
  refine⟨_,rfl,t,_,_,_,rfl,rfl,qTo ht,rfl,rfl,_,rfl,?_⟩
  rcases hw with e|e
  ·subst e;exact iteT q
  ·subst e;exact iteF ⟨_,rfl,t,_,_,_,rfl,rfl,qTo ht,rfl,rfl,q⟩
end
def draw (n p m:Int):Int:=n*48271 % p % m
def x3z:Sp:=fun vs H Q _=>∃ n p m:Int,vs=[.int n,.int p,.int m]/\0<p/\0<m/\Q (.int (draw n p m)) H
section
variable {P:Program}{w:World}{K:W.Frag}{mg:Str->Option Value}{base:Heap}
theorem x5c (Df:Def K mg "_law_draw" z6h z7f):Cal P w K mg base 1 "_law_draw" z7f x3z:=by
 refine Df.cal x4e (fun vs H Q E h=>?_) (fun f cdv A outer s H vs Q E hr h=>?_)
 ·obtain⟨n,p,m,rfl,_⟩:=h;rfl
 ·obtain⟨n,p,m,rfl,hp,hm,q⟩:=h
  refine⟨_,(z0e (z0p (pe_op z4k (pe_op z4k (pe_op y0w (pv 0) z0i) (pv 1)) (pv 2)))),?_⟩
  exact⟨_,rfl,_,_,rfl,rfl,.inr ⟨by decide,by decide⟩,_,rfl,_,_,rfl,rfl,hp,_,rfl,_,_,rfl,rfl,hm,q⟩
end
def z7r (c:Int)(n:Nat):List Bool:=(List.range n).map fun (k:Nat)=>decide (draw (c+7919*(k:Int)) 1009 2=1)
theorem y6l (c:Int)(n:Nat):z7r c (n+1)=z7r c n++[decide (draw (c+7919*(n:Int)) 1009 2=1)]:=by
 simp[z7r,List.range_succ]
theorem y2b (c:Int)(n:Nat):(z7r c n).length=n:=by simp[z7r]
def y6g:Sp:=fun vs H Q _=>∃ (c:Int) (n:Nat),vs=[.int c,.int n]/\n<=100000/\∀ l H',H l=none->Same H H'->H' l=some (.lst ((z7r c n).map V.bl))->Q (.ref l) H'
section
variable {P:Program}{w:World}{K:W.Frag}{mg:Str->Option Value}{base:Heap}
theorem y2j (B:Blt mg)(c_l_draw:Cal P w K mg base 1 "_law_draw" z7f x3z)(Df:Def K mg "_law_setting_of" z1w z3c):Cal P w K mg base 2 "_law_setting_of" z3c y6g:=by
 refine Df.cal sc_l_setting_of (fun vs H Q E h=>?_) (fun f cdv A outer s H vs Q E hr h=>?_)
 ·obtain⟨c,n,rfl,_⟩:=h;rfl
 ·obtain⟨c,n,rfl,hn,q⟩:=h
  refine⟨_,(z0b (z0t (i:=2) sc_l_setting_of.nd rfl (Or.inl rfl) (z1g z0d))
 (z0b (z3a PassesOwn.never rfl (z5b (by rfl) B.range_ (z0a (pv 1) z0d)) (z1c (i:=3) sc_l_setting_of.nd rfl (Or.inl rfl))
 (z0e (z0z (pe_bm PySem.F.plainAttrs_list PySem.F.slot_list_append PySem.F.type_list_append z1f (pv 2) (z0a (z4m op_eq (z0v c_l_draw hr (by decide) (z0a (pe_op z6o (pv 0) (pe_op y0w z0i (pv 3))) (z0a z0i (z0a z0i z0d)))) z0i (z0q _)) z0d)))))
 (z0e (z0p (pv 2))))),?_⟩
  refine⟨by decide,fun l hl=>?_⟩
  refine⟨_,rfl,(n:Int),rfl,by omega,by omega,?_⟩
  have e1:((n:Int)).toNat=n:=by omega
  rw[e1]
  refine z5h (fun i σ H2=>∃ v,σ=[some (.int c),some (.int n),some (.ref l),v]/\Same H H2/\H2 l=some (.lst ((z7r c i).map V.bl)))
   ⟨none,rfl,fun b o e=>by rw[z0h (z0f e hl)];exact e,z0c⟩ ?_ ?_
  ·rintro i σ H2 hi ⟨v,rfl,sm,h2⟩
   refine⟨_,rfl,.inl ⟨rfl,_,qLo h2⟩,_,rfl,_,rfl,_,_,rfl,rfl,.inl ⟨by decide,by decide⟩,_,_,rfl,rfl,_,_,_,rfl,by decide,by decide,rfl,l,_,_,rfl,rfl,h2,?_,?_⟩
   ·rw[List.length_map,y2b];exact z2r (by omega)
   ·refine⟨_,rfl,sm.upd hl,?_⟩
    rw[z0c,y6l,List.map_append]
    simp
  ·rintro σ H2 ⟨v,rfl,sm,h2⟩
   exact⟨_,rfl,q l H2 hl sm h2⟩
end
def y4p:Sp:=fun vs H Q _=>∃ (v:V) (t:Ty),vs=[v]/\TyIs H v t/\Q (.bl (decide (t=.int))) H
section
variable {P:Program}{w:World}{K:W.Frag}{mg:Str->Option Value}{base:Heap}
theorem x2r (B:Blt mg)(Df:Def K mg "_law_whole" z4v z5d):Cal P w K mg base 1 "_law_whole" z5d y4p:=by
 refine Df.cal x2j (fun vs H Q E h=>?_) (fun f cdv A outer s H vs Q E hr h=>?_)
 ·obtain⟨v,t,rfl,_⟩:=h;rfl
 ·obtain⟨v,t,rfl,ty,q⟩:=h
  refine⟨_,(z0e (z0p (x9i (z0n z2n (by rfl) B.isinstance_ z0u (z0a (pv 0) (z0a (pe_ty B.int_ w3a) z0d))) (x0y (w2d (z0n z2n (by rfl) B.isinstance_ z0u (z0a (pv 0) (z0a (pe_ty B.bool_ y5v) z0d)))))))),?_⟩
  refine⟨_,rfl,v,t,.int,rfl,ty,_,rfl,?_⟩
  cases t with
  | int=>exact iteT ⟨_,rfl,v,.int,.bl,rfl,ty,_,rfl,q⟩
  | bl=>exact iteT ⟨_,rfl,v,.bl,.bl,rfl,ty,_,rfl,q⟩
  | non=>exact iteF q
  | str=>exact iteF q
  | lst=>exact iteF q
  | tup=>exact iteF q
end
def spAt (K:W.Frag):Sp:=fun vs H Q _=>∃ (a:Addr) (ns:List Int) (k:Nat),vs=[.ref a,.int k]/\SqL K H a (ns.map V.int)/\Q (.int (ns.getD k 0)) H
section
variable {P:Program}{w:World}{K:W.Frag}{mg:Str->Option Value}{base:Heap}
theorem w0p (B:Blt mg)(Df:Def K mg "_law_at" y0s y3v):Cal P w K mg base 1 "_law_at" y3v (spAt K):=by
 refine Df.cal w0d (fun vs H Q E h=>?_) (fun f cdv A outer s H vs Q E hr h=>?_)
 ·obtain⟨a,ns,k,rfl,_⟩:=h;rfl
 ·obtain⟨a,ns,k,rfl,ha,q⟩:=h
  refine⟨_,(z0b (ps_if (z0k op_lt (pv 1) (z0n z0l (by rfl) B.len_ PySem.boot_len (z0a (pv 0) z0d)) (z0q _))
 (z0e (z0p (pe_ix ix_list (pv 0) (pv 1) (fun _ _=>rfl))))
 z0o)
 (z0e (z0p z0i))),?_⟩
  refine⟨_,rfl,_,rfl,a,_,rfl,.inl ha,_,_,rfl,rfl,_,rfl,ite2 (fun c=>?_) (fun c=>?_)⟩
  ·have c':k<ns.length:=by
    have:=of_decide_eq_true c
    simp at this;omega
   refine⟨_,rfl,_,rfl,a,_,_,.int (ns.getD k 0),rfl,rfl,ha,z3z (by simp[c']),q⟩
  ·have c':¬ k<ns.length:=by
    intro z
    apply c
    apply decide_eq_true
    simp;omega
   have:ns.getD k 0=0:=by simp[List.getD,Nat.not_lt.mp c']
   rw[this]at q
   exact q
end
mutual
def dlin:D->Bool
 | .int _=>true
 | .lst ds=>lins ds
 | .str _=>false
 | .tup _=>false
 | .non=>false
 | .bl _=>false
def lins:List D->Bool
 | []=>true
 | d::ds=>dlin d&&lins ds
end
theorem z9e:∀ (ds es:List D),lins (ds++es)=(lins ds&&lins es)
 | [],es=>by simp[lins]
 | d::ds,es=>by rw[List.cons_append,lins,lins,z9e ds es,Bool.and_assoc]
theorem y2p (ns:List Int):lins (dInts ns)=true:=by
 induction ns with
 | nil=>rfl
 | cons n r ih=>show (dlin (D.int n)&&lins (dInts r))=_;rw[ih];rfl
def y4w:Sp:=fun vs H Q _=>∃ (v1 v2:V) (d:D),vs=[v1,v2]/\At H d v1/\At H d v2/\dlin d=true/\d.size<=1000000/\∀ H',Same H H'->Q (.bl true) H'
section
variable {P:Program}{w:World}{K:W.Frag}{mg:Str->Option Value}{base:Heap}
theorem x2u (B:Blt mg)(c_l_whole:Cal P w K mg base 1 "_law_whole" z5d y4p)(Df:Def K mg "_law_alike" z4y z5g):Cal P w K mg base 2 "_law_alike" z5g y4w:=by
 refine Df.cal sc_l_alike (fun vs H Q E h=>?_) (fun f cdv A outer s H vs Q E hr h=>?_)
 ·obtain⟨v1,v2,d,rfl,_⟩:=h;rfl
 ·obtain⟨v1,v2,d,rfl,a1,a2,hpl,hz,q⟩:=h
  refine⟨_,(z0b (z0t (i:=2) sc_l_alike.nd rfl (Or.inl rfl) (z1g (z0a (pv 0) z0d)))
 (z0b (z0t (i:=3) sc_l_alike.nd rfl (Or.inl rfl) (z1g (z0a (pv 1) z0d)))
 (z0b (z7a PassesOwn.never (z0k (x4u (hu0 hr)) (pv 3) (z1g z0d) (z0q _))
 (z0b (z0t (i:=4) sc_l_alike.nd rfl (Or.inl rfl) (y6t PySem.F.plainAttrs_list PySem.F.slot_list_pop PySem.F.type_list_pop y7l (pv 2)))
 (z0b (z0t (i:=5) sc_l_alike.nd rfl (Or.inl rfl) (y6t PySem.F.plainAttrs_list PySem.F.slot_list_pop PySem.F.type_list_pop y7l (pv 3)))
 (z0e (ps_if (z2a (z0n x7f (by rfl) B.isinstance_ z0u (z0a (pv 5) (z0a (z5c (z0a (pe_ty B.list_ z3y) (z0a (pe_ty B.tuple_ z8u) z0d))) z0d))))
 (z0b (ps_if (z0k op_ne (z0n z2n (by rfl) B.isinstance_ z0u (z0a (pv 4) (z0a (pe_ty B.list_ z3y) z0d))) (z0n z2n (by rfl) B.isinstance_ z0u (z0a (pv 5) (z0a (pe_ty B.list_ z3y) z0d))) (z0q _))
 (z0e (z0p pe_bl))
 z0o)
 (z0b (ps_if (PW.pt (pw_or (z0k op_ne (z0n z2n (by rfl) B.isinstance_ z0u (z0a (pv 4) (z0a (pe_ty B.tuple_ z8u) z0d))) (z0n z2n (by rfl) B.isinstance_ z0u (z0a (pv 5) (z0a (pe_ty B.tuple_ z8u) z0d))) (z0q _)) (z5a (z0k op_ne (z0n z0l (by rfl) B.len_ PySem.boot_len (z0a (pv 4) z0d)) (z0n z0l (by rfl) B.len_ PySem.boot_len (z0a (pv 5) z0d)) (z0q _)))))
 (z0e (z0p pe_bl))
 z0o)
 (z0b (z0z (pe_bm PySem.F.plainAttrs_list PySem.F.slot_list_extend PySem.F.type_list_extend z9d (pv 2) (z0a (pv 4) z0d)))
 (z0e (z0z (pe_bm PySem.F.plainAttrs_list PySem.F.slot_list_extend PySem.F.type_list_extend z9d (pv 3) (z0a (pv 5) z0d)))))))
 (z0e (ps_if (z0k y3w (pv 5) z3d (z0q _))
 (z0e (ps_if (z0k y2f (pv 4) z3d (z0q _))
 (z0e (z0p pe_bl))
 z0o))
 (z0e (ps_if (z2a (z0n z2n (by rfl) B.isinstance_ z0u (z0a (pv 5) (z0a (pe_ty B.bool_ y5v) z0d))))
 (z0e (ps_if (PW.pt (pw_or (z2y (z2a (z0n z2n (by rfl) B.isinstance_ z0u (z0a (pv 4) (z0a (pe_ty B.bool_ y5v) z0d))))) (z5a (z0k op_ne (pv 4) (pv 5) (z0q _)))))
 (z0e (z0p pe_bl))
 z0o))
 (z0e (ps_if (PW.pt (pw_or (z2y (z2a (z0v c_l_whole hr (by decide) (z0a (pv 4) z0d)))) (z5a (z0k op_ne (pv 4) (pv 5) (z0q _)))))
 (z0e (z0p pe_bl))
 z0o)))))))))))
 (z0e (z0p pe_bl))))),?_⟩
  refine⟨_,rfl,len1,fun l hl=>?_⟩
  refine⟨_,rfl,len1,fun r hr0=>?_⟩
  have nlr:l≠r:=z0f z0c hr0
  have hr1:H r=none:=by rw[z0h nlr.symm]at hr0;exact hr0
  refine z7l (x3o (fun m σ H2=>∃ ds Ls Rs o1 o2,σ=[some v1,some v2,some (.ref l),some (.ref r),o1,o2]/\Same H H2/\H2 l=some (.lst Ls)/\H2 r=some (.lst Rs)/\AtL H ds Ls/\AtL H ds Rs/\lins ds=true/\sizes ds<=1000000/\m=sizes ds)
   ⟨_,[d],[v1],[v2],none,none,rfl,((smR H).upd hl).upd hr1,by rw[z0h nlr,z0c],z0c,AtL.cons a1 AtL.nil,AtL.cons a2 AtL.nil,by simp[lins,hpl],by simpa[sizes] using hz,rfl⟩ ?_)
  rintro m σ H2 ⟨ds,Ls,Rs,o1,o2,rfl,sm,hL,hR,aL,aR,hp,hsz,rfl⟩ Y X hY hX
  refine⟨_,rfl,by decide,fun p hp0=>?_⟩
  have npr:r≠p:=z0f hR hp0
  have npl:l≠p:=z0f hL hp0
  refine⟨Rs.isEmpty,⟨r,p,Rs,[],rfl,rfl,qLo (by rw[z0h npr];exact hR),qLo z0c,.inl ⟨rfl,rfl⟩⟩,_,rfl,?_⟩
  rcases z4g ds with rfl|⟨ds',d',rfl⟩
  ·have:Rs=[]:=by unfold AtL at aR;exact aR
   subst this
   refine iteF (hX _ _ ?_)
   exact q _ (sm.upd (sm.free hp0))
  ·obtain⟨Ls',x1,rfl,aL',ax1⟩:=aL.last
   obtain⟨Rs',x2,rfl,aR',ax2⟩:=aR.last
   have ene:(Rs'++[x2]).isEmpty=false:=by simp
   rw[ene]
   refine iteT ⟨Y,fun _ _ h=>h,?_⟩
   have hL3:upd H2 p (.lst []) l=some (.lst (Ls'++[x1])):=by rw[z0h npl];exact hL
   refine rd_k fun N1 k1=>?_
   refine⟨_,rfl,.inl ⟨rfl,_,qLo hL3⟩,l,_,x1,rfl,rfl,hL3,by simp,k1 _ _ ?_⟩
   have hR4:upd (upd H2 p (.lst [])) l (.lst (Ls'++[x1]).dropLast) r=some (.lst (Rs'++[x2])):=by rw[z0h nlr.symm,z0h npr];exact hR
   refine rd_k fun N2 k2=>?_
   refine⟨_,rfl,.inl ⟨rfl,_,qLo hR4⟩,r,_,x2,rfl,rfl,hR4,by simp,k2 _ _ ?_⟩
   have sm5:Same H (upd (upd (upd H2 p (.lst [])) l (.lst (Ls'++[x1]).dropLast)) r (.lst (Rs'++[x2]).dropLast)):=((sm.upd (sm.free hp0)).upd hl).upd hr1
   have hL5:(upd (upd (upd H2 p (.lst [])) l (.lst (Ls'++[x1]).dropLast)) r (.lst (Rs'++[x2]).dropLast)) l=some (.lst Ls'):=by rw[z0h nlr,z0c];simp
   have hR5:(upd (upd (upd H2 p (.lst [])) l (.lst (Ls'++[x1]).dropLast)) r (.lst (Rs'++[x2]).dropLast)) r=some (.lst Rs'):=by rw[z0c];simp
   generalize (upd (upd (upd H2 p (.lst [])) l (.lst (Ls'++[x1]).dropLast)) r (.lst (Rs'++[x2]).dropLast))=H5 at sm5 hL5 hR5
   have e1:lins ds'=true/\dlin d'=true:=by
    rw[z9e]at hp
    simpa[lins] using hp
   have e2:sizes (ds'++[d'])=sizes ds'+d'.size:=by rw[z6a];simp[sizes]
   refine⟨_,rfl,by decide,fun pt hpt=>?_⟩
   have npt:r≠pt:=z0f hR5 hpt
   have nlt:l≠pt:=z0f hL5 hpt
   have sm6:Same H (upd H5 pt (.tup [.ty "list",.ty "tuple"])):=sm5.upd (sm5.free hpt)
   have hL6:upd H5 pt (.tup [.ty "list",.ty "tuple"]) l=some (.lst Ls'):=by rw[z0h nlt];exact hL5
   have hR6:upd H5 pt (.tup [.ty "list",.ty "tuple"]) r=some (.lst Rs'):=by rw[z0h npt];exact hR5
   have hP6:upd H5 pt (.tup [.ty "list",.ty "tuple"]) pt=some (.tup [.ty "list",.ty "tuple"]):=z0c
   generalize upd H5 pt (.tup [.ty "list",.ty "tuple"])=H6 at sm6 hL6 hR6 hP6
   have fin:∀ o1 o2,∃ m',m'<sizes (ds'++[d'])/\∃ ds Ls Rs o1' o2',[some v1,some v2,some (V.ref l),some (V.ref r),o1,o2]=[some v1,some v2,some (.ref l),some (.ref r),o1',o2']/\Same H H6/\H6 l=some (.lst Ls)/\H6 r=some (.lst Rs)/\AtL H ds Ls/\AtL H ds Rs/\lins ds=true/\sizes ds<=1000000/\m'=sizes ds :=
    fun o1 o2=>⟨sizes ds',by have:1<=d'.size:=(by cases d'<;>simp[D.size]<;>omega);omega,ds',Ls',Rs',o1,o2,rfl,sm6,hL6,hR6,aL',aR',e1.1,by omega,rfl⟩
   have isi:∀ {t:Ty} {R:Prop},TyIs H6 x2 t->(∀ k:Bool,k=([Ty.lst,Ty.tup].any (Ty.isa t))->R)->R:=fun _ h=>h _ rfl
   cases d' with
   | str x=>exact absurd e1.2 (by simp[dlin])
   | non=>exact absurd e1.2 (by simp[dlin])
   | bl b=>exact absurd e1.2 (by simp[dlin])
   | tup es=>exact absurd e1.2 (by simp[dlin])
   | int b =>
    unfold At at ax1 ax2;subst ax1 ax2
    refine⟨_,pt,.int,[.lst,.tup],rfl,hP6,trivial,_,rfl,iteF ?_⟩
    refine⟨_,rfl,rfl,_,rfl,iteF ?_⟩
    refine⟨_,rfl,_,.int,.bl,rfl,trivial,_,rfl,iteF ?_⟩
    refine⟨_,rfl,_,.int,rfl,trivial,_,rfl,iteF ?_⟩
    refine⟨_,rfl,_,rfl,rfl,_,rfl,iteNS rfl ?_⟩
    exact hY _ _ (fin _ _)
   | lst es =>
    have ax1':=ax1.mono sm6
    have ax2':=ax2.mono sm6
    unfold At at ax1 ax2 ax1' ax2'
    obtain⟨p1,w1,rfl,g1,k1⟩:=ax1
    obtain⟨p2,w2,rfl,g2,k2⟩:=ax2
    have g1':=sm6 _ _ g1
    have g2':=sm6 _ _ g2
    have T1:TyIs H6 (.ref p1) .lst:=⟨_,.inl g1'⟩
    have T2:TyIs H6 (.ref p2) .lst:=⟨_,.inl g2'⟩
    have lw:w1.length=w2.length:=by rw[←k1.length,←k2.length]
    have el:es.length<=sizes es:=z8a es
    have e3:sizes (ds'++[D.lst es])=sizes ds'+(1+sizes es):=e2
    have eL:=aL'.length
    have eR:=aR'.length
    have lL:=z8a ds'
    have np2:p2≠l:=z0f g2 hl
    refine⟨_,pt,.lst,[.lst,.tup],rfl,hP6,T2,_,rfl,iteT ?_⟩
    refine⟨_,rfl,_,.lst,.lst,rfl,T1,_,rfl,_,.lst,.lst,rfl,T2,rfl,_,rfl,iteNS rfl ?_⟩
    refine⟨_,rfl,_,.lst,.tup,rfl,T1,_,rfl,_,.lst,.tup,rfl,T2,rfl,_,rfl,iteNS rfl ?_⟩
    refine⟨_,rfl,p1,_,rfl,.inl (qLo g1'),_,rfl,p2,_,rfl,.inl (qLo g2'),rfl,_,rfl,iteNS (by rw[lw]) ?_⟩
    refine⟨_,rfl,.inl ⟨rfl,_,qLo hL6⟩,_,rfl,l,p1,_,_,rfl,rfl,hL6,.inl g1',z1m (by have:=k1.length;omega),?_⟩
    have hR7:upd H6 l (.lst (Ls'++w1)) r=some (.lst Rs'):=by rw[z0h nlr.symm];exact hR6
    refine⟨_,rfl,.inl ⟨rfl,_,qLo hR7⟩,_,rfl,r,p2,_,_,rfl,rfl,hR7,.inl (by rw[z0h np2];exact g2'),z1m (by have:=k2.length;omega),?_⟩
    exact hY _ _ ⟨sizes (ds'++es),by rw[z6a,e3];omega,ds'++es,Ls'++w1,Rs'++w2,_,_,rfl,(sm6.upd hl).upd hr1,by rw[z0h nlr,z0c],z0c,aL'.append k1,aR'.append k2,by rw[z9e];simpa[dlin] using e1,by rw[z6a];omega,rfl⟩
end
def spLaw (K:W.Frag):Sp:=fun vs H Q _=>∃ (a:Addr) (ns:List Int),vs=[.ref a]/\SqL K H a (ns.map V.int)/\ns.length<=63/\∀ H',Q (.bl true) H'
def gath (ws ls:List Int):List Int:=(once ws).filter fun n=>!decide (n∈ls)&&!decide (-n∈ls)
theorem x6k (ws ls:List Int)(x:Int):gath (ws++[x]) ls=if x∈ls then gath ws ls else if -x∈ls then gath ws ls else if x∈gath ws ls then gath ws ls else gath ws ls++[x]:=by
 unfold gath
 rw[y6w]
 unfold onceF
 by_cases h1:x∈ls
 ·rw[if_pos h1]
  by_cases h:x∈once ws
  ·rw[if_pos h]
  ·rw[if_neg h,List.filter_append];simp[h1]
 ·rw[if_neg h1]
  by_cases h2:-x∈ls
  ·rw[if_pos h2]
   by_cases h:x∈once ws
   ·rw[if_pos h]
   ·rw[if_neg h,List.filter_append];simp[h2]
  ·rw[if_neg h2]
   by_cases h:x∈once ws
   ·rw[if_pos h,if_pos]
    exact List.mem_filter.mpr ⟨h,by simp[h1,h2]⟩
   ·rw[if_neg h,if_neg (fun z=>h (List.mem_filter.mp z).1),List.filter_append];simp[h1,h2]
theorem x6l {ws ls:List Int}(h:z2b ws ls=false):gath ws ls=z2c ws ls:=by
 unfold gath z2c
 refine List.filter_congr fun n hn=>?_
 have:¬ n∈ls:=by
  intro z
  unfold z2b at h
  rw[List.any_eq_false]at h
  exact h n (mem_once.mp hn) (decide_eq_true z)
 simp[this]
theorem x8m (ws ls:List Int):(gath ws ls).length<=ws.length:=Nat.le_trans (List.length_filter_le _ _) (z8l ws)
def Lm (lo c:Nat)(x:Int):Prop:=lo<x.natAbs/\x.natAbs<=c
def z7k (c:Nat)(ws:List Wr):Prop:=∀ wr∈ws,wr.2≠[]/\wr.2.length<=3/\∀ x∈wr.2,Lm 0 c x
def x0j (K:W.Frag):Sp:=fun vs H Q _=>∃ (a:Addr) (cells:List Int) (c:Nat),vs=[.ref a,.int c]/\SqL K H a (cells.map V.int)/\0<c/\c<=1000/\cells.length<=1000 /\
 ∀ (l:Addr) (ws:List Wr) (H':Hp),H l=none->Same H H'->H' l=some (.lst (wrefs ws))->WsOk H' ws->z7k c ws->(∀ wr∈ws,H wr.1=none/\wr.1≠l)->total (wl ws)=cells.length->Q (.ref l) H'
theorem z8f (ws:List Wr)(p:Wr):wrefs (ws++[p])=wrefs ws++[V.ref p.1]:=by simp[wrefs]
theorem y4l (ws:List Wr)(p:Wr):wl (ws++[p])=wl ws++[p.2]:=by simp[wl]
theorem z8g (W:List (List Int))(v:List Int):total (W++[v])=total W+v.length:=by simp[total]
theorem y0z:∀ {W:List (List Int)},(∀ v∈W,v≠[])->W.length<=total W
 | [],_=>Nat.zero_le _
 | v::W,h=>by
  have h1:=y0z fun u hu=>h u (List.mem_cons_of_mem _ hu)
  have h2:0<v.length:=List.length_pos_iff.mpr (h v List.mem_cons_self)
  simp only[total,List.map_cons,List.sum_cons,List.length_cons]at h1 ⊢
  omega
theorem z9x {c:Nat}{ws:List Wr}(h:z7k c ws):ws.length<=total (wl ws):=by
 have:=y0z (W:=wl ws) fun v hv=>by
  obtain⟨wr,hw,rfl⟩:=List.mem_map.mp hv
  exact (h wr hw).1
 rw[z1h]at this;exact this
section
variable {P:Program}{w:World}{K:W.Frag}{mg:Str->Option Value}{base:Heap}
theorem y3n (B:Blt mg)(Df:Def K mg "_law_wishes_of" z2d z3t):Cal P w K mg base 1 "_law_wishes_of" z3t (x0j K):=by
 refine Df.cal sc_l_wishes_of (fun vs H Q E h=>?_) (fun f cdv A outer s H vs Q E hr h=>?_)
 ·obtain⟨a,cells,c,rfl,_⟩:=h;rfl
 ·obtain⟨a,cells,c,rfl,hS,hc0,hc1,hz,q⟩:=h
  refine⟨_,(z0b (z0t (i:=2) sc_l_wishes_of.nd rfl (Or.inl rfl) (z1g z0d))
 (z0b (z0t (i:=3) sc_l_wishes_of.nd rfl (Or.inl rfl) (z1g z0d))
 (z0b (z3a PassesOwn.never rfl (z5b (by rfl) B.range_ (z0a (z0n z0l (by rfl) B.len_ PySem.boot_len (z0a (pv 0) z0d)) z0d)) (z1c (i:=4) sc_l_wishes_of.nd rfl (Or.inl rfl))
 (z0b (z0t (i:=5) sc_l_wishes_of.nd rfl (Or.inl rfl) (pe_ix z8b (pv 0) (pv 4) (fun _ _=>rfl)))
 (z0b (z0t (i:=6) sc_l_wishes_of.nd rfl (Or.inl rfl) (pe_op y2e z0i (pe_op y0w z0i (pe_op z4k (pv 5) z0i))))
 (z0b (z0t (i:=3) sc_l_wishes_of.nd rfl (Or.inl rfl) (pe_op z7n (pv 3) (z1g (z0a (pe_op y0w (pe_op z6o z0i (pe_op z4k (pe_op z6o (pe_op z5t (pv 5) z0i) (pv 4)) (pv 1))) (pv 6)) z0d))))
 (z0e (ps_if (PW.pt (pw_or (z0k op_gt (z0n z0l (by rfl) B.len_ PySem.boot_len (z0a (pv 3) z0d)) (pe_op z6o z0i (pe_op z4k (pe_op z5t (pv 5) z0i) z0i)) (z0q _)) (z5a (z0k op_eq (pe_op z4k (pe_op z5t (pv 5) z0i) z0i) z0i (z0q _)))))
 (z0b (z0z (pe_bm PySem.F.plainAttrs_list PySem.F.slot_list_append PySem.F.type_list_append z1f (pv 2) (z0a (pv 3) z0d)))
 (z0e (z0t (i:=3) sc_l_wishes_of.nd rfl (Or.inl rfl) (z1g z0d))))
 z0o))))))
 (z0b (ps_if (z0k (x4u (hu0 hr)) (pv 3) (z1g z0d) (z0q _))
 (z0e (z0z (pe_bm PySem.F.plainAttrs_list PySem.F.slot_list_append PySem.F.type_list_append z1f (pv 2) (z0a (pv 3) z0d))))
 z0o)
 (z0e (z0p (pv 2))))))),?_⟩
  refine⟨by decide,fun l hl=>⟨by decide,fun cw0 hcw0=>?_⟩⟩
  have n0:cw0≠l:=(z0f z0c hcw0).symm
  have hcw0':H cw0=none:=by rw[z0h n0]at hcw0;exact hcw0
  have sm0:Same H (upd (upd H l (.lst [])) cw0 (.lst [])):=((smR H).upd hl).upd hcw0'
  have hlm:(cells.map V.int).length=cells.length:=by simp
  refine⟨_,rfl,a,_,rfl,.inl (sm0.seq hS),_,rfl,by omega,by omega,?_⟩
  have en:(((cells.map V.int).length:Nat):Int).toNat=cells.length:=by omega
  rw[en]
  refine z5h (fun i σ H2=>∃ (cw:Addr) (cur:List Int) (ws:List Wr) (o4 o5 o6:Option V),σ=[some (.ref a),some (.int c),some (.ref l),some (.ref cw),o4,o5,o6]/\Same H H2/\H2 l=some (.lst (wrefs ws))/\WsOk H2 ws/\H2 cw=some (.lst (cur.map V.int))/\cw≠l/\H cw=none /\
   (∀ wr∈ws,H wr.1=none/\wr.1≠l)/\z7k c ws/\cur.length<=2/\(∀ x∈cur,Lm 0 c x)/\total (wl ws)+cur.length=i)
   ⟨cw0,[],[],none,none,none,rfl,sm0,by rw[z0h n0.symm,z0c];rfl,(fun _ h=>nomatch h),by rw[z0c];rfl,n0,hcw0',(fun _ h=>nomatch h),(fun _ h=>nomatch h),by simp,(fun _ h=>nomatch h),rfl⟩ ?_ ?_
  ·rintro i σ H2 hi ⟨cw,cur,ws,o4,o5,o6,rfl,sm,h2,hW,hcw,ncl,hcwH,hfr,hdr,hcl,hco,htot⟩
   have ga:atI (cells.map V.int) (0+(i:Int))=some (.int (cells.getD i 0)):=by
    rw[Int.zero_add];exact z3z (by simp[hi])
   generalize cells.getD i 0=cell at ga
   have hlw:=z9x hdr
   refine⟨_,rfl,_,rfl,.inl ⟨a,_,_,_,rfl,rfl,sm.seq hS,ga,?_⟩⟩
   refine⟨_,rfl,_,_,rfl,rfl,(by show (0:Int)<2;decide),_,_,rfl,rfl,.inl ⟨by decide,by decide⟩,_,_,rfl,rfl,?_⟩
   have hz1:0<=(cell / 20+(0+(i:Int))) % (c:Int)/\(cell / 20+(0+(i:Int))) % (c:Int)<c:=⟨Int.emod_nonneg _ (by omega),Int.emod_lt_of_pos _ (by omega)⟩
   have hz2:0<=cell % 2/\cell % 2<2:=⟨Int.emod_nonneg _ (by decide),Int.emod_lt_of_pos _ (by decide)⟩
   have hL:Lm 0 c ((1+(cell / 20+(0+(i:Int))) % (c:Int))*(1-2*(cell % 2))):=by
    generalize (cell / 20+(0+(i:Int))) % (c:Int)=z1 at hz1
    generalize cell % 2=z2 at hz2
    have:z2=0∨z2=1:=by omega
    unfold Lm
    rcases this with rfl|rfl<;>constructor<;>omega
   refine⟨_,rfl,_,rfl,_,_,rfl,rfl,⟨by decide,by decide⟩,_,rfl,_,_,rfl,rfl,_,rfl,_,_,rfl,rfl,(by show (0:Int)<(c:Int);omega),_,_,rfl,rfl,_,rfl,_,_,rfl,rfl,.inr ⟨by omega,by omega⟩,len1,fun pl hpl=>?_⟩
   dsimp only
   generalize (1+(cell / 20+(0+(i:Int))) % (c:Int))*(1-2*(cell % 2))=L at hL
   have npl:cw≠pl:=z0f hcw hpl
   refine⟨cw,pl,_,_,rfl,rfl,by rw[z0h npl];exact hcw,z0c,by have:=sizeLine_eq;simp;omega,fun nw hnw=>?_⟩
   have hnw2:H2 nw=none:=by
    by_cases e:nw=pl
    ·rw[e,z0c]at hnw;cases hnw
    ·rw[z0h e]at hnw;exact hnw
   have hnwH:H nw=none:=sm.free hnw2
   have nwl:nw≠l:=(z0f h2 hnw2).symm
   have nlp:l≠pl:=z0f h2 hpl
   have sm3:Same H (upd (upd H2 pl (.lst [.int L])) nw (.lst (cur.map V.int++[.int L]))):=(sm.upd (sm.free hpl)).upd hnwH
   have h3l:upd (upd H2 pl (.lst [.int L])) nw (.lst (cur.map V.int++[.int L])) l=some (.lst (wrefs ws)):=by rw[z0h nwl.symm,z0h nlp];exact h2
   have h3n:upd (upd H2 pl (.lst [.int L])) nw (.lst (cur.map V.int++[.int L])) nw=some (.lst ((cur++[L]).map V.int)):=by rw[z0c];simp
   have h3W:WsOk (upd (upd H2 pl (.lst [.int L])) nw (.lst (cur.map V.int++[.int L]))) ws:=fun wr hwr=>by
    have:=hW wr hwr
    rw[z0h (z0f this hnw2),z0h (z0f this hpl)];exact this
   generalize upd (upd H2 pl (.lst [.int L])) nw (.lst (cur.map V.int++[.int L]))=H3 at sm3 h3l h3n h3W
   have hco':∀ x∈cur++[L],Lm 0 c x:=fun x hx=>by
    rcases mApp hx with z|z
    ·exact hco x z
    ·have:x=L:=by simpa using z
     rw[this];exact hL
   refine⟨_,rfl,nw,_,rfl,.inl (qLo h3n),_,rfl,_,_,rfl,rfl,⟨by decide,by decide⟩,_,_,rfl,rfl,(by show (0:Int)<2;decide),_,_,rfl,rfl,_,_,rfl,rfl,_,rfl,ite2 (fun t1=>?_) fun t1=>?_⟩
   ·refine iteT ?_
    refine⟨_,rfl,.inl ⟨rfl,_,qLo h3l⟩,_,rfl,l,_,_,rfl,rfl,h3l,z2r (by rw[z0w];omega),?_⟩
    refine⟨by decide,fun ne hne=>?_⟩
    have n1:ne≠l:=(z0f z0c hne).symm
    have hne3:H3 ne=none:=by rw[z0h n1]at hne;exact hne
    have n2:nw≠ne:=z0f h3n hne3
    have sm4:Same H (upd (upd H3 l (.lst (wrefs ws++[.ref nw]))) ne (.lst [])):=(sm3.upd hl).upd (sm3.free hne3)
    refine⟨ne,[],ws++[(nw,cur++[L])],_,_,_,rfl,sm4,by rw[z0h n1.symm,z0c,z8f],fun wr hwr=>?_,by rw[z0c];rfl,n1,sm3.free hne3,fun wr hwr=>?_,fun wr hwr=>?_,by simp,(fun _ h=>nomatch h),?_⟩
    ·rcases mApp hwr with z|z
     ·have:=h3W wr z
      rw[z0h (z0f this hne3),z0h (hfr wr z).2];exact this
     ·have:wr=(nw,cur++[L]):=by simpa using z
      rw[this]
      show upd _ ne _ nw=_
      rw[z0h n2,z0h nwl];exact h3n
    ·rcases mApp hwr with z|z
     ·exact hfr wr z
     ·have:wr=(nw,cur++[L]):=by simpa using z
      rw[this];exact⟨hnwH,nwl⟩
    ·rcases mApp hwr with z|z
     ·exact hdr wr z
     ·have:wr=(nw,cur++[L]):=by simpa using z
      rw[this];exact⟨by simp,by simp;omega,hco'⟩
    ·rw[y4l,z8g];simp;omega
   ·refine⟨_,rfl,_,_,rfl,rfl,⟨by decide,by decide⟩,_,_,rfl,rfl,(by show (0:Int)<5;decide),rfl,_,rfl,ite2 (fun t2=>?_) fun t2=>?_⟩
    ·refine⟨_,rfl,.inl ⟨rfl,_,qLo h3l⟩,_,rfl,l,_,_,rfl,rfl,h3l,z2r (by rw[z0w];omega),?_⟩
     refine⟨by decide,fun ne hne=>?_⟩
     have n1:ne≠l:=(z0f z0c hne).symm
     have hne3:H3 ne=none:=by rw[z0h n1]at hne;exact hne
     have n2:nw≠ne:=z0f h3n hne3
     have sm4:Same H (upd (upd H3 l (.lst (wrefs ws++[.ref nw]))) ne (.lst [])):=(sm3.upd hl).upd (sm3.free hne3)
     refine⟨ne,[],ws++[(nw,cur++[L])],_,_,_,rfl,sm4,by rw[z0h n1.symm,z0c,z8f],fun wr hwr=>?_,by rw[z0c];rfl,n1,sm3.free hne3,fun wr hwr=>?_,fun wr hwr=>?_,by simp,(fun _ h=>nomatch h),?_⟩
     ·rcases mApp hwr with z|z
      ·have:=h3W wr z
       rw[z0h (z0f this hne3),z0h (hfr wr z).2];exact this
      ·have:wr=(nw,cur++[L]):=by simpa using z
       rw[this]
       show upd _ ne _ nw=_
       rw[z0h n2,z0h nwl];exact h3n
     ·rcases mApp hwr with z|z
      ·exact hfr wr z
      ·have:wr=(nw,cur++[L]):=by simpa using z
       rw[this];exact⟨hnwH,nwl⟩
     ·rcases mApp hwr with z|z
      ·exact hdr wr z
      ·have:wr=(nw,cur++[L]):=by simpa using z
       rw[this];exact⟨by simp,by simp;omega,hco'⟩
     ·rw[y4l,z8g];simp;omega
    ·have hm:cell / 2 % 2<2:=Int.emod_lt_of_pos _ (by decide)
     have hlen:(cur++[L]).length<=2:=by
      have:¬ (1+cell / 2 % 2<(((cur++[L]).map V.int).length:Int)):=fun z=>t1 (decide_eq_true z)
      rw[List.length_map]at this;omega
     exact⟨nw,cur++[L],ws,_,_,_,rfl,sm3,h3l,h3W,h3n,nwl,hnwH,hfr,hdr,hlen,hco',by simp;omega⟩
  ·rintro σ H2 ⟨cw,cur,ws,o4,o5,o6,rfl,sm,h2,hW,hcw,ncl,hcwH,hfr,hdr,hcl,hco,htot⟩
   have hlw:=z9x hdr
   refine⟨_,rfl,by decide,fun pn hpn=>?_⟩
   have n1:cw≠pn:=z0f hcw hpn
   have n2:l≠pn:=z0f h2 hpn
   refine⟨(cur.map V.int).isEmpty,⟨cw,pn,_,[],rfl,rfl,qLo (by rw[z0h n1];exact hcw),qLo z0c,.inl ⟨rfl,rfl⟩⟩,_,rfl,?_⟩
   have sm3:Same H (upd H2 pn (.lst [])):=sm.upd (sm.free hpn)
   have h3l:upd H2 pn (.lst []) l=some (.lst (wrefs ws)):=by rw[z0h n2];exact h2
   have h3c:upd H2 pn (.lst []) cw=some (.lst (cur.map V.int)):=by rw[z0h n1];exact hcw
   have h3W:WsOk (upd H2 pn (.lst [])) ws:=hW.mono ((smR H2).upd hpn)
   generalize upd H2 pn (.lst [])=H3 at sm3 h3l h3c h3W
   cases cur with
   | nil=>exact iteF ⟨_,rfl,q l ws H3 hl sm3 h3l h3W hdr hfr (by simpa using htot)⟩
   | cons x xs =>
    refine iteT ⟨_,rfl,.inl ⟨rfl,_,qLo h3l⟩,_,rfl,l,_,_,rfl,rfl,h3l,z2r (by rw[z0w];simp at htot;omega),?_⟩
    refine⟨_,rfl,q l (ws++[(cw,x::xs)]) _ hl (sm3.upd hl) (by rw[z0c,z8f]) (fun wr hwr=>?_) (fun wr hwr=>?_) (fun wr hwr=>?_) ?_⟩
    ·rcases mApp hwr with z|z
     ·have:=h3W wr z
      rw[z0h (hfr wr z).2];exact this
     ·have:wr=(cw,x::xs):=by simpa using z
      rw[this]
      show upd _ l _ cw=_
      rw[z0h ncl];exact h3c
    ·rcases mApp hwr with z|z
     ·exact hdr wr z
     ·have:wr=(cw,x::xs):=by simpa using z
      rw[this];exact⟨by simp,by simp at hcl ⊢;omega,hco⟩
    ·rcases mApp hwr with z|z
     ·exact hfr wr z
     ·have:wr=(cw,x::xs):=by simpa using z
      rw[this];exact⟨hcwH,ncl⟩
    ·rw[y4l,z8g];exact htot
end
theorem y5m:∀ ws:List Wr,lins (wsD ws)=true
 | []=>rfl
 | p::ws=>by
  show (dlin (D.lst (dInts p.2))&&lins (wsD ws))=true
  rw[y5m ws,dlin,y2p];rfl
theorem y8c {K:W.Frag}{a:Addr}{ws:List Wr}{σ:L2.St}{js:List Nat}{te:TE}{Q:VK}{H:Hp}(h:SqL K H a (wrefs ws))(hW:WsOk H ws)(hz:ws.length<=100000)
 (he:∀ (wr:Wr) (H2:Hp) (N:VK),H2 wr.1=some (.lst (wr.2.map V.int))->(∀ p,H2 p=none->N (.ref p) (upd H2 p (.lst (wr.2.map V.int))))->te (inner σ js (some (.ref wr.1))) H2 N)
 (hd:∀ (l:Addr) (hs:List Wr) (H':Hp),H l=none->Same H H'->WsOk H' hs->(∀ r∈hs,H r.1=none/\r.1≠l)->wl hs=wl ws->H' l=some (.lst (wrefs hs))->Q (.ref l) H'):CompW (Itl K a) σ js tTrue te Q H:=by
 refine y3g (K:=K) (a:=a) (xs:=wrefs ws) (fun i ys H2=>∃ hs:List Wr,ys=wrefs hs/\Same H H2/\WsOk H2 hs/\(∀ r∈hs,H r.1=none)/\wl hs=(wl ws).take i) ⟨[],rfl,smR _,(fun _ h=>nomatch h),(fun _ h=>nomatch h),by simp[wl]⟩ (z1m (by rw[z0w];omega)) (fun i ys H2 _ ⟨_,_,e,_⟩=>e.seq h) ?_ ?_
 ·rintro i y ys H2 N hi hyl ⟨hs,rfl,sm2,hO,hF,hwl⟩ hN
  obtain⟨wr,hwi,rfl⟩:=x0g hi
  have hmem:=List.mem_of_getElem? hwi
  have hwr2:(wl ws)[i]?=some wr.2:=by unfold wl;rw[List.getElem?_map,hwi];rfl
  refine iteT ?_
  refine he wr H2 _ (sm2 _ _ (hW wr hmem)) fun pl hpl=>?_
  refine hN _ _ ⟨hs++[(pl,wr.2)],by simp[wrefs],sm2.upd (sm2.free hpl),fun q hq=>?_,fun q hq=>?_,?_⟩ (by simpa using hyl)
  ·rcases mApp hq with z|z
   ·exact (hO.mono ((smR H2).upd hpl)) q z
   ·have:q=(pl,wr.2):=by simpa using z
    rw[this];exact z0c
  ·rcases mApp hq with z|z
   ·exact hF q z
   ·have:q=(pl,wr.2):=by simpa using z
    rw[this];exact sm2.free hpl
  ·rw[List.take_add_one,hwr2,←hwl];simp[wl]
 ·rintro ys H2 ⟨hs,rfl,sm2,hO,hF,hwl⟩ l hl
  have s3:Same H2 (upd H2 l (.lst (wrefs hs))):=(smR H2).upd hl
  refine hd l hs _ (sm2.free hl) (sm2.trans s3) (hO.mono s3) (fun r hr=>⟨hF r hr,z0f (hO r hr) hl⟩) ?_ z0c
  rw[hwl,z0w,←z1h,List.take_length]
theorem x9a (ws:List Wr):wsD ws=(wl ws).map fun v=>D.lst (dInts v):=by unfold wsD wl;rw[List.map_map];rfl
theorem y2a:∀ ws:List Wr,sizes (wsD ws)=total (wl ws)+ws.length
 | []=>rfl
 | p::ws=>by
  show (D.lst (dInts p.2)).size+sizes (wsD ws)=_
  rw[y2a ws,D.size,y0e]
  simp only[wl,total,List.map_cons,List.sum_cons,List.length_cons];omega
theorem w1g {xs:List V}{l h:Nat}(hl:l<=h):(cutV xs (some (l:Int)) (some (h:Int))).length<=h-l:=by
 unfold cutV
 rw[List.length_take,HT.sIx_nat,HT.sIx_nat]
 omega
theorem x8u (ns:List Int)(lo hi:Option Int):∃ cs:List Int,cutV (ns.map V.int) lo hi=cs.map V.int/\cs.length<=ns.length/\∀ n∈cs,n∈ns:=by
 refine⟨(ns.drop (HT.sIx (ns.map V.int).length 0 lo)).take (HT.sIx (ns.map V.int).length (ns.map V.int).length hi-HT.sIx (ns.map V.int).length 0 lo),?_,?_,fun n hn=>?_⟩
 ·unfold cutV;rw[List.map_take,List.map_drop]
 ·rw[List.length_take,List.length_drop];omega
 ·exact List.mem_of_mem_drop (List.mem_of_mem_take hn)
theorem x6y (xs:List V)(n:Nat):cutV xs none (some (n:Int))=xs.take n:=by
 unfold cutV
 rw[HT.sIx_none,HT.sIx_nat,List.drop_zero,Nat.sub_zero,List.take_eq_take_iff]
 omega
theorem y5u (xs:List V)(n:Nat):cutV xs (some (n:Int)) none=xs.drop n:=by
 unfold cutV
 rw[HT.sIx_none,HT.sIx_nat]
 by_cases h:n<=xs.length
 ·rw[Nat.min_eq_left h]
  exact List.take_of_length_le (by simp)
 ·have e:min n xs.length=xs.length:=Nat.min_eq_right (by omega)
  rw[e,List.drop_length,List.drop_eq_nil_of_le (by omega)];simp
def y6h (K:W.Frag):Sp:=fun vs H Q _=>∃ (a b:Addr) (ws:List Wr) (bs:List Bool) (c:Nat),vs=[.ref a,.ref b]/\SqL K H a (wrefs ws)/\WsOk H ws/\H b=some (.lst (bs.map V.bl))/\z7k c ws/\c<=bs.length/\ws.length<=1000 /\
 ∀ (l:Addr) (us:List Wr) (H':Hp),H l=none->Same H H'->H' l=some (.lst (wrefs us))->WsOk H' us->z7k c us->(∀ r∈us,r.1≠l)->total (wl us)=total (wl ws)->us.length=ws.length->Q (.ref l) H'
section
variable {P:Program}{w:World}{K:W.Frag}{mg:Str->Option Value}{base:Heap}
theorem y7a (B:Blt mg)(c_l_meets:Cal P w K mg base 1 "_law_meets" z5f spMet)(Df:Def K mg "_law_planted" z3h z4s):Cal P w K mg base 2 "_law_planted" z4s (y6h K):=by
 refine Df.cal sc_l_planted (fun vs H Q E h=>?_) (fun f cdv A outer s H vs Q E hr h=>?_)
 ·obtain⟨a,b,ws,bs,c,rfl,_⟩:=h;rfl
 ·obtain⟨a,b,ws,bs,c,rfl,hS,hW,hb,hD,hc,hz,q⟩:=h
  refine⟨_,(z0b (z0t (i:=2) sc_l_planted.nd rfl (Or.inl rfl) (z1g z0d))
 (z0b (z3a PassesOwn.never rfl (z1d (pv 0)) (z1c (i:=3) sc_l_planted.nd rfl (Or.inl rfl))
 (z0e (ps_if (z2a (z0v c_l_meets hr (by decide) (z0a (pv 3) (z0a (pv 1) z0d))))
 (z0e (z0z (pe_bm PySem.F.plainAttrs_list PySem.F.slot_list_append PySem.F.type_list_append z1f (pv 2) (z0a (pv 3) z0d))))
 (z0e (z0z (pe_bm PySem.F.plainAttrs_list PySem.F.slot_list_append PySem.F.type_list_append z1f (pv 2) (z0a (pe_op z7n (z1g (z0a (pe_un z1z (pe_ix ix_list (pv 3) z0i (fun _ _=>rfl))) z0d)) (z7c z9b (pv 3) (z7x z0i) y0f)) z0d)))))))
 (z0e (z0p (pv 2))))),?_⟩
  refine⟨by decide,fun l hl=>?_⟩
  have sm0:Same H (upd H l (.lst [])):=(smR H).upd hl
  refine⟨_,rfl,a,rfl,⟨_,sm0.seq hS⟩,z2z (K:=K) (a:=a) (xs:=wrefs ws) (fun i σ Hx=>∃ (us:List Wr) (v:Option V),σ=[some (.ref a),some (.ref b),some (.ref l),v]/\Same H Hx/\Hx l=some (.lst (wrefs us))/\WsOk Hx us/\(∀ r∈us,r.1≠l)/\z7k c us/\total (wl us)=total ((wl ws).take i)/\us.length=i)
   ⟨[],none,rfl,sm0,z0c,(fun _ h=>nomatch h),(fun _ h=>nomatch h),(fun _ h=>nomatch h),by simp[wl],rfl⟩ (fun i σ Hx _ hh=>by
    obtain⟨_,_,_,e,_⟩:=hh
    exact e.seq hS) ?_ ?_⟩
  ·rintro i y σ Hx hi ⟨us,v,rfl,sm,hx,hO,hne,hDr,ht,hul⟩
   obtain⟨wr,hwi,rfl⟩:=x0g hi
   have hmem:=List.mem_of_getElem? hwi
   have hil:i<ws.length:=(List.getElem?_eq_some_iff.mp hwi).1
   have hwl:(wl ws)[i]?=some wr.2:=by unfold wl;rw[List.getElem?_map,hwi];rfl
   obtain⟨d1,d2,d3⟩:=hD wr hmem
   have hwx:=sm _ _ (hW wr hmem)
   have hbx:=sm _ _ hb
   have put:∀ (pn:Addr) (v':List Int) (Hy:Hp),Same H Hy->Hy l=some (.lst (wrefs us))->WsOk Hy us->Hy pn=some (.lst (v'.map V.int))->pn≠l->v'.length=wr.2.length->(∀ x∈v',Lm 0 c x) ->
    ∃ (us':List Wr) (v:Option V),[some (.ref a),some (.ref b),some (.ref l),some (.ref wr.1)]=[some (.ref a),some (.ref b),some (.ref l),v]/\Same H (upd Hy l (.lst (wrefs us++[V.ref pn])))/\upd Hy l (.lst (wrefs us++[V.ref pn])) l=some (.lst (wrefs us'))/\WsOk (upd Hy l (.lst (wrefs us++[V.ref pn]))) us'/\(∀ r∈us',r.1≠l)/\z7k c us'/\total (wl us')=total ((wl ws).take (i+1))/\us'.length=i+1:=by
    intro pn v' Hy smy hy hOy hpn hpl hvl hvv
    refine⟨us++[(pn,v')],_,rfl,smy.upd hl,by rw[z0c,z8f],fun r hr=>?_,fun r hr=>?_,fun r hr=>?_,?_,by simp[hul]⟩
    ·rcases mApp hr with z|z
     ·rw[z0h (hne r z)];exact hOy r z
     ·have:r=(pn,v'):=by simpa using z
      rw[this,z0h hpl];exact hpn
    ·rcases mApp hr with z|z
     ·exact hne r z
     ·have:r=(pn,v'):=by simpa using z
      rw[this];exact hpl
    ·rcases mApp hr with z|z
     ·exact hDr r z
     ·have:r=(pn,v'):=by simpa using z
      rw[this]
      refine⟨fun e=>?_,by show v'.length<=3;omega,hvv⟩
      have e':v'=[]:=e
      rw[e']at hvl
      exact d1 (List.length_eq_zero_iff.mp hvl.symm)
    ·rw[y4l,z8g,ht,List.take_add_one,hwl,hvl];simp[total]
   refine⟨_,rfl,_,rfl,wr.1,b,wr.2,bs,rfl,hwx,hbx,fun n hn=>by have:=d3 n hn;unfold Lm at this;omega,_,rfl,ite2 (fun c1=>?_) (fun c1=>?_)⟩
   ·refine⟨_,rfl,.inl ⟨rfl,_,qLo hx⟩,_,rfl,l,_,_,rfl,rfl,hx,z2r (by rw[z0w];omega),?_⟩
    exact put wr.1 wr.2 Hx sm hx hO hwx (z0f (hW wr hmem) hl) rfl d3
   ·obtain⟨x0,v0,e0⟩:∃ x0 v0,wr.2=x0::v0:=by
     cases h:wr.2 with
     | nil=>exact absurd h d1
     | cons x0 v0=>exact⟨x0,v0,rfl⟩
    have hwx':Hx wr.1=some (.lst ((x0::v0).map V.int)):=by rw[←e0];exact hwx
    refine⟨_,rfl,.inl ⟨rfl,_,qLo hx⟩,_,rfl,wr.1,_,_,_,rfl,rfl,qLo hwx',(show atI ((x0::v0).map V.int) ((0:Nat):Int)=some (.int x0) from z3z rfl),x0,rfl,len1,fun p1 hp1=>?_⟩
    have s1:Same Hx (upd Hx p1 (.lst [V.int (-x0)])):=(smR Hx).upd hp1
    have g1:upd Hx p1 (.lst [V.int (-x0)]) p1=some (.lst [V.int (-x0)]):=z0c
    generalize upd Hx p1 (.lst [V.int (-x0)])=Hb at s1 g1
    refine⟨_,rfl,_,rfl,wr.1,_,rfl,qLo (s1 _ _ hwx'),fun p2 hp2=>?_⟩
    have ec:cutV ((x0::v0).map V.int) (some 1) none=v0.map V.int:=(y5u ((x0::v0).map V.int) 1).trans (by simp)
    rw[ec]
    have s2:Same Hb (upd Hb p2 (.lst (v0.map V.int))):=(smR Hb).upd hp2
    have g2:upd Hb p2 (.lst (v0.map V.int)) p2=some (.lst (v0.map V.int)):=z0c
    generalize upd Hb p2 (.lst (v0.map V.int))=Hc at s2 g2
    have hv0:v0.length<=3:=by rw[e0]at d2;simp at d2;omega
    refine⟨p1,p2,_,_,rfl,rfl,s2 _ _ g1,g2,(by simp only[List.length_cons,List.length_nil,List.length_map];exact z1m (by omega)),fun p3 hp3=>?_⟩
    have s3:Same Hc (upd Hc p3 (.lst ([V.int (-x0)]++v0.map V.int))):=(smR Hc).upd hp3
    have g3:upd Hc p3 (.lst ([V.int (-x0)]++v0.map V.int)) p3=some (.lst ((-x0::v0).map V.int)):=by rw[z0c];rfl
    generalize upd Hc p3 (.lst ([V.int (-x0)]++v0.map V.int))=Hd at s3 g3
    have sA:=(s1.trans s2).trans s3
    have hxd:=sA _ _ hx
    refine⟨l,_,_,rfl,rfl,hxd,z2r (by rw[z0w];omega),?_⟩
    have hxc:=(s1.trans s2) _ _ hx
    refine put p3 (-x0::v0) Hd (sm.trans sA) hxd (hO.mono sA) g3 (z0f hxc hp3).symm (by rw[e0];rfl) fun x hx=>?_
    rcases List.mem_cons.mp hx with z|z
    ·rw[z]
     have:=d3 x0 (by rw[e0];simp)
     unfold Lm at this ⊢;omega
    ·exact d3 x (by rw[e0];exact List.mem_cons_of_mem _ z)
  ·rintro σ Hx ⟨us,v,rfl,sm,hx,hO,hne,hDr,ht,hul⟩
   rw[z0w]at hul ht
   rw[←z1h,List.take_length]at ht
   exact⟨_,rfl,q l us Hx hl sm hx hO hDr hne ht hul⟩
end
def w1n (W:List (List Int)):Prop:=∀ v∈W,v.length<=500/\∀ n∈v,n.natAbs<=10000
def y1n (K:W.Frag):Sp:=fun vs H Q _=>∃ (a b:Addr) (x:Int) (ns ms:List Int),vs=[.ref a,.ref b,.int x]/\SqL K H a (ns.map V.int)/\SqL K H b (ms.map V.int)/\ns.length+ms.length<=1000/\(∀ n∈ns,n.natAbs<=10000)/\(∀ n∈ms,n.natAbs<=10000) /\
 ∀ l H',H l=none->Same H H'->H' l=some (.lst ((mrg x ns ms).map V.int))->Q (.ref l) H'
section
variable {P:Program}{w:World}{K:W.Frag}{mg:Str->Option Value}{base:Heap}
theorem x2s (B:Blt mg)(Df:Def K mg "_law_merge" z4w z5e):Cal P w K mg base 1 "_law_merge" z5e (y1n K):=by
 refine Df.cal sc_l_merge (fun vs H Q E h=>?_) (fun f cdv A outer s H vs Q E hr h=>?_)
 ·obtain⟨a,b,x,ns,ms,rfl,_⟩:=h;rfl
 ·obtain⟨a,b,x,ns,ms,rfl,hS,hT,hz,hn,hm,q⟩:=h
  refine⟨_,(z0b (z0t (i:=3) sc_l_merge.nd rfl (Or.inr rfl) (z4p (fvn:=["_law_lamp"]) (js:=[2]) rfl (z1d (pv 0)) (.cons rfl (by first | exact .inl rfl | exact .inr rfl) rfl .nil) ⟨by decide +kernel,rfl,by decide +kernel,rfl,by decide +kernel,by decide +kernel⟩ (fun _ _ _ _ _=>(z5j (z0k op_ne (pv 0) (pv 1) (z0q _)))) (fun _ _ _ _ _=>(pv 0))))
 (z0b (z0t (i:=3) sc_l_merge.nd rfl (Or.inr rfl) (pe_op z7n (pv 3) (z4p (fvn:=["_law_lamp"]) (js:=[2]) rfl (z1d (pv 1)) (.cons rfl (by first | exact .inl rfl | exact .inr rfl) rfl .nil) ⟨by decide +kernel,rfl,by decide +kernel,rfl,by decide +kernel,by decide +kernel⟩ (fun _ _ _ _ _=>(z5j (z0k op_ne (pv 0) (pe_un z1z (pv 1)) (z0q _)))) (fun _ _ _ _ _=>(pv 0)))))
 (z0b (z0t (i:=4) sc_l_merge.nd rfl (Or.inl rfl) z0i)
 (z0b (z3a PassesOwn.never rfl (z1d (pv 3)) (z1c (i:=5) sc_l_merge.nd rfl (Or.inl rfl))
 (z0e (z0t (i:=4) sc_l_merge.nd rfl (Or.inl rfl) (z0n (y8h rfl) (by rfl) B.max_ x9t (z0a (pv 4) (z0a (z0n x1z (by rfl) B.abs_ x9u (z0a (pv 5) z0d)) z0d))))))
 (z0e (z0p (z4p (fvn:=["_law_rows"]) (js:=[3]) rfl (z7y (by rfl) B.range_ (z0a (pe_op y2e z0i (pv 4)) (z0a (pe_op z6o (pv 4) z0i) z0d))) (.cons rfl (by first | exact .inl rfl | exact .inr rfl) rfl .nil) ⟨by decide +kernel,rfl,by decide +kernel,rfl,by decide +kernel,by decide +kernel⟩ (fun _ _ _ _ _=>(z5j (z0k (y3x (K:=K) rfl) (pv 0) (pv 1) (by with_unfolding_all rfl)))) (fun _ _ _ _ _=>(pv 0))))))))),?_⟩
  have ne1:∀ n y:Int,(!decide (V.int n=V.int y))=(!decide (n=y)):=fun n y=>by simp
  refine z7l (t:=tAsg (tComp _ _ _ _) _) (z7u (z1r (K:=K) ?_))
  refine⟨_,rfl,a,rfl,⟨_,hS⟩,?_⟩
  refine z3q (K:=K) (a:=a) (xs:=ns) (g:=V.int) (fun n=>!decide (n=x)) V.int (z1m (by omega)) hS (fun n _ R hR=>?_) (fun n _ _ R hR=>⟨_,rfl,hR⟩) (fun l1 hl1=>?_)
  ·refine⟨_,rfl,_,rfl,rfl,_,rfl,?_⟩
   rw[ne1]
   exact hR
  have sm1:Same H (upd H l1 (.lst ((ns.filter fun n=>!decide (n=x)).map V.int))):=(smR H).upd hl1
  have g1:upd H l1 (.lst ((ns.filter fun n=>!decide (n=x)).map V.int)) l1=some (.lst ((ns.filter fun n=>!decide (n=x)).map V.int)):=z0c
  generalize upd H l1 (.lst ((ns.filter fun n=>!decide (n=x)).map V.int))=H1 at sm1 g1
  dsimp only[gName]
  refine⟨_,rfl,?_⟩
  refine z1r (K:=K) ?_
  refine⟨_,rfl,b,rfl,⟨_,sm1.seq hT⟩,?_⟩
  refine z3q (K:=K) (a:=b) (xs:=ms) (g:=V.int) (fun n=>!decide (n=-x)) V.int (z1m (by omega)) (sm1.seq hT) (fun n _ R hR=>?_) (fun n _ _ R hR=>⟨_,rfl,hR⟩) (fun l2 hl2=>?_)
  ·refine⟨_,rfl,_,rfl,_,rfl,rfl,_,rfl,?_⟩
   rw[ne1]
   exact hR
  have n12:l1≠l2:=z0f g1 hl2
  have sm2:Same H (upd H1 l2 (.lst ((ms.filter fun n=>!decide (n=-x)).map V.int))):=sm1.upd (sm1.free hl2)
  have g2:upd H1 l2 (.lst ((ms.filter fun n=>!decide (n=-x)).map V.int)) l2=some (.lst ((ms.filter fun n=>!decide (n=-x)).map V.int)):=z0c
  have g12:upd H1 l2 (.lst ((ms.filter fun n=>!decide (n=-x)).map V.int)) l1=some (.lst ((ns.filter fun n=>!decide (n=x)).map V.int)):=by rw[z0h n12];exact g1
  generalize upd H1 l2 (.lst ((ms.filter fun n=>!decide (n=-x)).map V.int))=H2 at sm2 g2 g12
  have f1:(ns.filter fun n=>!decide (n=x)).length<=ns.length:=List.length_filter_le _ _
  have f2:(ms.filter fun n=>!decide (n=-x)).length<=ms.length:=List.length_filter_le _ _
  refine⟨l1,l2,_,_,rfl,rfl,g12,g2,by have:=sizeLine_eq;simp only[List.length_map];omega,fun l3 hl3=>?_⟩
  have e3:(ns.filter fun n=>!decide (n=x)).map V.int++(ms.filter fun n=>!decide (n=-x)).map V.int=(mrows x ns ms).map V.int:=by unfold mrows;rw[List.map_append]
  rw[e3]
  have sm3:Same H (upd H2 l3 (.lst ((mrows x ns ms).map V.int))):=sm2.upd (sm2.free hl3)
  have g3:upd H2 l3 (.lst ((mrows x ns ms).map V.int)) l3=some (.lst ((mrows x ns ms).map V.int)):=z0c
  generalize upd H2 l3 (.lst ((mrows x ns ms).map V.int))=H3 at sm3 g3
  have hb:∀ n∈mrows x ns ms,-10000<=n/\n<=10000:=fun n hn'=>by
   rcases mem_mrows.mp hn' with ⟨z,_⟩|⟨z,_⟩
   ·have:=hn n z;omega
   ·have:=hm n z;omega
  have hl:=y7m x ns ms
  generalize er:mrows x ns ms=rs at hb hl g3
  refine⟨_,rfl,l3,rfl,⟨_,qLo g3⟩,z2z (K:=K) (a:=l3) (xs:=rs.map V.int) (fun i σ H4=>∃ v,σ=[some (.ref a),some (.ref b),some (.int x),some (.ref l3),some (.int (most (rs.take i))),v]/\H4=H3)
   ⟨none,rfl,rfl⟩ (fun i σ H4 _ ⟨_,_,e⟩=>by rw[e];exact qLo g3) ?_ ?_⟩
  ·rintro i y σ H4 hi ⟨v,rfl,rfl⟩
   obtain⟨n,hni,rfl⟩:=getV hi
   refine⟨_,rfl,_,rfl,n,rfl,_,_,rfl,?_⟩
   refine⟨some (.int n),?_,rfl⟩
   rw[List.take_add_one,hni]
   show _=[_,_,_,_,some (V.int (most (rs.take i++[n]))),_]
   rw[x5p]
   rfl
  ·rintro σ H4 ⟨v,rfl,rfl⟩
   have et:rs.take (rs.map V.int).length=rs:=by rw[List.length_map,List.take_length]
   rw[et]
   have m0:=x5q rs
   have m1:most rs<=10000:=x5r rs 0 (by decide) hb
   dsimp only
   refine w2a (z7p ?_)
   refine⟨_,rfl,_,_,rfl,rfl,_,rfl,_,_,rfl,rfl,_,_,rfl,⟨by omega,by omega,by omega,by omega⟩,?_⟩
   refine z6w (fun i=>decide (0-most rs+(i:Int)∈rs)) (fun i=>V.int (0-most rs+(i:Int))) (z1m (by omega)) (fun i hi R hR=>?_) (fun i hi _ R hR=>⟨_,rfl,hR⟩) (fun l4 hl4=>?_)
   ·refine⟨_,rfl,_,rfl,l3,_,rfl,.inl (qLo g3),rfl,z1t rs,_,rfl,?_⟩
    rw[if_neg Bool.false_ne_true,z8p]
    exact hR
   ·refine q l4 _ (sm3.free hl4) (sm3.upd (sm3.free hl4)) ?_
    rw[z0c]
    unfold mrg rise
    rw[er,List.map_map]
    rfl
end
instance decRightS (W:List (List Int)) (t:Stp):Decidable (z8z W t):=by unfold z8z;infer_instance
theorem y7z:∀ (ns ms:List Int),eqVs (ns.map V.int) (ms.map V.int)=decide (ns=ms)
 | [],[]=>rfl
 | [],_::_=>rfl
 | _::_,[]=>rfl
 | n::ns,m::ms=>by
  rw[List.map_cons,List.map_cons,eqVs,y7z ns ms]
  show ((n==m)&&decide (ns=ms))=decide (n::ns=m::ms)
  rw[Bool.eq_iff_iff]
  simp
def y3l (t:Stp):Prop:=t.2.2.2.length<=28/\(∀ n∈t.2.2.2,n.natAbs<=10000)/\t.2.2.1.natAbs<=10000
def WsS (W:List (List Int)):Prop:=∀ v∈W,v.length<=28/\∀ n∈v,n.natAbs<=10000
def y4r (K:W.Frag):Sp:=fun vs H Q _=>∃ (a p m:Addr) (ks:List Wr) (t:Stp),vs=[.ref a,.ref p]/\SqL K H a (wrefs ks)/\WsOk H ks/\H p=some (tupS t m)/\H m=some (.lst (t.2.2.2.map V.int))/\WsS (wl ks)/\y3l t/\∀ H',Same H H'->Q (.bl (decide (z8z (wl ks) t))) H'
def y4s (K:W.Frag)(C:Addr):Sp:=fun vs H Q E=>∃ (a b:Addr) (x:Int) (ns ms:List Int),vs=[.ref a,.ref b,.int x]/\SqL K H a (ns.map V.int)/\SqL K H b (ms.map V.int)/\ns.length+ms.length<64/\x.natAbs<2 ^ 64 /\
 ((¬ x∈ns∨¬ -x∈ms)->E (.ref C) none H)/\(x∈ns->-x∈ms->∀ l zs H',H l=none->Same H H'->y1c (ns.filter (fun n=>!decide (n=x))++ms.filter (fun n=>!decide (n=-x))) zs->H' l=some (.lst (zs.map V.int))->Q (.ref l) H')
section
variable {P:Program}{w:World}{K:W.Frag}{mg:Str->Option Value}{base:Heap}
theorem x4x (B:Blt mg){C:Addr}{bm:List Value}{newId initId:String}(O:OwnCls "NoMerge" C bm newId mg base)(FB:ExcBaseFacts "ValueError" newId initId bm)(Df:Def K mg "merged" z5k z4o):CalX P w K mg base 1 "merged" z4o (y4s K C):=by
 refine Df.calX sc_merged (fun vs H Q E h=>?_) (fun f cdv A outer s H vs Q E hr h=>?_)
 ·obtain⟨a,b,x,ns,ms,rfl,_⟩:=h;rfl
 ·obtain⟨a,b,x,ns,ms,rfl,hS,hT,hz,hx,q1,q2⟩:=h
  refine⟨_,z0b (ps_if (z0k z2l (pv 2) (pv 0) (by with_unfolding_all rfl)) (z0e (x0w O FB (x4r (pv 2)))) z0o)
   (z0b (ps_if (z0k z2l (pe_un z1z (pv 2)) (pv 1) (by with_unfolding_all rfl)) (z0e (x0w O FB (x4r (pv 2)))) z0o)
    (PSs.nox (z0b (z9c (i:=3) sc_merged.nd rfl (Or.inl rfl) (fvn:=["lamp"]) (js:=[2]) rfl (z1d (pv 0)) (.cons rfl (by first | exact .inl rfl | exact .inr rfl) rfl .nil) ⟨by decide +kernel,rfl,by decide +kernel,rfl,by decide +kernel,by decide +kernel⟩ (fun _ _ _ _ _=>(z5j (z0k op_ne (pv 0) (pv 1) (z0q _)))) (fun _ _ _ _ _=>(pv 0)))
 (z0b (z9c (i:=4) sc_merged.nd rfl (Or.inl rfl) (fvn:=["lamp"]) (js:=[2]) rfl (z1d (pv 1)) (.cons rfl (by first | exact .inl rfl | exact .inr rfl) rfl .nil) ⟨by decide +kernel,rfl,by decide +kernel,rfl,by decide +kernel,by decide +kernel⟩ (fun _ _ _ _ _=>(z5j (z0k op_ne (pv 0) (pe_un z1z (pv 1)) (z0q _)))) (fun _ _ _ _ _=>(pv 0)))
 (z0e (z0p (y0v rfl B.sorted_ B.set_ (pe_op z7n (pv 3) (pv 4))))))))),?_⟩
  refine⟨_,rfl,_,rfl,a,_,rfl,.inl hS,rfl,z1t _,_,rfl,z6p (fun hn=>?_) (fun hy=>?_)⟩
  ·exact⟨_,rfl,x,rfl,hx,fun _=>q1 (.inl hn)⟩
  refine⟨_,rfl,x,rfl,_,rfl,b,_,rfl,.inl hT,rfl,z1t _,_,rfl,z6p (fun hn=>?_) (fun hy2=>?_)⟩
  ·exact⟨_,rfl,x,rfl,hx,fun _=>q1 (.inr hn)⟩
  have ne1:∀ n y:Int,(!decide (V.int n=V.int y))=(!decide (n=y)):=fun n y=>by simp
  dsimp only[tNext]
  refine z7l (t:=tAsg (tComp _ _ _ _) _) (z7u (z1r (K:=K) ?_))
  refine⟨_,rfl,a,rfl,⟨_,hS⟩,?_⟩
  refine z3q (K:=K) (a:=a) (xs:=ns) (g:=V.int) (fun n=>!decide (n=x)) V.int (z1m (by omega)) hS (fun n _ R hR=>?_) (fun n _ _ R hR=>⟨_,rfl,hR⟩) (fun l1 hl1=>?_)
  ·refine⟨_,rfl,_,rfl,rfl,_,rfl,?_⟩
   rw[ne1]
   exact hR
  have sm1:Same H (upd H l1 (.lst ((ns.filter fun n=>!decide (n=x)).map V.int))):=(smR H).upd hl1
  have g1:upd H l1 (.lst ((ns.filter fun n=>!decide (n=x)).map V.int)) l1=some (.lst ((ns.filter fun n=>!decide (n=x)).map V.int)):=z0c
  generalize upd H l1 (.lst ((ns.filter fun n=>!decide (n=x)).map V.int))=H1 at sm1 g1
  dsimp only[gName]
  refine z7l (t:=tAsg (tComp _ _ _ _) _) (z7u (z1r (K:=K) ?_))
  refine⟨_,rfl,b,rfl,⟨_,sm1.seq hT⟩,?_⟩
  refine z3q (K:=K) (a:=b) (xs:=ms) (g:=V.int) (fun n=>!decide (n=-x)) V.int (z1m (by omega)) (sm1.seq hT) (fun n _ R hR=>?_) (fun n _ _ R hR=>⟨_,rfl,hR⟩) (fun l2 hl2=>?_)
  ·refine⟨_,rfl,_,rfl,_,rfl,rfl,_,rfl,?_⟩
   rw[ne1]
   exact hR
  have n12:l1≠l2:=z0f g1 hl2
  have sm2:Same H (upd H1 l2 (.lst ((ms.filter fun n=>!decide (n=-x)).map V.int))):=sm1.upd (sm1.free hl2)
  have g2:upd H1 l2 (.lst ((ms.filter fun n=>!decide (n=-x)).map V.int)) l2=some (.lst ((ms.filter fun n=>!decide (n=-x)).map V.int)):=z0c
  have g12:upd H1 l2 (.lst ((ms.filter fun n=>!decide (n=-x)).map V.int)) l1=some (.lst ((ns.filter fun n=>!decide (n=x)).map V.int)):=by rw[z0h n12];exact g1
  generalize upd H1 l2 (.lst ((ms.filter fun n=>!decide (n=-x)).map V.int))=H2 at sm2 g2 g12
  have f1:(ns.filter fun n=>!decide (n=x)).length<=ns.length:=List.length_filter_le _ _
  have f2:(ms.filter fun n=>!decide (n=-x)).length<=ms.length:=List.length_filter_le _ _
  refine⟨_,rfl,_,rfl,l1,l2,_,_,rfl,rfl,g12,g2,by have:=sizeLine_eq;simp only[List.length_map];omega,fun l3 hl3=>?_⟩
  refine⟨l3,ns.filter (fun n=>!decide (n=x))++ms.filter (fun n=>!decide (n=-x)),rfl,by rw[z0c];simp,by simp only[List.length_append];omega,fun l zs hl hR=>?_⟩
  have sm3:Same H (upd H2 l3 (.lst ((ns.filter fun n=>!decide (n=x)).map V.int++(ms.filter fun n=>!decide (n=-x)).map V.int))):=sm2.upd (sm2.free hl3)
  exact q2 hy hy2 l zs _ (sm3.free hl) (sm3.upd (sm3.free hl)) hR z0c
end
section
variable {P:Program}{w:World}{K:W.Frag}{mg:Str->Option Value}{base:Heap}
theorem y9h (B:Blt mg){C CL:Addr}(Z:ExcTop "NoMerge" K mg base C CL)(c_merged:CalX P w K mg base 1 "merged" z4o (y4s K C))(Df:Def K mg "is_right" z4i z4t) :
 Cal P w K mg base 2 "is_right" z4t (y4r K):=by
 have X_NoMerge:mg "NoMerge" = some (.ref C)/\z9i base C C:=⟨Z.own.bound,Z.catS⟩
 refine Df.cal sc_is_right (fun vs H Q E h=>?_) (fun f cdv A outer s H vs Q E hr h=>?_)
 ·obtain⟨a,p,m,ks,t,rfl,_⟩:=h;rfl
 ·obtain⟨a,p,m,ks,⟨one,two,x,wish⟩,rfl,ha,hW,hp,hm,hsm,hst,q⟩:=h
  dsimp only[tupS,y3l]at hm hp hst
  have no:∀ {H'},Same H H'->¬ z8z (wl ks) (one,two,x,wish)->Q (.bl false) H':=fun {H'} s n=>by have:=q H' s;rw[decide_eq_false n]at this;exact this
  have el:=z0w ks
  have ew:=z1h ks
  have S0:=smR H
  refine⟨_,(z0b (z0t (i:=2) sc_is_right.nd rfl (Or.inl rfl) (pe_ix ix_tup (pv 1) z0i (fun _ _=>rfl)))
 (z0b (z0t (i:=3) sc_is_right.nd rfl (Or.inl rfl) (pe_ix ix_tup (pv 1) z0i (fun _ _=>rfl)))
 (z0b (z0t (i:=4) sc_is_right.nd rfl (Or.inl rfl) (pe_ix ix_tup (pv 1) z0i (fun _ _=>rfl)))
 (z0b (ps_if (PW.pt (pw_or (z0k op_lt (z0n (x7e rfl) (by rfl) B.min_ x7g (z0a (pv 2) (z0a (pv 3) z0d))) z0i (z0q _)) (pw_or (z0k op_ge (z0n (y8h rfl) (by rfl) B.max_ x9t (z0a (pv 2) (z0a (pv 3) z0d))) (z0n z0l (by rfl) B.len_ PySem.boot_len (z0a (pv 0) z0d)) (z0q _)) (z5a (z0k op_lt (pv 4) z0i (z0q _))))))
 (z0e (z0p pe_bl))
 z0o)
 (z0e (y8y c_merged hr (by decide) X_NoMerge.1 X_NoMerge.2 (fun _=>(z0a (pe_ix (y5o (K:=K) rfl) (pv 0) (pv 2) (fun _ _=>rfl)) (z0a (pe_ix (y5o (K:=K) rfl) (pv 0) (pv 3) (fun _ _=>rfl)) (z0a (pv 4) z0d)))) (fun _=>(pe_ix (x6a (K:=K) rfl) (pv 1) z0i (fun _ _=>rfl))) (fun _=>w0o (K:=K) rfl (hu0 hr)) (fun _=>(z0e (z0p pe_bl))) (z0q _))))))),?_⟩
  refine⟨_,rfl,p,_,_,_,rfl,rfl,qTo hp,rfl,?_⟩
  refine⟨_,rfl,p,_,_,_,rfl,rfl,qTo hp,rfl,?_⟩
  refine⟨_,rfl,p,_,_,_,rfl,rfl,qTo hp,rfl,?_⟩
  refine⟨_,rfl,_,rfl,_,_,rfl,_,_,rfl,rfl,_,rfl,ite2 (fun c=>iteT (no S0 fun z=>?_)) (fun c=>?_)⟩
  ·have h1:=of_decide_eq_true c;have h2:=z.1;have h3:=z.2.2.1;dsimp only at h2 h3;split at h1<;>omega
  have r13:0<=one/\0<=two:=by
   by_cases z:(if two<one then two else one)<0
   ·exact absurd (decide_eq_true z) c
   ·split at z<;>omega
  clear c
  refine⟨_,rfl,_,rfl,_,_,rfl,_,rfl,a,_,rfl,.inl ha,_,_,rfl,rfl,_,rfl,ite2 (fun c=>iteT (no S0 fun z=>?_)) (fun c=>?_)⟩
  ·have h1:=of_decide_eq_true c;have h2:=z.2.1;have h3:=z.2.2.2.1;dsimp only at h2 h3;split at h1<;>omega
  have r24:one<ks.length/\two<ks.length:=by
   by_cases z:((wrefs ks).length:Int)<=(if two > one then two else one)
   ·exact absurd (decide_eq_true z) c
   ·split at z<;>omega
  clear c
  refine⟨_,rfl,_,_,rfl,rfl,_,rfl,ite2 (fun c=>no S0 fun z=>?_) (fun c=>?_)⟩
  ·have:=of_decide_eq_true c;have:=z.2.2.2.2.1;dsimp only at this;omega
  have r5:1<=x:=by
   by_cases z:x<1
   ·exact absurd (decide_eq_true z) c
   ·omega
  clear c
  obtain⟨k1,hk1,at1,gd1,ge1⟩:=wl_at r13.1 r24.1
  obtain⟨k2,hk2,at2,gd2,ge2⟩:=wl_at r13.2 r24.2
  have s1:=hsm _ (List.mem_of_getElem? ge1)
  have s2:=hsm _ (List.mem_of_getElem? ge2)
  have g1:=hW k1 hk1
  have g2:=hW k2 hk2
  by_cases hx:x.natAbs<2 ^ 64
  ·refine⟨_,rfl,_,rfl,a,_,_,.ref k1.1,rfl,rfl,ha,at1,_,rfl,_,rfl,a,_,_,.ref k2.1,rfl,rfl,ha,at2,_,rfl,k1.1,k2.1,x,k1.2,k2.2,rfl,qLo g1,qLo g2,by omega,hx,fun hno=>⟨rfl,?_⟩,fun h1 h2 l zs H1 hl sm1 hR hz=>?_⟩
   ·refine no S0 fun z=>?_
    have h6:=z.2.2.2.2.2.1;have h7:=z.2.2.2.2.2.2.1
    dsimp only at h6 h7
    rw[gd1]at h6;rw[gd2]at h7
    exact hno.elim (fun y=>y h6) fun y=>y h7
   ·have ez:zs=mrg x k1.2 k2.2:=x9k hR
    subst ez
    refine⟨_,rfl,p,_,_,.ref m,rfl,rfl,qTo (sm1 _ _ hp),rfl,.inl ⟨decide (mrg x k1.2 k2.2=wish),⟨l,m,_,_,rfl,rfl,qLo hz,qLo (sm1 _ _ hm),.inr ⟨z1t _,z1t _,(y7z _ _).symm⟩⟩,?_⟩⟩
    have e:decide (mrg x k1.2 k2.2=wish)=decide (z8z (wl ks) (one,two,x,wish)):=by
     refine decide_eq_decide.mpr ⟨fun z=>⟨r13.1,by dsimp only;omega,r13.2,by dsimp only;omega,r5,?_,?_,?_⟩,fun z=>?_⟩
     ·dsimp only;rw[gd1];exact h1
     ·dsimp only;rw[gd2];exact h2
     ·dsimp only;rw[gd1,gd2];exact z.symm
     ·have:=z.2.2.2.2.2.2.2;dsimp only at this;rw[gd1,gd2]at this;exact this.symm
    rw[e]
    exact q H1 sm1
  ·exact absurd (by have:=hst.2.2;omega) hx
end
def y8q (K:W.Frag):Sp:=fun vs H Q _=>∃ (a p m:Addr) (ks:List Wr) (t:Stp),vs=[.ref a,.ref p]/\SqL K H a (wrefs ks)/\WsOk H ks/\H p=some (tupS t m)/\H m=some (.lst (t.2.2.2.map V.int))/\z8z (wl ks) t/\WsS (wl ks)/\∀ H',Same H H'->Q (.bl true) H'
def y1l:Sp:=fun vs H Q _=>∃ (a b:Addr) (ws:List Wr) (ss:List Sr),vs=[.ref a,.ref b]/\H a=some (.lst (wrefs ws))/\WsOk H ws/\H b=some (.lst (srefs ss))/\SsOk H ss/\WsS (wl ws)/\(∀ s∈ss,y3l s.2.2)/\ws.length<=20000/\ss.length<=16670000/\y5x (wl ws) (sls ss)/\∀ H',Same H H'->Q (.bl true) H'
structure RfI (ws:List Wr)(ss:List Sr)(kn:Addr)(H Hx:Hp)(i:Nat)(ks:List Wr):Prop where
 sm:Same H Hx
 hk:Hx kn=some (.lst (wrefs ks))
 ok:WsOk Hx ks
 nk:∀ r∈ks,r.1≠kn
 ew:wl ks=wl ws++wlSt ((sls ss).take i)
theorem RfI.small {ws:List Wr}{ss:List Sr}{kn:Addr}{H Hx:Hp}{i:Nat}{ks:List Wr}(h:RfI ws ss kn H Hx i ks)(hws:WsS (wl ws))(hst:∀ s∈ss,y3l s.2.2):WsS (wl ks):=fun v hv=>by
 rw[h.ew]at hv
 rcases mApp hv with z|z
 ·exact hws v z
 ·obtain⟨st,hs,rfl⟩:=List.mem_map.mp z
  obtain⟨s',hs',rfl⟩:=List.mem_map.mp (List.mem_of_mem_take hs)
  exact⟨(hst s' hs').1,(hst s' hs').2.1⟩
theorem RfI.len {ws:List Wr}{ss:List Sr}{kn:Addr}{H Hx:Hp}{i:Nat}{ks:List Wr}(h:RfI ws ss kn H Hx i ks):ks.length<=ws.length+ss.length:=by
 have:=congrArg List.length h.ew
 rw[List.length_append,y1h,List.length_take,z9a,z1h,z1h]at this;omega
theorem RfI.right {ws:List Wr}{ss:List Sr}{kn:Addr}{H Hx:Hp}{i:Nat}{ks:List Wr}{sr:Sr}(h:RfI ws ss kn H Hx i ks)(hs:y5x (wl ws) (sls ss))(hi:ss[i]?=some sr):z8z (wl ks) sr.2.2:=by
 rw[h.ew]
 exact y2c hs.1 (by unfold sls;rw[List.getElem?_map,hi];rfl)
theorem RfI.step {ws:List Wr}{ss:List Sr}{kn:Addr}{H Hx Hy:Hp}{i:Nat}{ks:List Wr}{sr:Sr}(h:RfI ws ss kn H Hx i ks)(e:Same Hx Hy)(hkn:H kn=none)(hSs:SsOk H ss)(hi:ss[i]?=some sr):RfI ws ss kn H (upd Hy kn (.lst (wrefs ks++[.ref sr.2.1]))) (i+1) (ks++[(sr.2.1,sr.2.2.2.2.2)]):=by
 have hm:=List.mem_of_getElem? hi
 have nm:sr.2.1≠kn:=z0f (hSs sr hm).2 hkn
 refine⟨(h.sm.trans e).upd hkn,by rw[z0c];simp[wrefs],fun r hr=>?_,fun r hr=>?_,?_⟩
 ·rcases mApp hr with z|z
  ·rw[z0h (h.nk r z)];exact e _ _ (h.ok r z)
  ·have:r=(sr.2.1,sr.2.2.2.2.2):=by simpa using z
   rw[this,z0h nm];exact e _ _ (h.sm _ _ (hSs sr hm).2)
 ·rcases mApp hr with z|z
  ·exact h.nk r z
  ·have:r=(sr.2.1,sr.2.2.2.2.2):=by simpa using z
   rw[this];exact nm
 ·have hsi':(sls ss)[i]?=some sr.2.2:=by unfold sls;rw[List.getElem?_map,hi];rfl
  rw[List.take_add_one,hsi',Option.toList_some,y1s,←List.append_assoc,←h.ew];simp[wl]
theorem x9j {K:W.Frag}{H Hy:Hp}{a pn:Addr}{ws:List Wr}(ha:H a=some (.lst (wrefs ws)))(hW:WsOk H ws)(sy:Same H Hy)(hpn:Hy pn=none)(hm:[]∈wl ws) :
 SqL K (upd Hy pn (.lst [])) a ((ws.map fun r=>(r.1,r.2.map V.int)).map fun q=>V.ref q.1)/\(∀ q∈ws.map (fun r=>(r.1,r.2.map V.int)),upd Hy pn (.lst []) q.1=some (.lst q.2))/\((ws.map fun r=>(r.1,r.2.map V.int)).any fun q=>q.2.isEmpty)=true:=by
 have s2:Same H (upd Hy pn (.lst [])):=sy.upd (sy.free hpn)
 refine⟨?_,fun q hq'=>?_,?_⟩
 ·rw[List.map_map];exact qLo (s2 _ _ ha)
 ·obtain⟨r,hr,rfl⟩:=List.mem_map.mp hq'
  exact s2 _ _ (hW r hr)
 ·unfold wl at hm
  obtain⟨r,hr,e⟩:=List.mem_map.mp hm
  exact List.any_eq_true.mpr ⟨_,List.mem_map.mpr ⟨r,hr,rfl⟩,by show (r.2.map V.int).isEmpty=true;rw[e];rfl⟩
section
variable {P:Program}{w:World}{K:W.Frag}{mg:Str->Option Value}{base:Heap}
theorem y2k (B:Blt mg)(c_l_whole:Cal P w K mg base 1 "_law_whole" z5d y4p)(c_l_alike:Cal P w K mg base 2 "_law_alike" z5g y4w)(c_l_merge:Cal P w K mg base 1 "_law_merge" z5e (y1n K))(Df:Def K mg "_law_right_step" z1x z2p) :
 Cal P w K mg base 3 "_law_right_step" z2p (y8q K):=by
 refine Df.cal sc_l_right_step (fun vs H Q E h=>?_) (fun f cdv A outer s H vs Q E hr h=>?_)
 ·obtain⟨a,p,m,ks,t,rfl,_⟩:=h;rfl
 ·obtain⟨a,p,m,ks,⟨one,two,x,wish⟩,rfl,ha,hW,hp,hm,⟨r1,r2,r3,r4,r5,r6,r7,r8⟩,hsm,q⟩:=h
  dsimp only[tupS]at r1 r2 r3 r4 r5 r6 r7 r8 hm hp
  rw[z1h]at r2 r4
  obtain⟨k1,hk1,at1,gd1,ge1⟩:=wl_at r1 r2
  obtain⟨k2,hk2,at2,gd2,ge2⟩:=wl_at r3 r4
  rw[gd1]at r6 r8
  rw[gd2]at r7 r8
  have s1:=hsm _ (List.mem_of_getElem? ge1)
  have s2:=hsm _ (List.mem_of_getElem? ge2)
  have g1:=hW k1 hk1
  have g2:=hW k2 hk2
  refine⟨_,(z0b (ps_if (PW.pt (pw_or (z2y (z2a (z0n z2n (by rfl) B.isinstance_ z0u (z0a (pv 1) (z0a (pe_ty B.tuple_ z8u) z0d))))) (pw_or (z0k op_ne (z0n z0l (by rfl) B.len_ PySem.boot_len (z0a (pv 1) z0d)) z0i (z0q _)) (z5a (z2y (z2a (z0n z2n (by rfl) B.isinstance_ z0u (z0a (pe_ix ix_tup (pv 1) z0i (fun _ _=>rfl)) (z0a (pe_ty B.list_ z3y) z0d)))))))))
 (z0e (z0p pe_bl))
 z0o)
 (z0b (x4l (pv 1) (x4q rfl (z6l (z1c (i:=2) sc_l_right_step.nd rfl (Or.inl rfl)) (z6l (z1c (i:=3) sc_l_right_step.nd rfl (Or.inl rfl)) (z6l (z1c (i:=4) sc_l_right_step.nd rfl (Or.inl rfl)) (z6l (z1c (i:=5) sc_l_right_step.nd rfl (Or.inl rfl)) y8z))))))
 (z0b (ps_if (PW.pt (pw_or (z2y (z2a (z0v c_l_whole hr (by decide) (z0a (pv 2) z0d)))) (pw_or (z2y (z2a (z0v c_l_whole hr (by decide) (z0a (pv 3) z0d)))) (z5a (z2y (z2a (z0v c_l_whole hr (by decide) (z0a (pv 4) z0d))))))))
 (z0e (z0p pe_bl))
 z0o)
 (z0b (ps_if (PW.pt (pw_or (z0k op_lt (pv 2) z0i (z0q _)) (pw_or (z0k op_ge (pv 2) (z0n z0l (by rfl) B.len_ PySem.boot_len (z0a (pv 0) z0d)) (z0q _)) (pw_or (z0k op_lt (pv 3) z0i (z0q _)) (z5a (z0k op_ge (pv 3) (z0n z0l (by rfl) B.len_ PySem.boot_len (z0a (pv 0) z0d)) (z0q _)))))))
 (z0e (z0p pe_bl))
 z0o)
 (z0b (ps_if (PW.pt (pw_or (z0k op_lt (pv 4) z0i (z0q _)) (pw_or (z0k z2l (pv 4) (pe_ix ix_list (pv 0) (pv 2) (fun _ _=>rfl)) (by with_unfolding_all rfl)) (z5a (z0k z2l (pe_un z1z (pv 4)) (pe_ix ix_list (pv 0) (pv 3) (fun _ _=>rfl)) (by with_unfolding_all rfl))))))
 (z0e (z0p pe_bl))
 z0o)
 (z0e (z0p (z0v c_l_alike hr (by decide) (z0a (pv 5) (z0a (z0v c_l_merge hr (by decide) (z0a (pe_ix ix_list (pv 0) (pv 2) (fun _ _=>rfl)) (z0a (pe_ix ix_list (pv 0) (pv 3) (fun _ _=>rfl)) (z0a (pv 4) z0d)))) z0d)))))))))),?_⟩
  refine⟨_,rfl,_,.tup,.tup,rfl,⟨_,hp⟩,_,rfl,iteF ?_⟩
  refine⟨_,rfl,p,_,rfl,.inr (qTo hp),rfl,_,rfl,iteNS rfl ?_⟩
  refine⟨_,rfl,p,_,_,.ref m,rfl,rfl,qTo hp,rfl,_,.lst,.lst,rfl,⟨_,.inl hm⟩,_,rfl,iteF ?_⟩
  refine⟨_,rfl,p,_,rfl,qTo hp,rfl,_,_,rfl,_,_,rfl,_,_,rfl,_,_,rfl,rfl,?_⟩
  refine⟨_,rfl,_,.int,rfl,trivial,_,rfl,iteF ?_⟩
  refine⟨_,rfl,_,.int,rfl,trivial,_,rfl,iteF ?_⟩
  refine⟨_,rfl,_,.int,rfl,trivial,_,rfl,iteF ?_⟩
  have el:=z0w ks
  refine⟨_,rfl,_,_,rfl,rfl,_,rfl,iteN (by omega) ?_⟩
  refine⟨_,rfl,_,rfl,a,_,rfl,.inl ha,_,_,rfl,rfl,_,rfl,iteN (by omega) ?_⟩
  refine⟨_,rfl,_,_,rfl,rfl,_,rfl,iteN (by omega) ?_⟩
  refine⟨_,rfl,_,rfl,a,_,rfl,.inl ha,_,_,rfl,rfl,_,rfl,iteN (by omega) ?_⟩
  refine⟨_,rfl,_,_,rfl,rfl,_,rfl,iteN (by omega) ?_⟩
  refine⟨_,rfl,_,rfl,_,rfl,a,_,_,.ref k1.1,rfl,rfl,ha,at1,k1.1,_,rfl,.inl (qLo g1),rfl,z1t _,_,rfl,z6p (fun hn=>absurd r6 hn) (fun _=>?_)⟩
  refine⟨_,rfl,_,rfl,_,rfl,_,rfl,a,_,_,.ref k2.1,rfl,rfl,ha,at2,k2.1,_,rfl,.inl (qLo g2),rfl,z1t _,_,rfl,z6p (fun hn=>absurd r7 hn) (fun _=>?_)⟩
  refine⟨_,rfl,_,rfl,_,rfl,a,_,_,.ref k1.1,rfl,rfl,ha,at1,_,rfl,_,rfl,a,_,_,.ref k2.1,rfl,rfl,ha,at2,_,rfl,k1.1,k2.1,x,k1.2,k2.2,rfl,qLo g1,qLo g2,by have:=s1.1;have:=s2.1;omega,s1.2,s2.2,fun lm H1 hlm sm1 h1=>?_⟩
  rw[←r8]at h1
  have hl:=w0v x k1.2 k2.2
  rw[←r8]at hl
  exact⟨_,_,.lst (dInts wish),rfl,At.ofInts (sm1 _ _ hm),At.ofInts h1,by rw[dlin];exact y2p _,by rw[D.size,y0e];omega,fun H2 sm2=>q H2 (sm1.trans sm2)⟩
theorem y5f (B:Blt mg)(c_l_right_step:Cal P w K mg base 3 "_law_right_step" z2p (y8q K))(Df:Def K mg "_law_refuted" z3g z4r):Cal P w K mg base 4 "_law_refuted" z4r y1l:=by
 refine Df.cal sc_l_refuted (fun vs H Q E h=>?_) (fun f cdv A outer s H vs Q E hr h=>?_)
 ·obtain⟨a,b,ws,ss,rfl,_⟩:=h;rfl
 ·obtain⟨a,b,ws,ss,rfl,ha,hW,hb,hSs,hws,hst2,hwl,hsl,hno,q⟩:=h
  have hu:=hu_of hr
  refine⟨_,(z0b (ps_if (z2y (z2a (z0n z2n (by rfl) B.isinstance_ z0u (z0a (pv 1) (z0a (pe_ty B.list_ z3y) z0d)))))
 (z0e (z0p pe_bl))
 z0o)
 (z0b (z0t (i:=2) sc_l_refuted.nd rfl (Or.inl rfl) (z4n z3r (by rfl) B.list_ z3y (z0a (pv 0) z0d)))
 (z0b (z3a PassesOwn.never rfl (z1d (pv 1)) (z1c (i:=3) sc_l_refuted.nd rfl (Or.inl rfl))
 (z0b (ps_if (z2y (z2a (z0v c_l_right_step hr (by decide) (z0a (pv 2) (z0a (pv 3) z0d)))))
 (z0e (z0p pe_bl))
 z0o)
 (z0e (z0z (pe_bm PySem.F.plainAttrs_list PySem.F.slot_list_append PySem.F.type_list_append z1f (pv 2) (z0a (pe_ix ix_tup (pv 3) z0i (fun _ _=>rfl)) z0d))))))
 (z0b (ps_if (z0k op_eq (z0n z0l (by rfl) B.len_ PySem.boot_len (z0a (pv 1) z0d)) z0i (z0q _))
 (z0e (z0p (z4m (x1c hu) (z1g z0d) (pv 0) (by with_unfolding_all rfl))))
 z0o)
 (z0e (z0p (z4m (y2h (hu0 hr)) (pe_ix ix_list (pv 2) (pe_un z1z z0i) (fun _ _=>rfl)) (z1g z0d) (z0q _)))))))),?_⟩
  refine⟨_,rfl,_,.lst,.lst,rfl,⟨_,.inl hb⟩,_,rfl,iteF ?_⟩
  refine⟨_,rfl,a,_,rfl,.inl (qLo ha),fun kn hkn=>?_⟩
  have s1:Same H (upd H kn (.lst (wrefs ws))):=(smR H).upd hkn
  have I0:RfI ws ss kn H (upd H kn (.lst (wrefs ws))) 0 ws:=⟨s1,z0c,hW.mono s1,fun r hr=>z0f (hW r hr) hkn,by simp[wlSt]⟩
  generalize upd H kn (.lst (wrefs ws))=H1 at I0
  refine⟨_,rfl,b,rfl,⟨_,qLo (I0.sm _ _ hb)⟩,z2z (K:=K) (a:=b) (xs:=srefs ss) (fun i σ Hx=>∃ (ks:List Wr) (o3:Option V),σ=[some (.ref a),some (.ref b),some (.ref kn),o3]/\RfI ws ss kn H Hx i ks) ⟨ws,none,rfl,I0⟩ (fun i σ Hx _ ⟨_,_,_,e⟩=>qLo (e.sm _ _ hb)) ?_ ?_⟩
  ·rintro i y σ Hx hi ⟨ks,o3,rfl,I⟩
   obtain⟨sr,hsi,rfl⟩:=x3t hi
   have hsr:=(hSs.mono I.sm) sr (List.mem_of_getElem? hsi)
   have hkl:=I.len
   refine⟨_,rfl,_,rfl,kn,sr.1,sr.2.1,ks,sr.2.2,rfl,qLo I.hk,I.ok,hsr.1,hsr.2,I.right hno hsi,I.small hws hst2,fun H11 s11=>⟨_,rfl,iteF ?_⟩⟩
   refine⟨_,rfl,.inl ⟨rfl,_,qLo (s11 _ _ I.hk)⟩,_,rfl,sr.1,_,_,.ref sr.2.1,rfl,rfl,qTo (s11 _ _ hsr.1),rfl,kn,_,_,rfl,rfl,s11 _ _ I.hk,z2r (by rw[z0w];omega),?_⟩
   exact⟨_,some (.ref sr.1),rfl,I.step s11 hkn hSs hsi⟩
  rintro σ Hx ⟨ks,o3,rfl,I⟩
  have ekl:=I.ew
  have el:(srefs ss).length=(sls ss).length:=by rw[z4l,z9a]
  rw[el,List.take_length]at ekl
  refine⟨_,rfl,b,_,rfl,.inl (qLo (I.sm _ _ hb)),rfl,_,rfl,?_⟩
  rcases z4g ss with rfl|⟨ss',x,rfl⟩
  ·refine iteT ⟨by decide,fun pn hpn=>?_⟩
   obtain⟨z1,z2,z3⟩:=x9j (K:=K) ha hW I.sm hpn (by
    rcases hno.2 with z|⟨pre,t,z,_⟩
    ·exact z.2
    ·exact absurd (congrArg List.length z) (by simp[sls]))
   refine⟨_,rfl,pn,a,_,rfl,rfl,z0c,z1,z2,?_⟩
   rw[z3]
   exact q _ (I.sm.upd (I.sm.free hpn))
  ·refine ite2 (fun z=>?_) (fun _=>?_)
   ·have:=of_decide_eq_true z
    injection this with this
    rw[z4l]at this;simp at this;omega
   rcases z4g ks with rfl|⟨ks',kr,rfl⟩
   ·have:=congrArg List.length ekl
    simp[wl,wlSt,sls]at this
   have ekr:kr.2=[]:=by
    rw[z8h,y1s,←List.append_assoc]at ekl
    have e:wl (ks'++[kr])=wl ks'++[kr.2]:=by simp[wl]
    rw[e]at ekl
    have e1:kr.2=x.2.2.2.2.2:=by simpa using List.append_inj_right' ekl rfl
    rcases hno.2 with z|⟨pre,t,z,e2⟩
    ·exact absurd (congrArg List.length z.1) (by simp[sls])
    ·rw[z8h]at z
     have e3:x.2.2=t:=by simpa using List.append_inj_right' z rfl
     rw[e1,e3];exact e2
   have hk:=I.ok kr (by simp)
   refine⟨_,rfl,_,rfl,kn,_,_,.ref kr.1,rfl,rfl,qLo I.hk,by simp only[wrefs,List.map_append,List.map_cons,List.map_nil];exact z8v _ _,by decide,fun pn hpn=>?_⟩
   refine .inl ⟨(kr.2.map V.int).isEmpty,⟨kr.1,pn,_,[],rfl,rfl,qLo (by rw[z0h (z0f hk hpn)];exact hk),qLo z0c,.inl ⟨rfl,rfl⟩⟩,?_⟩
   rw[ekr]
   exact q _ (I.sm.upd (I.sm.free hpn))
theorem x4w (B:Blt mg)(c_is_right:Cal P w K mg base 2 "is_right" z4t (y4r K))(Df:Def K mg "shows" z7t y0g):Cal P w K mg base 3 "shows" y0g y1l:=by
 refine Df.cal sc_shows (fun vs H Q E h=>?_) (fun f cdv A outer s H vs Q E hr h=>?_)
 ·obtain⟨a,b,ws,ss,rfl,_⟩:=h;rfl
 ·obtain⟨a,b,ws,ss,rfl,ha,hW,hb,hSs,hws,hst2,hwl,hsl,hno,q⟩:=h
  have hu:=hu_of hr
  refine⟨_,(z0b (z0t (i:=2) sc_shows.nd rfl (Or.inl rfl) (z4n z3r (by rfl) B.list_ z3y (z0a (pv 0) z0d)))
 (z0b (z3a PassesOwn.never rfl (z1d (pv 1)) (z1c (i:=3) sc_shows.nd rfl (Or.inl rfl))
 (z0b (ps_if (z2y (z2a (z0v c_is_right hr (by decide) (z0a (pv 2) (z0a (pv 3) z0d)))))
 (z0e (z0p pe_bl))
 z0o)
 (z0e (z0z (pe_bm PySem.F.plainAttrs_list PySem.F.slot_list_append PySem.F.type_list_append z1f (pv 2) (z0a (pe_ix ix_tup (pv 3) z0i (fun _ _=>rfl)) z0d))))))
 (z0b (ps_if (z6k (pv 1) (fun _=>rfl))
 (z0e (z0p (z4m (y2h (hu0 hr)) (pe_ix ix_tup (pe_ix ix_list (pv 1) (pe_un z1z z0i) (fun _ _=>rfl)) z0i (fun _ _=>rfl)) (z1g z0d) (z0q _))))
 z0o)
 (z0e (z0p (z4m (x1c hu) (z1g z0d) (pv 0) (by with_unfolding_all rfl))))))),?_⟩
  refine⟨_,rfl,a,_,rfl,.inl (qLo ha),fun kn hkn=>?_⟩
  have s1:Same H (upd H kn (.lst (wrefs ws))):=(smR H).upd hkn
  have I0:RfI ws ss kn H (upd H kn (.lst (wrefs ws))) 0 ws:=⟨s1,z0c,hW.mono s1,fun r hr=>z0f (hW r hr) hkn,by simp[wlSt]⟩
  generalize upd H kn (.lst (wrefs ws))=H1 at I0
  refine⟨_,rfl,b,rfl,⟨_,qLo (I0.sm _ _ hb)⟩,z2z (K:=K) (a:=b) (xs:=srefs ss) (fun i σ Hx=>∃ (ks:List Wr) (o3:Option V),σ=[some (.ref a),some (.ref b),some (.ref kn),o3]/\RfI ws ss kn H Hx i ks) ⟨ws,none,rfl,I0⟩ (fun i σ Hx _ ⟨_,_,_,e⟩=>qLo (e.sm _ _ hb)) ?_ ?_⟩
  ·rintro i y σ Hx hi ⟨ks,o3,rfl,I⟩
   obtain⟨sr,hsi,rfl⟩:=x3t hi
   have hmem:=List.mem_of_getElem? hsi
   have hsr:=(hSs.mono I.sm) sr hmem
   have hkl:=I.len
   refine⟨_,rfl,_,rfl,kn,sr.1,sr.2.1,ks,sr.2.2,rfl,qLo I.hk,I.ok,hsr.1,hsr.2,I.small hws hst2,hst2 sr hmem,fun H11 s11=>⟨_,rfl,?_⟩⟩
   rw[decide_eq_true (I.right hno hsi)]
   refine iteF ?_
   refine⟨_,rfl,.inl ⟨rfl,_,qLo (s11 _ _ I.hk)⟩,_,rfl,sr.1,_,_,.ref sr.2.1,rfl,rfl,qTo (s11 _ _ hsr.1),rfl,kn,_,_,rfl,rfl,s11 _ _ I.hk,z2r (by rw[z0w];omega),?_⟩
   exact⟨_,some (.ref sr.1),rfl,I.step s11 hkn hSs hsi⟩
  rintro σ Hx ⟨ks,o3,rfl,I⟩
  refine⟨_,rfl,!(srefs ss).isEmpty,.inl ⟨_,qLo (I.sm _ _ hb),rfl⟩,?_⟩
  rcases z4g ss with rfl|⟨ss',x,rfl⟩
  ·refine iteF ⟨by decide,fun pn hpn=>?_⟩
   obtain⟨z1,z2,z3⟩:=x9j (K:=K) ha hW I.sm hpn (by
    rcases hno.2 with z|⟨pre,t,z,_⟩
    ·exact z.2
    ·exact absurd (congrArg List.length z) (by simp[sls]))
   refine⟨_,rfl,pn,a,_,rfl,rfl,z0c,z1,z2,?_⟩
   rw[z3]
   exact q _ (I.sm.upd (I.sm.free hpn))
  ·have e:(!(srefs (ss'++[x])).isEmpty)=true:=by simp[srefs]
   rw[e]
   have hx:=(hSs.mono I.sm) x (by simp)
   have ex:x.2.2.2.2.2=[]:=by
    rcases hno.2 with z|⟨pre,t,z,e2⟩
    ·exact absurd (congrArg List.length z.1) (by simp[sls])
    ·rw[z8h]at z
     have e3:x.2.2=t:=by simpa using List.append_inj_right' z rfl
     rw[e3];exact e2
   refine iteT ⟨_,rfl,_,rfl,b,_,_,.ref x.1,rfl,rfl,qLo (I.sm _ _ hb),by rw[z5p];exact z8v _ _,x.1,_,_,.ref x.2.1,rfl,rfl,qTo hx.1,rfl,by decide,fun pn hpn=>?_⟩
   refine .inl ⟨(x.2.2.2.2.2.map V.int).isEmpty,⟨x.2.1,pn,_,[],rfl,rfl,qLo (by rw[z0h (z0f hx.2 hpn)];exact hx.2),qLo z0c,.inl ⟨rfl,rfl⟩⟩,?_⟩
   rw[ex]
   exact q _ (I.sm.upd (I.sm.free hpn))
end
def y4t (K:W.Frag):Sp:=fun vs H Q _=>∃ (a b:Addr) (ns ls:List Int),vs=[.ref a,.ref b]/\SqL K H a (ns.map V.int)/\SqL K H b (ls.map V.int)/\ns.length<=100000/\(z2b ns ls=true->∀ H',Same H H'->Q .non H') /\
 (z2b ns ls=false->∀ l H',H l=none->Same H H'->H' l=some (.lst ((z2c ns ls).map V.int))->Q (.ref l) H')
def bI:Option Nat->Int
 | none=>-1
 | some i=>i
def z9k (K:W.Frag):Sp:=fun vs H Q _=>∃ (a b:Addr) (ws:List Wr) (T:List Int),vs=[.ref a,.ref b]/\SqL K H a (wrefs ws)/\WsOk H ws/\SqL K H b (T.map V.int)/\ws.length<=16690000/\(∀ p∈ws,p.2.length<=100000)/\∀ H',Same H H'->Q (.int (bI (z0s (wl ws) T))) H'
def y8s (K:W.Frag):Sp:=fun vs H Q _=>∃ (a b:Addr) (ws:List Wr) (T:List Int),vs=[.ref a,.ref b]/\SqL K H a (wrefs ws)/\WsOk H ws/\SqL K H b (T.map V.int)/\ws.length<=16690000/\(∀ p∈ws,p.2.length<=100000) /\
 (z1y (wl ws) T=none->∀ H',Same H H'->Q .non H')/\(∀ x i,z1y (wl ws) T=some (x,i)->∀ p H',H p=none->Same H H'->H' p=some (.tup [.int x,.int i])->Q (.ref p) H')
theorem y3c {W:List (List Int)}{T:List Int}{k i:Nat}{w:List Int}(hw:W[i]?=some w)(hc:cnt w T=some k)(hno:∀ j v,j<i->W[j]?=some v->cnt v T≠some k):(W.findIdx? fun w=>decide (cnt w T=some k))=some i:=by
 refine List.findIdx?_eq_some_iff_getElem.mpr ?_
 obtain⟨hi,e⟩:=List.getElem?_eq_some_iff.mp hw
 refine⟨hi,by rw[e];exact decide_eq_true hc,fun j hj=>?_⟩
 have:=hno j W[j] hj (by simp)
 simp[this]
theorem y7w {W:List (List Int)}{T:List Int}{k n:Nat}(hn:W.length<=n)(hno:∀ j v,j<n->W[j]?=some v->cnt v T≠some k):(W.findIdx? fun w=>decide (cnt w T=some k))=none:=by
 rw[List.findIdx?_eq_none_iff]
 intro w hw
 obtain⟨j,hj,rfl⟩:=List.mem_iff_getElem.mp hw
 exact decide_eq_false (hno j _ (by omega) (by simp))
section
variable {P:Program}{w:World}{K:W.Frag}{mg:Str->Option Value}{base:Heap}
theorem x4z (Df:Def K mg "_law_open" z6e z6n):Cal P w K mg base 1 "_law_open" z6n (y4t K):=by
 refine Df.cal sc_l_open (fun vs H Q E h=>?_) (fun f cdv A outer s H vs Q E hr h=>?_)
 ·obtain⟨a,b,ns,ls,rfl,_⟩:=h;rfl
 ·obtain⟨a,b,ns,ls,rfl,hS,hL,hz,q1,q2⟩:=h
  refine⟨_,(z0b (z0t (i:=2) sc_l_open.nd rfl (Or.inl rfl) (z1g z0d))
 (z0b (z3a PassesOwn.never rfl (z1d (pv 0)) (z1c (i:=3) sc_l_open.nd rfl (Or.inl rfl))
 (z0b (ps_if (z0k y2g (pv 3) (pv 1) (by with_unfolding_all rfl))
 (z0e (z0p z3d))
 z0o)
 (z0e (ps_if (PW.pt (y0t (z0k z2l (pe_un z1z (pv 3)) (pv 1) (by with_unfolding_all rfl)) (z7v (z0k z2l (pv 3) (pv 2) (by with_unfolding_all rfl)))))
 (z0e (z0z (pe_bm PySem.F.plainAttrs_list PySem.F.slot_list_append PySem.F.type_list_append z1f (pv 2) (z0a (pv 3) z0d))))
 z0o))))
 (z0e (z0p (pv 2))))),?_⟩
  refine⟨by decide,fun l hl=>?_⟩
  refine⟨_,rfl,a,rfl,⟨_,((smR H).upd hl).seq hS⟩,z2z (K:=K) (a:=a) (xs:=ns.map V.int) (fun i σ H2=>∃ v3,σ=[some (.ref a),some (.ref b),some (.ref l),v3]/\Same H H2/\H2 l=some (.lst ((gath (ns.take i) ls).map V.int))/\z2b (ns.take i) ls=false)
   ⟨none,rfl,(smR H).upd hl,by rw[z0c];rfl,by simp[z2b]⟩ (fun i σ H2 _ ⟨_,_,e,_⟩=>e.seq hS) ?_ ?_⟩
  ·rintro i y σ H2 hi ⟨v3,rfl,sm,h2,hk⟩
   obtain⟨n,hni,rfl⟩:=getV hi
   have et:ns.take (i+1)=ns.take i++[n]:=by rw[List.take_add_one,hni];rfl
   have ek:z2b (ns.take (i+1)) ls=(z2b (ns.take i) ls||decide (n∈ls)):=by rw[et];unfold z2b;rw[List.any_append];simp
   refine⟨_,rfl,_,rfl,b,_,rfl,.inl (sm.seq hL),rfl,z1t _,_,rfl,if_in (fun hin=>?_) (fun hni2=>?_)⟩
   ·refine q1 ?_ H2 sm
    unfold z2b
    exact List.any_eq_true.mpr ⟨n,List.mem_of_getElem? hni,decide_eq_true hin⟩
   ·have hk':z2b (ns.take (i+1)) ls=false:=by rw[ek,hk,decide_eq_false hni2];rfl
    have eg:=x6k (ns.take i) ls n
    rw[←et,if_neg hni2]at eg
    refine⟨_,rfl,n,rfl,_,rfl,b,_,rfl,.inl (sm.seq hL),rfl,z1t _,_,rfl,z6p (fun hm=>?_) (fun hm=>?_)⟩
    ·rw[if_neg hm]at eg
     refine⟨_,rfl,_,rfl,l,_,rfl,.inl (qLo h2),rfl,z1t _,_,rfl,z6p (fun hg=>?_) (fun hg=>?_)⟩
     ·rw[if_neg hg]at eg
      refine⟨_,rfl,.inl ⟨rfl,_,qLo h2⟩,_,rfl,l,_,_,rfl,rfl,h2,z2r (by have:=x8m (ns.take i) ls;have:=List.length_take_le i ns;simp at *;omega),?_⟩
      refine⟨_,rfl,sm.upd hl,?_,hk'⟩
      rw[z0c,eg];simp
     ·rw[if_pos hg]at eg
      exact⟨_,rfl,sm,by rw[eg];exact h2,hk'⟩
    ·rw[if_pos hm]at eg
     exact iteF ⟨_,rfl,sm,by rw[eg];exact h2,hk'⟩
  ·rintro σ H2 ⟨v3,rfl,sm,h2,hk⟩
   have e:ns.take (ns.map V.int).length=ns:=by simp
   rw[e]at h2 hk
   refine⟨_,rfl,q2 hk l H2 hl sm ?_⟩
   rw[h2,x6l hk]
theorem y3o (B:Blt mg)(c_l_open:Cal P w K mg base 1 "_law_open" z6n (y4t K))(Df:Def K mg "_law_broken_at" z2e z2i):Cal P w K mg base 2 "_law_broken_at" z2i (z9k K):=by
 refine Df.cal sc_l_broken_at (fun vs H Q E h=>?_) (fun f cdv A outer s H vs Q E hr h=>?_)
 ·obtain⟨a,b,ws,T,rfl,_⟩:=h;rfl
 ·obtain⟨a,b,ws,T,rfl,hS,hW,hT,hz,hz2,q⟩:=h
  refine⟨_,(z0b (z3a PassesOwn.never rfl (z5b (by rfl) B.range_ (z0a (z0n z0l (by rfl) B.len_ PySem.boot_len (z0a (pv 0) z0d)) z0d)) (z1c (i:=2) sc_l_broken_at.nd rfl (Or.inl rfl))
 (z0e (ps_if (z0k (y2h (hu0 hr)) (z0v c_l_open hr (by decide) (z0a (pe_ix ix_list (pv 0) (pv 2) (fun _ _=>rfl)) (z0a (pv 1) z0d))) (z1g z0d) (z0q _))
 (z0e (z0p (pv 2)))
 z0o)))
 (z0e (z0p (pe_un z1z z0i)))),?_⟩
  have wl0:=z0w ws
  refine⟨_,rfl,a,_,rfl,.inl hS,_,rfl,by omega,by omega,?_⟩
  have en:(((wrefs ws).length:Nat):Int).toNat=ws.length:=by omega
  rw[en]
  refine z5h (fun i σ H2=>∃ v2,σ=[some (.ref a),some (.ref b),v2]/\Same H H2/\∀ j v,j<i->(wl ws)[j]?=some v->cnt v T≠some 0) ⟨none,rfl,smR _,fun j v h=>by omega⟩ ?_ ?_
  ·rintro i σ H2 hi ⟨v2,rfl,sm,hno⟩
   obtain⟨wr,hwr⟩:∃ wr,ws[i]?=some wr:=⟨ws[i],by simp⟩
   have hmem:=List.mem_of_getElem? hwr
   have hwl:(wl ws)[i]?=some wr.2:=by unfold wl;rw[List.getElem?_map,hwr];rfl
   have step:∀ (c:cnt wr.2 T≠some 0),∀ j v,j<i+1->(wl ws)[j]?=some v->cnt v T≠some 0:=fun c j v hj hv=>by
    by_cases e:j=i
    ·subst e;rw[hwl]at hv;cases hv;exact c
    ·exact hno j v (by omega) hv
   have ga:atI (wrefs ws) (0+(i:Int))=some (.ref wr.1):=by
    rw[Int.zero_add];exact z3z (by unfold wrefs;rw[List.getElem?_map,hwr];rfl)
   refine⟨_,rfl,_,rfl,a,_,_,_,rfl,rfl,sm.seq hS,ga,_,rfl,wr.1,b,wr.2,T,rfl,qLo (sm _ _ (hW wr hmem)),sm.seq hT,hz2 wr hmem,fun hk H3 sm3=>?_,fun hk l H3 hl sm3 h3=>?_⟩
   ·have ec:cnt wr.2 T≠some 0:=by unfold cnt;rw[if_pos hk];simp
    refine⟨by decide,fun pn hpn=>.inr ⟨rfl,⟨pn,_,rfl,qLo z0c⟩,_,rfl,iteF ⟨_,rfl,(sm.trans sm3).upd ((sm.trans sm3).free hpn),step ec⟩⟩⟩
   ·have ec:cnt wr.2 T=some (z2c wr.2 T).length:=by unfold cnt;rw[if_neg (by simp[hk])]
    refine⟨by decide,fun pn hpn=>.inl ⟨((z2c wr.2 T).map V.int).isEmpty,⟨l,pn,_,[],rfl,rfl,qLo (by rw[z0h (z0f h3 hpn)];exact h3),qLo z0c,.inl ⟨rfl,rfl⟩⟩,_,rfl,?_⟩⟩
    have sm4:Same H (upd H3 pn (.lst [])):=(sm.trans sm3).upd ((sm.trans sm3).free hpn)
    cases ho:z2c wr.2 T with
    | nil =>
     have e0:z0s (wl ws) T=some i:=y3c hwl (by rw[ec,ho];rfl) hno
     rw[e0]at q
     refine iteT ⟨_,rfl,?_⟩
     have:=q _ sm4
     rw[Int.zero_add];exact this
    | cons x xs=>exact iteF ⟨_,rfl,sm4,step (by rw[ec,ho];simp)⟩
  ·rintro σ H2 ⟨v2,rfl,sm,hno⟩
   have e0:z0s (wl ws) T=none:=y7w (by rw[z1h];exact Nat.le_refl _) hno
   rw[e0]at q
   exact⟨_,rfl,q _ sm⟩
theorem x5a (B:Blt mg)(c_l_open:Cal P w K mg base 1 "_law_open" z6n (y4t K))(c_l_broken_at:Cal P w K mg base 2 "_law_broken_at" z2i (z9k K))(Df:Def K mg "_law_next" z6f z7e):Cal P w K mg base 3 "_law_next" z7e (y8s K):=by
 refine Df.cal sc_l_next (fun vs H Q E h=>?_) (fun f cdv A outer s H vs Q E hr h=>?_)
 ·obtain⟨a,b,ws,T,rfl,_⟩:=h;rfl
 ·obtain⟨a,b,ws,T,rfl,hS0,hW0,hT0,hz,hz2,q1,q2⟩:=h
  refine⟨_,(z0b (ps_if (z0k op_ge (z0v c_l_broken_at hr (by decide) (z0a (pv 0) (z0a (pv 1) z0d))) z0i (z0q _))
 (z0e (z0p z3d))
 z0o)
 (z0b (z3a PassesOwn.never rfl (z5b (by rfl) B.range_ (z0a (z0n z0l (by rfl) B.len_ PySem.boot_len (z0a (pv 0) z0d)) z0d)) (z1c (i:=2) sc_l_next.nd rfl (Or.inl rfl))
 (z0b (z0t (i:=3) sc_l_next.nd rfl (Or.inl rfl) (z0v c_l_open hr (by decide) (z0a (pe_ix ix_list (pv 0) (pv 2) (fun _ _=>rfl)) (z0a (pv 1) z0d))))
 (z0e (ps_if (PW.pt (y0t (z0k y2f (pv 3) z3d (z0q _)) (z7v (z0k op_eq (z0n z0l (by rfl) B.len_ PySem.boot_len (z0a (pv 3) z0d)) z0i (z0q _)))))
 (z0e (z0p (z5c (z0a (pe_ix z8b (pv 3) z0i (fun _ _=>rfl)) (z0a (pv 2) z0d)))))
 z0o))))
 (z0e (z0p z3d)))),?_⟩
  refine⟨_,rfl,_,rfl,a,b,ws,T,rfl,hS0,hW0,hT0,hz,hz2,fun H1 sm1=>?_⟩
  have hS:=sm1.seq hS0
  have hW:=hW0.mono sm1
  have hT:=sm1.seq hT0
  refine⟨_,_,rfl,rfl,_,rfl,?_⟩
  cases hb:z0s (wl ws) T with
  | some i =>
   refine ite2 (fun _=>q1 (z8m (by rw[hb];simp)) _ sm1) fun c=>absurd (decide_eq_true ?_) c
   show (0:Int)<=(i:Int)
   omega
  | none =>
   refine ite2 (fun c=>absurd (of_decide_eq_true c) ?_) fun _=>?_
   ·show ¬ (0:Int)<=-1
    omega
   have wl0:=z0w ws
   refine⟨_,rfl,a,_,rfl,.inl hS,_,rfl,by omega,by omega,?_⟩
   have en:(((wrefs ws).length:Nat):Int).toNat=ws.length:=by omega
   rw[en]
   refine z5h (fun i σ H2=>∃ v2 v3,σ=[some (.ref a),some (.ref b),v2,v3]/\Same H1 H2/\∀ j v,j<i->(wl ws)[j]?=some v->cnt v T≠some 1) ⟨none,none,rfl,smR _,fun j v h=>by omega⟩ ?_ ?_
   ·rintro i σ H2 hi ⟨v2,v3,rfl,sm,hno⟩
    obtain⟨wr,hwr⟩:∃ wr,ws[i]?=some wr:=⟨ws[i],by simp⟩
    have hmem:=List.mem_of_getElem? hwr
    have hwl:(wl ws)[i]?=some wr.2:=by unfold wl;rw[List.getElem?_map,hwr];rfl
    have step:∀ (c:cnt wr.2 T≠some 1),∀ j v,j<i+1->(wl ws)[j]?=some v->cnt v T≠some 1:=fun c j v hj hv=>by
     by_cases e:j=i
     ·subst e;rw[hwl]at hv;cases hv;exact c
     ·exact hno j v (by omega) hv
    have ga:atI (wrefs ws) (0+(i:Int))=some (.ref wr.1):=by
     rw[Int.zero_add];exact z3z (by unfold wrefs;rw[List.getElem?_map,hwr];rfl)
    refine⟨_,rfl,_,rfl,a,_,_,_,rfl,rfl,sm.seq hS,ga,_,rfl,wr.1,b,wr.2,T,rfl,qLo (sm _ _ (hW wr hmem)),sm.seq hT,hz2 wr hmem,fun hk H3 sm3=>?_,fun hk l H3 hl sm3 h3=>?_⟩
    ·have ec:cnt wr.2 T≠some 1:=by unfold cnt;rw[if_pos hk];simp
     exact⟨_,rfl,rfl,_,rfl,iteF (iteF ⟨_,_,rfl,sm.trans sm3,step ec⟩)⟩
    ·have ec:cnt wr.2 T=some (z2c wr.2 T).length:=by unfold cnt;rw[if_neg (by simp[hk])]
     refine⟨_,rfl,rfl,_,rfl,iteT ⟨_,rfl,l,_,rfl,.inl (qLo h3),?_⟩⟩
     have sm4:=sm.trans sm3
     refine⟨rfl,_,rfl,ite2 (fun c=>?_) fun c=>?_⟩
     ·have c':(z2c wr.2 T).length=1:=by
       have:=of_decide_eq_true c
       simp at this;omega
      obtain⟨x,hx⟩:=List.length_eq_one_iff.mp c'
      have ho:oneAt (wl ws) T=some i:=y3c hwl (by rw[ec,c']) hno
      have hn:z1y (wl ws) T=some (x,i):=by
       obtain⟨y,hy⟩:=y7f hb ho
       obtain⟨_,_,w',hw',_,hox,_⟩:=z8n hy
       rw[hwl]at hw';cases hw'
       rw[hx]at hox
       have:x=y:=by simpa using hox
       rw[this];exact hy
      rw[hx]at h3
      refine⟨_,rfl,.inl ⟨l,_,_,.int x,rfl,rfl,qLo h3,rfl,_,rfl,len2,fun pt hpt=>?_⟩⟩
      have:=q2 x i hn pt _ (((sm1.trans sm4)).free hpt) ((sm1.trans sm4).upd ((sm1.trans sm4).free hpt)) z0c
      rw[Int.zero_add];exact this
     ·refine⟨_,_,rfl,sm4,step ?_⟩
      rw[ec]
      intro z
      apply c
      apply decide_eq_true
      have:=Option.some.inj z
      simp[this]
   ·rintro σ H2 ⟨v2,v3,rfl,sm,hno⟩
    have e0:oneAt (wl ws) T=none:=y7w (by rw[z1h];exact Nat.le_refl _) hno
    exact q1 (y3z hb e0) _ (sm1.trans sm)
end
def y4q (K:W.Frag):Sp:=fun vs H Q _=>∃ (a:Addr) (ks:List Wr) (one two l:Int),vs=[.ref a,.int one,.int two,.int l]/\SqL K H a (wrefs ks)/\WsOk H ks/\w1n (wl ks)/\0<=one/\one<ks.length/\0<=two/\two<ks.length /\
 ∀ t m H',H t=none->H m=none->Same H H'->H' t=some (tupS (stepB (wl ks) two ((wl ks).getD two.toNat []) l one) m)->H' m=some (.lst ((stepB (wl ks) two ((wl ks).getD two.toNat []) l one).2.2.2.map V.int))->Q (.ref t) H'
section
variable {P:Program}{w:World}{K:W.Frag}{mg:Str->Option Value}{base:Heap}
theorem y6z (B:Blt mg)(c_l_merge:Cal P w K mg base 1 "_law_merge" z5e (y1n K))(Df:Def K mg "_law_step_of" z3f z4c):Cal P w K mg base 2 "_law_step_of" z4c (y4q K):=by
 refine Df.cal y6m (fun vs H Q E h=>?_) (fun f cdv A outer s H vs Q E hr h=>?_)
 ·obtain⟨a,ks,one,two,l,rfl,_⟩:=h;rfl
 ·obtain⟨a,ks,one,two,l,rfl,ha,hW,hsm,r1,r2,r3,r4,q⟩:=h
  obtain⟨k1,hk1,at1,gd1,ge1⟩:=wl_at r1 r2
  obtain⟨k2,hk2,at2,gd2,ge2⟩:=wl_at r3 r4
  have s1:=hsm _ (List.mem_of_getElem? ge1)
  have s2:=hsm _ (List.mem_of_getElem? ge2)
  have g1:=hW k1 hk1
  have g2:=hW k2 hk2
  refine⟨_,(z0b (ps_if (z0k op_gt (pv 3) z0i (z0q _))
 (z0e (z0p (z5c (z0a (pv 1) (z0a (pv 2) (z0a (pv 3) (z0a (z0v c_l_merge hr (by decide) (z0a (pe_ix ix_list (pv 0) (pv 1) (fun _ _=>rfl)) (z0a (pe_ix ix_list (pv 0) (pv 2) (fun _ _=>rfl)) (z0a (pv 3) z0d)))) z0d)))))))
 z0o)
 (z0e (z0p (z5c (z0a (pv 2) (z0a (pv 1) (z0a (pe_un z1z (pv 3)) (z0a (z0v c_l_merge hr (by decide) (z0a (pe_ix ix_list (pv 0) (pv 2) (fun _ _=>rfl)) (z0a (pe_ix ix_list (pv 0) (pv 1) (fun _ _=>rfl)) (z0a (pe_un z1z (pv 3)) z0d)))) z0d)))))))),?_⟩
  refine⟨_,rfl,_,_,rfl,rfl,_,rfl,ite2 (fun c=>?_) (fun c=>?_)⟩
  ·have c':0<l:=of_decide_eq_true c
   refine⟨_,rfl,_,rfl,_,rfl,_,rfl,_,rfl,a,_,_,.ref k1.1,rfl,rfl,ha,at1,_,rfl,_,rfl,a,_,_,.ref k2.1,rfl,rfl,ha,at2,_,rfl,k1.1,k2.1,l,k1.2,k2.2,rfl,qLo g1,qLo g2,by omega,s1.2,s2.2,fun m H1 hm sm1 h1=>?_⟩
   refine⟨(by show 4<=sizeLine;decide),fun t ht=>?_⟩
   have es:stepB (wl ks) two ((wl ks).getD two.toNat []) l one=(one,two,l,mrg l k1.2 k2.2):=by unfold stepB;rw[if_pos c',gd1,gd2]
   rw[es]at q
   exact q t m _ (sm1.free ht) hm (sm1.upd (sm1.free ht)) z0c (by rw[z0h (z0f h1 ht)];exact h1)
  ·have c':¬ 0<l:=fun z=>c (decide_eq_true z)
   refine⟨_,rfl,_,rfl,_,rfl,_,rfl,_,rfl,_,rfl,a,_,_,.ref k2.1,rfl,rfl,ha,at2,_,rfl,_,rfl,a,_,_,.ref k1.1,rfl,rfl,ha,at1,_,rfl,_,rfl,k2.1,k1.1,-l,k2.2,k1.2,rfl,qLo g2,qLo g1,by omega,s2.2,s1.2,fun m H1 hm sm1 h1=>?_⟩
   refine⟨(by show 4<=sizeLine;decide),fun t ht=>?_⟩
   have es:stepB (wl ks) two ((wl ks).getD two.toNat []) l one=(two,one,-l,mrg (-l) k2.2 k1.2):=by unfold stepB;rw[if_neg c',gd1,gd2]
   rw[es]at q
   exact q t m _ (sm1.free ht) hm (sm1.upd (sm1.free ht)) z0c (by rw[z0h (z0f h1 ht)];exact h1)
end
def SameX (a:Addr)(H H':Hp):Prop:=∀ b o,b≠a->H b=some o->H' b=some o
theorem SameX.of {a:Addr}{H H':Hp}(h:Same H H'):SameX a H H':=fun b o _ e=>h b o e
theorem SameX.trans {a:Addr}{H H1 H2:Hp}(h:SameX a H H1)(h':SameX a H1 H2):SameX a H H2:=fun b o n e=>h' b o n (h b o n e)
theorem SameX.upd {a:Addr}{H H':Hp}{o:HO}(h:SameX a H H'):SameX a H (L2.upd H' a o):=fun b u n e=>by rw[z0h n];exact h b u n e
theorem SameX.new {a l:Addr}{H H':Hp}{o:HO}(h:SameX a H H')(hl:H l=none):SameX a H (L2.upd H' l o):=fun b u n e=>by rw[z0h (z0f e hl)];exact h b u n e
def y8t (K:W.Frag):Sp:=fun vs H Q _=>∃ (a b:Addr) (ws:List Wr) (qs:List Pr) (n:Int),vs=[.ref a,.ref b,.int n]/\a≠b/\H a=some (.lst (wrefs ws))/\WsOk H ws/\(∀ r∈ws,r.1≠a)/\H b=some (.lst (refs qs))/\TrOk H qs/\0<=n/\n<ws.length/\ws.length<=16690000/\qs.length<=31 /\
 (∀ v∈wl ws,v.length<=31/\∀ x∈v,x.natAbs<=10000)/\Tv (wl ws) (pdat qs).reverse/\Cov ((wl ws).getD n.toNat []) (pdat qs).reverse /\
 ∀ t s1 s2 qs' ss ks H',H t=none->H s1=none->H s2=none->SameX a H H'->H' t=some (.tup [.ref s1,.ref s2])->H' s1=some (.lst (refs qs'))->TrOk H' qs'->H' s2=some (.lst (srefs ss))->SsOk H' ss->H' a=some (.lst (wrefs ks))->WsOk H' ks->(∀ r∈ks,r.1≠a/\r.1≠s1)->wl ks=wl ws++wlSt (sls ss)->(∀ r∈ks,r∈ws∨H r.1=none) ->
  pdat qs'=(goB (wl ws) (pdat qs).reverse n ((wl ws).getD n.toNat []) ws.length).1.reverse->sls ss=(goB (wl ws) (pdat qs).reverse n ((wl ws).getD n.toNat []) ws.length).2->Q (.ref t) H'
structure LbI (ws:List Wr)(qs:List Pr)(n:Int)(a sh st:Addr)(H H2:Hp)(q1:List Pr)(ss:List Sr)(ks:List Wr)(hand:Int)(wish:List Int):Prop where
 sx:SameX a H H2
 hsh:H2 sh=some (.lst (refs q1))
 hst:H2 st=some (.lst (srefs ss))
 hss:SsOk H2 ss
 ha:H2 a=some (.lst (wrefs ks))
 hok:WsOk H2 ks
 hWk:(∀ r∈ks,r.1≠a/\r.1≠sh/\r.1≠st)
 hwl:wl ks=wl ws++wlSt (sls ss)
 hnw:(∀ r∈ks,r∈ws∨H r.1=none)
 hsub:(∀ x∈q1,x∈qs)
 hsq:ss.length+q1.length<=31
 hgo:goB (wl ws) (pdat qs).reverse n ((wl ws).getD n.toNat []) ws.length=((goB (wl ws) (pdat q1).reverse hand wish (ws.length+ss.length)).1,sls ss++(goB (wl ws) (pdat q1).reverse hand wish (ws.length+ss.length)).2)
 hv:Tv (wl ws) (pdat q1).reverse
 hc:Cov wish (pdat q1).reverse
 hks:(∀ v∈wl ks,v.length<=31/\∀ x∈v,x.natAbs<=10000)
 h0:0<=hand
 h1:hand<ks.length
 hwh:(wl ks).getD hand.toNat []=wish
section
variable {P:Program}{w:World}{K:W.Frag}{mg:Str->Option Value}{base:Heap}
theorem x5d (B:Blt mg)(c_l_step_of:Cal P w K mg base 2 "_law_step_of" z4c (y4q K))(Df:Def K mg "_law_back" z6i z7g):Cal P w K mg base 3 "_law_back" z7g (y8t K):=by
 refine Df.cal sc_l_back (fun vs H Q E h=>?_) (fun f cdv A outer s H vs Q E hr h=>?_)
 ·obtain⟨a,b,ws,qs,n,rfl,_⟩:=h;rfl
 ·obtain⟨a,b,ws,qs,n,rfl,nab,hS,hW,hWn,hT,hO,n0,n1,hz,hq,hwz,hv,hc,q⟩:=h
  obtain⟨wr,hwr,hat,hgd,hge⟩:=wl_at n0 n1
  have hOn:∀ x∈qs,x.1≠a:=fun x hx=>ne_of (hO x hx) hS (by intro z;cases z)
  refine⟨_,(z0b (z0t (i:=3) sc_l_back.nd rfl (Or.inl rfl) (z4n z3r (by rfl) B.list_ z3y (z0a (pv 1) z0d)))
 (z0b (z0t (i:=4) sc_l_back.nd rfl (Or.inl rfl) (z1g z0d))
 (z0b (z7a PassesOwn.never (z0k (x4u (hu0 hr)) (pv 3) (z1g z0d) (z0q _))
 (z0b (x4l (y6t PySem.F.plainAttrs_list PySem.F.slot_list_pop PySem.F.type_list_pop y7l (pv 3)) (x4q rfl (z6l (z1c (i:=5) sc_l_back.nd rfl (Or.inl rfl)) (z6l (z1c (i:=6) sc_l_back.nd rfl (Or.inl rfl)) y8z))))
 (z0e (ps_if (z0k y2g (pe_un z1z (pv 5)) (pe_ix ix_list (pv 0) (pv 2) (fun _ _=>rfl)) (by with_unfolding_all rfl))
 (z0b (ps_if (z0k y3w (pv 6) z3d (z0q _))
 (z0e (z0p (z5c (z0a (pe_op z7n (pv 3) (z1g (z0a (z5c (z0a (pe_un z1z (pv 5)) (z0a (pv 2) z0d))) z0d))) (z0a (pv 4) z0d)))))
 z0o)
 (z0b (z0z (pe_bm PySem.F.plainAttrs_list PySem.F.slot_list_append PySem.F.type_list_append z1f (pv 4) (z0a (z0v c_l_step_of hr (by decide) (z0a (pv 0) (z0a (pv 6) (z0a (pv 2) (z0a (pv 5) z0d))))) z0d)))
 (z0b (z0t (i:=2) sc_l_back.nd rfl (Or.inl rfl) (z0n z0l (by rfl) B.len_ PySem.boot_len (z0a (pv 0) z0d)))
 (z0e (z0z (pe_bm PySem.F.plainAttrs_list PySem.F.slot_list_append PySem.F.type_list_append z1f (pv 0) (z0a (pe_ix ix_tup (pe_ix ix_list (pv 4) (pe_un z1z z0i) (fun _ _=>rfl)) z0i (fun _ _=>rfl)) z0d)))))))
 z0o))))
 (z0e (z0p (z5c (z0a (pv 3) (z0a (pv 4) z0d)))))))),?_⟩
  refine⟨_,rfl,b,_,rfl,.inl (qLo hT),fun sh hsh=>?_⟩
  have smA:Same H (upd H sh (.lst (refs qs))):=(smR H).upd hsh
  have gA:upd H sh (.lst (refs qs)) sh=some (.lst (refs qs)):=z0c
  generalize upd H sh (.lst (refs qs))=HA at smA gA
  refine⟨by decide,fun st hst=>?_⟩
  have nss:sh≠st:=z0f gA hst
  have hstH:H st=none:=smA.free hst
  have nas:a≠sh:=z0f hS hsh
  have nat:a≠st:=z0f hS hstH
  have smB:Same H (upd HA st (.lst [])):=smA.upd hstH
  have gB:upd HA st (.lst []) st=some (.lst []):=z0c
  have gA2:upd HA st (.lst []) sh=some (.lst (refs qs)):=by rw[z0h nss];exact gA
  generalize upd HA st (.lst [])=HB at smB gB gA2
  refine⟨fun m σ H2=>∃ (q1:List Pr) (ss:List Sr) (ks:List Wr) (hand:Int) (wish:List Int) (o5 o6:Option V),σ=[some (.ref a),some (.ref b),some (.int hand),some (.ref sh),some (.ref st),o5,o6]/\LbI ws qs n a sh st H H2 q1 ss ks hand wish/\m=q1.length,
   ⟨_,qs,[],ws,n,wr.2,none,none,rfl,⟨SameX.of smB,gA2,gB,(fun _ z=>nomatch z),smB _ _ hS,hW.mono smB,(fun r hr=>⟨hWn r hr,z0f (hW r hr) hsh,z0f (hW r hr) hstH⟩),by simp[sls,wlSt],(fun r hr=>.inl hr),fun _ z=>z,by simpa using hq,by rw[hgd];simp[sls],hv,by rw[←hgd];exact hc,hwz,n0,n1,hgd⟩,rfl⟩,?_⟩
  rintro m σ H2 ⟨q1,ss,ks,hand,wish,o5,o6,rfl,⟨sm2,hsh2,hst2,hSs,ha2,hW2,hWk,hwl,hnw,hsub,hsq,hgo,hv1,hc1,hks,h0,h1,hwh⟩,rfl⟩
  have hks1:ks.length=ws.length+ss.length:=by
   have:=congrArg List.length hwl
   simpa[z1h,wlSt,z9a] using this
  refine⟨_,rfl,by decide,fun pn hpn=>?_⟩
  have sm3:Same H2 (upd H2 pn (.lst [])):=(smR H2).upd hpn
  have gn:upd H2 pn (.lst []) pn=some (.lst []):=z0c
  generalize upd H2 pn (.lst [])=H3 at sm3 gn
  refine⟨(refs q1).isEmpty,⟨sh,pn,_,[],rfl,rfl,qLo (sm3 _ _ hsh2),qLo gn,.inl ⟨rfl,rfl⟩⟩,_,rfl,?_⟩
  rcases z4g q1 with rfl|⟨q0,x,rfl⟩
  ·refine iteF ⟨_,rfl,_,rfl,len2,fun t ht=>?_⟩
   have sm4:Same H2 (upd H3 t (.tup [.ref sh,.ref st])):=sm3.upd (sm3.free ht)
   have htH:H t=none:=by
    cases e:H t with
    | none=>rfl
    | some o =>
     by_cases z:t=a
     ·rw[z]at ht;rw[sm3 _ _ ha2]at ht;cases ht
     ·rw[sm3 _ _ (sm2 t o z e)]at ht;cases ht
   refine q t sh st [] ss ks _ htH hsh hstH (sm2.trans (SameX.of sm4)) z0c (sm4 _ _ hsh2) (fun _ z=>nomatch z) (sm4 _ _ hst2) (hSs.mono sm4) (sm4 _ _ ha2) (hW2.mono sm4) (fun r hr=>⟨(hWk r hr).1,(hWk r hr).2.1⟩) hwl hnw ?_ ?_
   ·rw[hgo];simp[pdat,goB]
   ·rw[hgo];simp[pdat,goB]
  have ene:(refs (q0++[x])).isEmpty=false:=by simp[refs]
  rw[ene]
  have er:(pdat (q0++[x])).reverse=x.2::(pdat q0).reverse:=by simp[pdat]
  rw[er]at hv1 hc1 hgo
  have hxq:x∈qs:=hsub x (by simp)
  have hx1:H x.1=some (.tup [.int x.2.1,wv x.2.2]):=hO x hxq
  have hx3:=sm3 _ _ (sm2 _ _ (hOn x hxq) hx1)
  have ref0:refs (q0++[x])=refs q0++[.ref x.1]:=by simp[refs]
  rw[ref0]at hsh2
  obtain⟨xa,l,why⟩:=x
  dsimp only at hv1 hc1 hgo hx1 hx3 hsh2
  obtain⟨l0,hj,hv0⟩:=hv1
  have hsub0:∀ x∈q0,x∈qs:=fun x hx=>hsub x (List.mem_append_left _ hx)
  have hsq':ss.length+(q0.length+1)<=31:=by simpa using hsq
  refine iteT ⟨_,fun _ _ h=>h,?_⟩
  have hsh3:=sm3 _ _ hsh2
  refine⟨_,rfl,.inl ⟨rfl,_,qLo hsh3⟩,sh,_,.ref xa,rfl,rfl,hsh3,by simp,?_⟩
  have edl:(refs q0++[V.ref xa]).dropLast=refs q0:=by simp
  rw[edl]
  have kns:∀ s∈ss,s.2.1≠sh:=fun s hs z=>by
   have h1:=(hSs s hs).2
   rw[z,hsh2]at h1
   injection h1 with h1
   injection h1 with h1
   have h2:V.ref xa∈s.2.2.2.2.2.map V.int:=by rw[←h1];simp
   obtain⟨_,_,h3⟩:=List.mem_map.mp h2
   cases h3
  have knt:∀ s∈ss,s.2.1≠st:=fun s hs z=>by
   have h1:=(hSs s hs).2
   rw[z,hst2]at h1
   injection h1 with h1
   injection h1 with h1
   have h2:V.ref s.1∈s.2.2.2.2.2.map V.int:=by rw[←h1];exact List.mem_map.mpr ⟨s,hs,rfl⟩
   obtain⟨_,_,h3⟩:=List.mem_map.mp h2
   cases h3
  have kna:∀ s∈ss,s.2.1≠a:=fun s hs z=>by
   have h1':=(hSs s hs).2
   rw[z,ha2]at h1'
   injection h1' with h1'
   injection h1' with h1'
   have hk:ks[0]'(by omega)∈ks:=List.getElem_mem _
   have h2:V.ref (ks[0]'(by omega)).1∈s.2.2.2.2.2.map V.int:=by rw[←h1'];exact List.mem_map.mpr ⟨_,hk,rfl⟩
   obtain⟨_,_,h3⟩:=List.mem_map.mp h2
   cases h3
  have kta:∀ s∈ss,s.1≠a/\s.1≠sh/\s.1≠st:=fun s hs=>⟨ne_of (hSs s hs).1 ha2 (by unfold tupS;intro z;cases z),ne_of (hSs s hs).1 hsh2 (by unfold tupS;intro z;cases z),ne_of (hSs s hs).1 hst2 (by unfold tupS;intro z;cases z)⟩
  have smX:SameX a H (upd H3 sh (.lst (refs q0))):=(sm2.trans (SameX.of sm3)).new hsh
  have k1:upd H3 sh (.lst (refs q0)) sh=some (.lst (refs q0)):=z0c
  have shd:∀ {z:Addr} {o:HO},H2 z=some o->z≠sh->upd H3 sh (.lst (refs q0)) z=some o:=fun h hn=>by rw[z0h hn];exact sm3 _ _ h
  have k2:=shd hst2 nss.symm
  have k3:=shd ha2 nas
  have k4:SsOk (upd H3 sh (.lst (refs q0))) ss:=fun s hs=>⟨shd (hSs s hs).1 (kta s hs).2.1,shd (hSs s hs).2 (kns s hs)⟩
  have k5:upd H3 sh (.lst (refs q0)) xa=some (.tup [.int l,wv why]):=by rw[z0h (ne_of hx3 hsh3 (by intro z;cases z))];exact hx3
  have k6:WsOk (upd H3 sh (.lst (refs q0))) ks:=fun r hr=>shd (hW2 r hr) (hWk r hr).2.1
  generalize upd H3 sh (.lst (refs q0))=H4 at smX k1 k2 k3 k4 k5 k6
  refine⟨xa,_,rfl,qTo k5,rfl,_,_,rfl,_,_,rfl,rfl,?_⟩
  obtain⟨kh,hkh,hath,hgdh,hgeh⟩:=wl_at h0 h1
  have ewh:kh.2=wish:=by rw[←hgdh];exact hwh
  refine⟨_,rfl,_,rfl,_,rfl,_,rfl,a,_,_,.ref kh.1,rfl,rfl,qLo k3,hath,kh.1,_,rfl,.inl (qLo (k6 kh hkh)),rfl,z1t _,_,rfl,?_⟩
  rw[ewh]
  refine if_in (fun c=>?_) (fun c=>?_)
  ·cases why with
   | none =>
    refine⟨_,rfl,rfl,_,rfl,iteT ?_⟩
    have eg:goB (wl ws) ((l,none)::(pdat q0).reverse) hand wish (ws.length+ss.length)=((-l,some hand)::(pdat q0).reverse,[]):=by rw[goB,if_pos c]
    rw[eg]at hgo
    refine⟨_,rfl,_,rfl,_,rfl,_,rfl,len2,fun pt hpt=>?_⟩
    have s5:Same H4 (upd H4 pt (.tup [.int (-l),.int hand])):=(smR H4).upd hpt
    have g5:upd H4 pt (.tup [.int (-l),.int hand]) pt=some (.tup [.int (-l),.int hand]):=z0c
    generalize upd H4 pt (.tup [.int (-l),.int hand])=H5 at s5 g5
    refine⟨len1,fun pl hpl=>?_⟩
    have s6:Same H5 (upd H5 pl (.lst [.ref pt])):=(smR H5).upd hpl
    have g6:upd H5 pl (.lst [.ref pt]) pl=some (.lst [.ref pt]):=z0c
    generalize upd H5 pl (.lst [.ref pt])=H6 at s6 g6
    refine⟨sh,pl,_,_,rfl,rfl,s6 _ _ (s5 _ _ k1),g6,by have:=sizeLine_eq;rw[z5l];simp only[List.length_cons,List.length_nil];omega,fun pc hpc=>?_⟩
    have s7:Same H6 (upd H6 pc (.lst (refs q0++[.ref pt]))):=(smR H6).upd hpc
    have g7:upd H6 pc (.lst (refs q0++[.ref pt])) pc=some (.lst (refs q0++[.ref pt])):=z0c
    generalize upd H6 pc (.lst (refs q0++[.ref pt]))=H7 at s7 g7
    refine⟨_,rfl,len2,fun t ht=>?_⟩
    have s8:Same H7 (upd H7 t (.tup [.ref pc,.ref st])):=(smR H7).upd ht
    have s48:Same H4 (upd H7 t (.tup [.ref pc,.ref st])):=((s5.trans s6).trans s7).trans s8
    have fr:∀ {z:Addr},H4 z=none->H z=none:=fun {z} e=>by
     cases e2:H z with
     | none=>rfl
     | some o =>
      by_cases za:z=a
      ·rw[za,k3]at e;cases e
      ·rw[smX z o za e2]at e;cases e
    refine q t pc st (q0++[(pt,-l,some hand)]) ss ks _ (fr (s5.free (s6.free (s7.free ht)))) (fr (s5.free (s6.free hpc))) hstH (smX.trans (SameX.of s48)) z0c (s8 _ _ (by rw[g7];simp[refs])) ?_ (s48 _ _ k2) (k4.mono s48) (s48 _ _ k3) (k6.mono s48) (fun r hr=>⟨(hWk r hr).1,z0f (s6 _ _ (s5 _ _ (k6 r hr))) hpc⟩) hwl hnw ?_ ?_
    ·refine TrOk.snoc (fun y hy=>s48 _ _ (smX _ _ (hOn y (hsub0 y hy)) (hO y (hsub0 y hy)))) ?_
     exact s8 _ _ (s7 _ _ (s6 _ _ g5))
    ·rw[hgo];simp[pdat]
    ·rw[hgo];simp
   | some j =>
    obtain⟨j0,j1,jm,jo⟩:=hj j rfl
    have j1':j<ks.length:=by rw[z1h]at j1;omega
    have jl:j.toNat<(wl ws).length:=by omega
    refine⟨_,rfl,rfl,_,rfl,iteF ?_⟩
    refine⟨_,rfl,.inl ⟨rfl,_,qLo k2⟩,_,rfl,_,rfl,_,rfl,_,rfl,a,ks,j,hand,l,rfl,qLo k3,k6,(fun v hv=>⟨by have:=(hks v hv).1;omega,(hks v hv).2⟩),j0,j1',h0,h1,fun t m H5 ht hm sm5 g5 gm=>?_⟩
    rw[hwh,hwl,x2h jl]at g5 gm
    have eg:goB (wl ws) ((l,some j)::(pdat q0).reverse) hand wish (ws.length+ss.length)=((goB (wl ws) (pdat q0).reverse (ws.length+ss.length) (stepB (wl ws) hand wish l j).2.2.2 (ws.length+ss.length+1)).1,stepB (wl ws) hand wish l j::(goB (wl ws) (pdat q0).reverse (ws.length+ss.length) (stepB (wl ws) hand wish l j).2.2.2 (ws.length+ss.length+1)).2):=by rw[goB,if_pos c]
    rw[eg]at hgo
    have hcs:Cov (stepB (wl ws) hand wish l j).2.2.2 (pdat q0).reverse:=hc1.step jo
    have hcl:(stepB (wl ws) hand wish l j).2.2.2.length<=31:=by
     have:=hcs.len (z7q _ _ _ _ _)
     have e:(pdat q0).reverse.length=q0.length:=by simp[pdat]
     omega
    have hcb:∀ x∈(stepB (wl ws) hand wish l j).2.2.2,x.natAbs<=10000:=fun x hx=>by
     rcases mem_stepB.mp hx with ⟨z,_⟩|⟨z,_⟩
     ·have hm1:(wl ws).getD j.toNat []∈wl ws:=by
       rw[List.getD_eq_getElem?_getD,List.getElem?_eq_getElem jl];exact List.getElem_mem jl
      exact (hwz _ hm1).2 x z
     ·exact (hks _ (by rw[←hwh];exact List.mem_of_getElem? (by rw[hgdh];exact hgeh))).2 x z
    generalize stepB (wl ws) hand wish l j=St at g5 gm hgo hcs hcl hcb
    have fr:∀ {z:Addr},H4 z=none->H z=none:=fun {z} e=>by
     cases e2:H z with
     | none=>rfl
     | some o =>
      by_cases za:z=a
      ·rw[za,k3]at e;cases e
      ·rw[smX z o za e2]at e;cases e
    have k2':=sm5 _ _ k2
    refine⟨st,_,_,rfl,rfl,k2',z2r (by rw[z4l];omega),?_⟩
    have nts:t≠st:=fun z=>by rw[z,k2]at ht;cases ht
    have nms:m≠st:=fun z=>by rw[z,k2]at hm;cases hm
    have nma:m≠a:=fun z=>by rw[z,k3]at hm;cases hm
    have nmh:m≠sh:=fun z=>by rw[z,k1]at hm;cases hm
    have nta:t≠a:=fun z=>by rw[z,k3]at ht;cases ht
    have X6:SameX a H (upd H5 st (.lst (srefs ss++[.ref t]))):=(smX.trans (SameX.of sm5)).new hstH
    have st5:∀ {z:Addr} {o:HO},H4 z=some o->z≠st->upd H5 st (.lst (srefs ss++[.ref t])) z=some o:=fun h hn=>by rw[z0h hn];exact sm5 _ _ h
    have r1:upd H5 st (.lst (srefs ss++[.ref t])) st=some (.lst (srefs (ss++[(t,m,St)]))):=by rw[z0c,z5p]
    have r2:upd H5 st (.lst (srefs ss++[.ref t])) t=some (tupS St m):=by rw[z0h nts];exact g5
    have r3:upd H5 st (.lst (srefs ss++[.ref t])) m=some (.lst (St.2.2.2.map V.int)):=by rw[z0h nms];exact gm
    have r4:=st5 k1 nss
    have r5:SsOk (upd H5 st (.lst (srefs ss++[.ref t]))) ss:=fun s hs=>⟨st5 (k4 s hs).1 (kta s hs).2.2,st5 (k4 s hs).2 (knt s hs)⟩
    have r6:=st5 k3 nat
    have r7:WsOk (upd H5 st (.lst (srefs ss++[.ref t]))) ks:=fun r hr=>st5 (k6 r hr) (hWk r hr).2.2
    generalize upd H5 st (.lst (srefs ss++[.ref t]))=H6 at X6 r1 r2 r3 r4 r5 r6 r7
    refine⟨_,rfl,a,_,rfl,.inl (qLo r6),?_⟩
    refine⟨_,rfl,.inl ⟨rfl,_,qLo r6⟩,_,rfl,_,rfl,st,_,_,.ref t,rfl,rfl,qLo r1,by rw[z5p];exact z8v _ _,t,_,_,.ref m,rfl,rfl,qTo r2,rfl,a,_,_,rfl,rfl,r6,z2r (by rw[z0w];omega),?_⟩
    have X7:SameX a H (upd H6 a (.lst (wrefs ks++[.ref m]))):=X6.upd
    have na7:∀ {z:Addr} {o:HO},H6 z=some o->z≠a->upd H6 a (.lst (wrefs ks++[.ref m])) z=some o:=fun h hn=>by rw[z0h hn];exact h
    have ewk:wl (ks++[(m,St.2.2.2)])=wl ws++wlSt (sls (ss++[(t,m,St)])):=by
     rw[z8h,y1s,←List.append_assoc,←hwl];simp[wl]
    refine⟨q0.length,by simp,q0,ss++[(t,m,St)],ks++[(m,St.2.2.2)],(ws.length:Int)+(ss.length:Int),St.2.2.2,some (.int l),some (.int j),?_,⟨X7,na7 r4 nas.symm,na7 r1 nat.symm,?_,by rw[z0c];simp[wrefs],?_,?_,ewk,?_,hsub0,by simp;omega,?_,hv0,hcs,?_,by omega,by simp;omega,?_⟩,rfl⟩
    ·have e1:(((wrefs ks).length:Nat):Int)=(ws.length:Int)+(ss.length:Int):=by rw[z0w];omega
     rw[←e1];rfl
    ·exact SsOk.snoc (fun s hs=>⟨na7 (r5 s hs).1 (kta s hs).1,na7 (r5 s hs).2 (kna s hs)⟩) (na7 r2 nta) (na7 r3 nma)
    ·intro r hr
     rcases mApp hr with z|z
     ·exact na7 (r7 r z) (hWk r z).1
     ·have:r=(m,St.2.2.2):=by simpa using z
      rw[this];exact na7 r3 nma
    ·intro r hr
     rcases mApp hr with z|z
     ·exact hWk r z
     ·have:r=(m,St.2.2.2):=by simpa using z
      rw[this];exact⟨nma,nmh,nms⟩
    ·intro r hr
     rcases mApp hr with z|z
     ·exact hnw r z
     ·have:r=(m,St.2.2.2):=by simpa using z
      rw[this];exact .inr (fr hm)
    ·rw[hgo,z8h]
     have el:((ss++[(t,m,St)]).length:Int)=(ss.length:Int)+1:=by simp
     rw[el]
     simp[Int.add_assoc]
    ·intro v hv
     have hv':v∈wl ks++[St.2.2.2]:=by simpa[wl] using hv
     rcases mApp hv' with z|z
     ·exact hks v z
     ·have:v=St.2.2.2:=by simpa using z
      rw[this];exact⟨hcl,hcb⟩
    ·have e1:((ws.length:Int)+(ss.length:Int)).toNat=ks.length:=by omega
     rw[e1]
     have:ks.length=(wl ks).length:=(z1h ks).symm
     rw[this]
     simp[wl]
  ·refine⟨q0.length,by simp,q0,ss,ks,hand,wish,_,_,rfl,⟨smX,k1,k2,k4,k3,k6,hWk,hwl,hnw,hsub0,by omega,?_,hv0,hc1.skip c,hks,h0,h1,hwh⟩,rfl⟩
   rw[hgo,z6q c]
end
def x0i (K:W.Frag):Sp:=fun vs H Q _=>∃ (c:Nat) (a:Addr) (ws:List Wr),vs=[.int c,.ref a]/\H a=some (.lst (wrefs ws))/\WsOk H ws/\c<=28/\ws.length<=1000/\pot c (wl ws)<=16646144/\(∀ v∈wl ws,v.length<=28)/\(∀ v∈wl ws,∀ y∈v,y≠0/\y.natAbs<=c) /\
 (∀ (t l:Addr) (W':List (List Int)) (P:List Pd) (H':Hp),Same H H'->H' t=some (.tup [.non,.ref l])->H' l=some (.lst ((setT c (P.map (·.1))).map V.bl))->Ends c (wl ws,[]) (W',P)->z0s W' (P.map (·.1))=none->Q (.ref t) H') /\
 ∀ (t l:Addr) (us:List Wr) (H':Hp),Same H H'->H' t=some (.tup [.ref l,.non])->H' l=some (.lst (wrefs us))->WsOk H' us->Ends c (wl ws,[]) (wl ws++wl us,[])->[]∈wl ws++wl us->Q (.ref t) H'
structure WkI (c:Nat)(ws:List Wr)(lk lt:Addr)(ks:List Wr)(qs:List Pr)(H Hx:Hp):Prop where
 sm:Same H Hx
 hk:Hx lk=some (.lst (wrefs ks))
 ok:WsOk Hx ks
 nw:∀ r∈ks,r.1≠lk/\r.1≠lt
 ht:Hx lt=some (.lst (refs qs))
 to:TrOk Hx qs
 l0:H lk=none
 t0:H lt=none
 nl:lk≠lt
theorem WkI.same {c:Nat}{ws:List Wr}{lk lt:Addr}{ks:List Wr}{qs:List Pr}{H Hx Hy:Hp}(h:WkI c ws lk lt ks qs H Hx)(e:Same Hx Hy):WkI c ws lk lt ks qs H Hy :=
 ⟨h.sm.trans e,e _ _ h.hk,h.ok.mono e,h.nw,e _ _ h.ht,h.to.mono e,h.l0,h.t0,h.nl⟩
theorem WkI.add {c:Nat}{ws:List Wr}{lk lt:Addr}{ks:List Wr}{qs:List Pr}{H Hx:Hp}{p:Addr}{x:Int}{o:Option Int}(h:WkI c ws lk lt ks qs H Hx)(hp:Hx p=some (.tup [.int x,wv o])):WkI c ws lk lt ks (qs++[(p,x,o)]) H (upd Hx lt (.lst (refs qs++[.ref p]))):=by
 have keep:∀ {z:Addr} {vs:List V},Hx z=some (.tup vs)->upd Hx lt (.lst (refs qs++[.ref p])) z=some (.tup vs):=fun {z vs} hz=>by
  rw[z0h (ne_of hz h.ht (by intro z;cases z))];exact hz
 exact⟨h.sm.upd h.t0,by rw[z0h h.nl];exact h.hk,fun r hr=>by rw[z0h (h.nw r hr).2];exact h.ok r hr,h.nw,by rw[z0c];simp[refs],TrOk.snoc (fun y hy=>keep (h.to y hy)) (keep hp),h.l0,h.t0,h.nl⟩
structure WkN (c:Nat)(ws ks:List Wr)(qs:List Pr):Prop where
 si:SI c c [] (wl ws) (wl ks) (pdat qs)
 vl:∀ v∈wl ks,v.length<=28
 sz:ks.length+Pot c (wl ws) (pdat qs)<=ws.length+pot c (wl ws)
 occ:OcAll (wl ws) (wl ks)
 ti:Till c (wl ws,[]) (wl ks,pdat qs)
 pf:∃ us,wl ks=wl ws++us
def wkM (c:Nat)(qs:List Pr):Nat:=nk c (pdat qs)*(c+2)+(c-qs.length)
theorem y6u (qs:List Pr)(p:Addr)(x:Int)(o:Option Int):pdat (qs++[(p,x,o)])=pdat qs++[(x,o)]:=by simp[pdat]
theorem WkN.force {c:Nat}{ws ks:List Wr}{qs:List Pr}(h:WkN c ws ks qs){x:Int}{i:Nat}(hn:z1y (wl ks) (lets qs)=some (x,i))(p:Addr):WkN c ws ks (qs++[(p,x,some (i:Int))])/\wkM c (qs++[(p,x,some (i:Int))])<wkM c qs:=by
 have hn':z1y (wl ks) ((pdat qs).map (·.1))=some (x,i):=by rw[z5m];exact hn
 have si:=h.si.force hn'
 have e:=y6u qs p x (some (i:Int))
 have hk:nk c (pdat qs++[(x,some (i:Int))])<=nk c (pdat qs):=x1h
 have hm:nk c (pdat qs++[(x,some (i:Int))])*(c+2)<=nk c (pdat qs)*(c+2):=Nat.mul_le_mul_right _ hk
 have hl:=si.len
 have hp:=y5y (c:=c) (G:=wl ws) si.dis si.nz
 have hsz:=h.sz
 refine⟨⟨by rw[e];exact si,h.vl,by rw[e];omega,h.occ,by rw[e];exact fun y hy=>h.ti y (.force hn' hy),h.pf⟩,?_⟩
 have hl1:qs.length+1<=c:=by simpa[pdat] using hl
 unfold wkM
 rw[e,List.length_append,List.length_singleton]
 omega
theorem WkN.guess {c:Nat}{ws ks:List Wr}{qs:List Pr}(h:WkN c ws ks qs){k:Nat}(hb:z0s (wl ks) (lets qs)=none)(hn:z1y (wl ks) (lets qs)=none)(hf:Free c ((lets qs).map absI) (some k))(p:Addr):WkN c ws ks (qs++[(p,(k:Int),none)])/\wkM c (qs++[(p,(k:Int),none)])<wkM c qs:=by
 rw[←z5m]at hb hn hf
 obtain⟨f1,f2,f3,f4⟩:=hf.some k rfl
 have hn1:¬ (k:Int)∈(pdat qs).map (·.1):=fun z=>f3 ((z2m (by omega)).mpr (.inl z))
 have hn2:¬ -(k:Int)∈(pdat qs).map (·.1):=fun z=>f3 ((z2m (by omega)).mpr (.inr z))
 have below:∀ m:Nat,1<=m->m<k->∃ y∈(pdat qs).map (·.1),y.natAbs=m:=fun m h1 h2=>by
  rcases (z2m (by omega)).mp (f4 m h1 h2) with z|z
  ·exact⟨_,z,by omega⟩
  ·exact⟨_,z,by omega⟩
 have si:=h.si.guess (l:=(k:Int)) (by omega) (by omega) (by omega) hn1 hn2 (.inr ⟨by omega,(fun _ he=>nomatch he),fun m h1 h2=>below m h1 (by omega)⟩)
 have e:=y6u qs p (k:Int) none
 have hk:nk c (pdat qs++[((k:Int),none)])<=nk c (pdat qs):=x1h
 have hm:nk c (pdat qs++[((k:Int),none)])*(c+2)<=nk c (pdat qs)*(c+2):=Nat.mul_le_mul_right _ hk
 have hl:=si.len
 have hp:=y5y (c:=c) (G:=wl ws) si.dis si.nz
 have hsz:=h.sz
 refine⟨⟨by rw[e];exact si,h.vl,by rw[e];omega,h.occ,by rw[e];exact h.ti.guess hb hn hf,h.pf⟩,?_⟩
 have hl1:qs.length+1<=c:=by simpa[pdat] using hl
 unfold wkM
 rw[e,List.length_append,List.length_singleton]
 omega
theorem WkN.back {c:Nat}{ws ks:List Wr}{qs:List Pr}(h:WkN c ws ks qs)(hc:c<=28){i:Nat}(hb:z0s (wl ks) (lets qs)=some i){go:List Pd×List Stp}(hgo:goB (wl ks) (pdat qs).reverse (i:Int) ((wl ks).getD i []) (ks.length:Int)=go){ks':List Wr}(ewl:wl ks'=wl ks++wlSt go.2) :
 (go.1=[]->Ends c (wl ws,[]) (wl ks',[])/\[]∈wl ks')/\∀ qs':List Pr,pdat qs'=go.1.reverse->go.1≠[]->WkN c ws ks' qs'/\wkM c qs'<wkM c qs:=by
 rw[←z5m]at hb
 obtain⟨hi,hcov⟩:=y0n hb
 have ei:((i:Int)).toNat=i:=by omega
 have hwm:(wl ks).getD i []∈wl ks:=by have:=z7h (W:=wl ks) (j:=(i:Int)) (by omega) (by omega);rwa [ei]at this
 have hgo':goB (wl ks) (pdat qs).reverse (i:Int) ((wl ks).getD i []) ((wl ks).length:Int)=go:=by rw[z1h];exact hgo
 obtain⟨b1,b2,b3,b4,b5,b6⟩:=h.si.back (go:=go) (n:=(i:Int)) (by omega) (by omega) (by rw[ei];exact hcov) (by rw[ei];exact hgo')
 obtain⟨po1,po2⟩:=x2c (c:=c) h.occ h.si.tv (GoodE.nil h.si.good).2 (h.occ _ hwm) hgo
 have hsm:=z6v (P:=fun y=>oc (wl ws) y=true) (W:=wl ks) h.occ (pdat qs).reverse (i:Int) ((wl ks).getD i []) (ks.length:Int) h.si.tv hcov (h.occ _ hwm)
 rw[hgo]at hsm
 refine⟨fun hg=>⟨by rw[ewl];exact h.ti.stopB hb hgo' hg,by rw[ewl];exact (b5 hg).2.1⟩,fun qs' ep hg=>?_⟩
 obtain⟨c1,c2,c3,c4⟩:=b6 hg
 have po2:=po2 hg
 have ti:=h.ti.back hb hgo' hg
 rw[←ep]at c3 c4 po2 ti
 rw[←ewl]at c3 ti
 have hl:=h.si.len
 have hlk:ks'.length=ks.length+go.2.length:=by rw[←z1h,ewl,List.length_append,z1h,y1h]
 have hsz:=h.sz
 refine⟨⟨c3,fun v hv=>?_,by omega,fun v hv=>?_,ti,?_⟩,?_⟩
 ·rw[ewl]at hv
  rcases mApp hv with z|z
  ·exact h.vl v z
  ·unfold wlSt at z
   obtain⟨t,ht,rfl⟩:=List.mem_map.mp z
   have:=b2 t ht
   omega
 ·rw[ewl]at hv
  rcases mApp hv with z|z
  ·exact h.occ v z
  ·unfold wlSt at z
   obtain⟨t,ht,rfl⟩:=List.mem_map.mp z
   exact (hsm t ht).2
 ·obtain⟨us,eu⟩:=h.pf
  exact⟨us++wlSt go.2,by rw[ewl,eu,List.append_assoc]⟩
 ·unfold wkM
  have h1:(nk c (pdat qs')+1)*(c+2)<=nk c (pdat qs)*(c+2):=Nat.mul_le_mul_right _ c4
  rw[Nat.succ_mul]at h1
  omega
section
variable {P:Program}{w:World}{K:W.Frag}{mg:Str->Option Value}{base:Heap}
theorem y2i (B:Blt mg)(c_l_broken_at:Cal P w K mg base 2 "_law_broken_at" z2i (z9k K))(c_l_next:Cal P w K mg base 3 "_law_next" z7e (y8s K))(c_l_back:Cal P w K mg base 3 "_law_back" z7g (y8t K))(Df:Def K mg "_law_worked_out" z1v z3b):Cal P w K mg base 4 "_law_worked_out" z3b (x0i K):=by
 refine Df.cal sc_l_worked_out (fun vs H Q E h=>?_) (fun f cdv A outer s H vs Q E hr h=>?_)
 ·obtain⟨c,a,ws,rfl,_⟩:=h;rfl
 ·obtain⟨c,a,ws,rfl,hS,hW,hc,hz,hpot,hv,hlett,qy,qn⟩:=h
  refine⟨_,(z0b (z0t (i:=2) sc_l_worked_out.nd rfl (Or.inl rfl) (z4n z3r (by rfl) B.list_ z3y (z0a (pv 1) z0d)))
 (z0b (z0t (i:=3) sc_l_worked_out.nd rfl (Or.inl rfl) (z1g z0d))
 (z0e (z7a PassesOwn.never (z2a pe_bl)
 (z0b (z0t (i:=4) sc_l_worked_out.nd rfl (Or.inr rfl) (z4p (fvn:=[]) (js:=[]) rfl (z1d (pv 3)) .nil ⟨by decide +kernel,rfl,by decide +kernel,rfl,by decide +kernel,by decide +kernel⟩ (fun _ _ _ _ _=>z7w) (fun _ _ _ _ _=>(pe_ix (x6a (K:=K) rfl) (pv 0) z0i (fun _ _=>rfl)))))
 (z0b (z0t (i:=5) sc_l_worked_out.nd rfl (Or.inl rfl) (z0v c_l_next hr (by decide) (z0a (pv 2) (z0a (pv 4) z0d))))
 (z0b (z0t (i:=6) sc_l_worked_out.nd rfl (Or.inl rfl) (z0v c_l_broken_at hr (by decide) (z0a (pv 2) (z0a (pv 4) z0d))))
 (z0e (ps_if (z0k op_ge (pv 6) z0i (z0q _))
 (z0b (z0t (i:=3) sc_l_worked_out.nd rfl (Or.inl rfl) (pe_ix ix_tup (z0v c_l_back hr (by decide) (z0a (pv 2) (z0a (pv 3) (z0a (pv 6) z0d)))) z0i (fun _ _=>rfl)))
 (z0e (ps_if (z0k (y2h (hu0 hr)) (pv 3) (z1g z0d) (z0q _))
 (z0e (z0p (z5c (z0a (z7c z9b (pv 2) (z7x (z0n z0l (by rfl) B.len_ PySem.boot_len (z0a (pv 1) z0d))) y0f) (z0a z3d z0d)))))
 z0o)))
 (z0e (ps_if (z0k y2f (pv 5) z3d (z0q _))
 (z0e (z0z (pe_bm PySem.F.plainAttrs_list PySem.F.slot_list_append PySem.F.type_list_append z1f (pv 3) (z0a (pv 5) z0d))))
 (z0e (ps_if (z0k op_eq (z0n z0l (by rfl) B.len_ PySem.boot_len (z0a (pv 3) z0d)) (pv 0) (z0q _))
 (z0e (z0p (z5c (z0a z3d (z0a (z4p (fvn:=["_law_letters"]) (js:=[4]) rfl (z7y (by rfl) B.range_ (z0a z0i (z0a (pe_op z6o (pv 0) z0i) z0d))) (.cons rfl (by first | exact .inl rfl | exact .inr rfl) rfl .nil) ⟨by decide +kernel,rfl,by decide +kernel,rfl,by decide +kernel,by decide +kernel⟩ (fun _ _ _ _ _=>z7w) (fun _ _ _ _ _=>(z4m (y3x (K:=K) rfl) (pv 0) (pv 1) (by with_unfolding_all rfl)))) z0d)))))
 (z0b (z9c (i:=7) sc_l_worked_out.nd rfl (Or.inl rfl) (fvn:=["_law_letters"]) (js:=[4]) rfl (z7y (by rfl) B.range_ (z0a z0i (z0a (pe_op z6o (pv 0) z0i) z0d))) (.cons rfl (by first | exact .inl rfl | exact .inr rfl) rfl .nil) ⟨by decide +kernel,rfl,by decide +kernel,rfl,by decide +kernel,by decide +kernel⟩ (fun _ _ _ _ _=>(z5j (z0k (z9r (K:=K) rfl) (pv 0) (pv 1) (by with_unfolding_all rfl)))) (fun _ _ _ _ _=>(pv 0)))
 (z0e (z0z (pe_bm PySem.F.plainAttrs_list PySem.F.slot_list_append PySem.F.type_list_append z1f (pv 3) (z0a (z5c (z0a (pe_ix ix_list (z4p (fvn:=["_law_letters"]) (js:=[4]) rfl (z1d (pv 7)) (.cons rfl (by first | exact .inl rfl | exact .inr rfl) rfl .nil) ⟨by decide +kernel,rfl,by decide +kernel,rfl,by decide +kernel,by decide +kernel⟩ (fun _ _ _ _ _=>(z5j (z0k (z9r (K:=K) rfl) (pe_un z1z (pv 0)) (pv 1) (by with_unfolding_all rfl)))) (fun _ _ _ _ _=>(pv 0))) z0i (fun _ _=>rfl)) (z0a z3d z0d))) z0d)))))))))))))))))),?_⟩
  refine⟨_,rfl,a,_,rfl,.inl (qLo hS),fun lk hlk=>?_⟩
  have s1:Same H (upd H lk (.lst (wrefs ws))):=(smR H).upd hlk
  have g1:upd H lk (.lst (wrefs ws)) lk=some (.lst (wrefs ws)):=z0c
  generalize upd H lk (.lst (wrefs ws))=H1 at s1 g1
  refine⟨by decide,fun lt hlt=>?_⟩
  have s2:Same H1 (upd H1 lt (.lst [])):=(smR H1).upd hlt
  have g2:upd H1 lt (.lst []) lt=some (.lst []):=z0c
  generalize upd H1 lt (.lst [])=H2 at s2 g2
  have hltH:H lt=none:=s1.free hlt
  have I0:WkI c ws lk lt ws [] H H2:=⟨s1.trans s2,s2 _ _ g1,hW.mono (s1.trans s2),fun r hr=>⟨z0f (hW r hr) hlk,z0f (hW r hr) hltH⟩,g2,(fun _ z=>nomatch z),hlk,hltH,z0f g1 hlt⟩
  have N0:WkN c ws ws []:=⟨SI.zero (fun _ h=>h) (fun _ h=>h) hlett,hv,Nat.le_refl _,fun v hv y hy=>oc_iff.mpr ⟨v,hv,hy⟩,fun _ h=>h,[],by simp⟩
  refine⟨fun m σ Hx=>∃ (lt:Addr) (ks:List Wr) (qs:List Pr) (o4 o5 o6 o7:Option V),σ=[some (.int c),some (.ref a),some (.ref lk),some (.ref lt),o4,o5,o6,o7]/\WkI c ws lk lt ks qs H Hx/\WkN c ws ks qs/\wkM c qs<=m,
   ⟨_,lt,ws,[],none,none,none,none,rfl,I0,N0,Nat.le_refl _⟩,?_⟩
  rintro m σ Hx ⟨lt,ks,qs,o4,o5,o6,o7,rfl,I,N,hm⟩
  refine⟨_,rfl,iteT ?_⟩
  refine⟨_,fun σ' H' h=>h,?_⟩
  have hql:qs.length<=c:=by have:=N.si.len;simpa[pdat] using this
  have hsz:=N.sz
  refine z7l (t:=tAsg (tComp _ _ _ _) _) (z7u (z1r (K:=K) ?_))
  refine⟨_,rfl,lt,rfl,⟨_,qLo I.ht⟩,?_⟩
  refine z3q (xs:=qs) (g:=fun q=>V.ref q.1) (fun _=>true) (fun q=>V.int q.2.1) (z1m (by omega)) (qLo I.ht) (fun x _ R hR=>hR) (fun x hx _ R hR=>⟨_,rfl,x.1,_,_,_,rfl,rfl,qTo (I.to x hx),rfl,hR⟩) (fun ll hll=>?_)
  have el:(qs.filter fun _=>true).map (fun q=>V.int q.2.1)=(lets qs).map V.int:=by rw[z9v];simp[lets]
  rw[el]
  have s3:Same Hx (upd Hx ll (.lst ((lets qs).map V.int))):=(smR Hx).upd hll
  have g3:upd Hx ll (.lst ((lets qs).map V.int)) ll=some (.lst ((lets qs).map V.int)):=z0c
  generalize upd Hx ll (.lst ((lets qs).map V.int))=H3 at s3 g3
  have I:=I.same s3
  have eT:lets qs=(pdat qs).map (·.1):=(z5m qs).symm
  have hD:Dis (lets qs):=by rw[eT];exact N.si.dis
  have hB:∀ y∈lets qs,y≠0/\y.natAbs<=c:=fun y hy=>by
   rw[eT]at hy
   obtain⟨q,hq,rfl⟩:=List.mem_map.mp hy
   exact N.si.nz q hq
  have hpl:∀ p∈ks,p.2.length<=100000:=fun p hp=>by have:=N.vl p.2 (List.mem_map.mpr ⟨p,hp,rfl⟩);omega
  have hkl:ks.length<=16680000:=by omega
  dsimp only[gName]
  refine⟨_,rfl,_,rfl,lk,ll,ks,lets qs,rfl,qLo I.hk,I.ok,qLo g3,by omega,hpl,fun hn H4 s4=>?_,fun x i hn p H4 hp s4 h4=>?_⟩
  ·have I:=I.same s4
   refine⟨_,rfl,_,rfl,lk,ll,ks,lets qs,rfl,qLo I.hk,I.ok,qLo (s4 _ _ g3),by omega,hpl,fun H5 s5=>?_⟩
   have I:=I.same s5
   have g5:=s5 _ _ (s4 _ _ g3)
   cases hb:z0s (wl ks) (lets qs) with
   | some i =>
    have hb':=hb
    rw[eT]at hb'
    obtain⟨hi,hcov⟩:=y0n hb'
    have hi2:i<ks.length:=by rw[←z1h];exact hi
    have i0:(0:Int)<=bI (some i):=by show (0:Int)<=(i:Int);omega
    refine⟨_,rfl,_,_,rfl,rfl,_,rfl,ite2 (fun _=>?_) (fun z=>absurd (decide_eq_true i0) z)⟩
    refine⟨_,rfl,_,rfl,_,rfl,lk,lt,ks,qs,(i:Int),rfl,I.nl,I.hk,I.ok,fun r hr=>(I.nw r hr).1,I.ht,I.to,by omega,by omega,by omega,by omega,fun v hv=>⟨by have:=N.vl v hv;omega,fun x hx=>by have:=N.si.lett v hv x hx;omega⟩,N.si.tv,hcov,fun t t1 t2 qs' ss ks' H6 ht ht1 ht2 sx h6t h6q hto h6s hss h6k hok hna ewl hnw ep es=>?_⟩
    have ei:((i:Int)).toNat=i:=by omega
    rw[ei]at ep es
    generalize hgo:goB (wl ks) (pdat qs).reverse (i:Int) ((wl ks).getD i []) (ks.length:Int)=go at ep es
    rw[es]at ewl
    obtain⟨b1,b2⟩:=N.back hc hb hgo ewl
    have s06:Same H H6:=fun b o hbo=>sx b o (fun z=>by rw[z,I.l0]at hbo;cases hbo) (I.sm b o hbo)
    have ht1H:H t1=none:=I.sm.free ht1
    refine⟨t,_,_,_,rfl,rfl,qTo h6t,rfl,?_⟩
    have I6:WkI c ws lk t1 ks' qs' H H6:=⟨s06,h6k,hok,hna,h6q,hto,I.l0,ht1H,fun z=>by rw[←z,I.hk]at ht1;cases ht1⟩
    refine⟨_,rfl,by decide,fun pe hpe=>?_⟩
    have s7:Same H6 (upd H6 pe (.lst [])):=(smR H6).upd hpe
    have g7:upd H6 pe (.lst []) pe=some (.lst []):=z0c
    generalize upd H6 pe (.lst [])=H7 at s7 g7
    have I7:=I6.same s7
    refine .inl ⟨(refs qs').isEmpty,⟨t1,pe,refs qs',[],rfl,rfl,qLo I7.ht,qLo g7,.inl ⟨rfl,rfl⟩⟩,_,rfl,?_⟩
    by_cases hg:go.1=[]
    ·have eq':qs'=[]:=by
      rw[hg]at ep
      have:=congrArg List.length ep
      exact List.length_eq_zero_iff.mp (by simpa[pdat] using this)
     subst eq'
     refine iteT ?_
     obtain⟨e1,e2⟩:=b1 hg
     obtain⟨us0,eu0⟩:=N.pf
     have eus:wl ks'=wl ws++(us0++wlSt go.2):=by rw[ewl,eu0,List.append_assoc]
     have edr:wl ws++wl (ks'.drop ws.length)=wl ks':=by
      have:wl (ks'.drop ws.length)=(wl ks').drop (wl ws).length:=by rw[z1h];simp[wl,List.map_drop]
      rw[this,eus,List.drop_left]
     refine⟨_,rfl,_,rfl,a,_,rfl,.inl (qLo (I7.sm _ _ hS)),_,rfl,lk,_,rfl,qLo I7.hk,fun pz hpz=>?_⟩
     have ec:cutV (wrefs ks') (some (((wrefs ws).length:Nat):Int)) none=wrefs (ks'.drop ws.length):=by rw[y5u,z0w];simp[wrefs,List.map_drop]
     rw[ec]
     have s8:Same H7 (upd H7 pz (.lst (wrefs (ks'.drop ws.length)))):=(smR H7).upd hpz
     have g8:upd H7 pz (.lst (wrefs (ks'.drop ws.length))) pz=some (.lst (wrefs (ks'.drop ws.length))):=z0c
     generalize upd H7 pz (.lst (wrefs (ks'.drop ws.length)))=H8 at s8 g8
     refine⟨len2,fun t8 ht8=>?_⟩
     have s9:Same H8 (upd H8 t8 (.tup [.ref pz,.non])):=(smR H8).upd ht8
     exact qn t8 pz (ks'.drop ws.length) _ (I7.sm.trans (s8.trans s9)) z0c (s9 _ _ g8) (fun r hr=>s9 _ _ (s8 _ _ (I7.ok r (List.mem_of_mem_drop hr)))) (by rw[edr];exact e1) (by rw[edr];exact e2)
    ·have hne:qs'≠[]:=fun z=>by
      rw[z]at ep
      have:=congrArg List.length ep
      exact hg (List.length_eq_zero_iff.mp (by simpa[pdat] using this.symm))
     obtain⟨N7,hm7⟩:=b2 qs' ep hg
     have het:(refs qs').isEmpty=false:=by
      cases h:qs' with
      | nil=>exact absurd h hne
      | cons u r=>rfl
     rw[het]
     refine iteF ?_
     exact⟨_,Nat.lt_of_lt_of_le hm7 hm,t1,ks',qs',_,_,_,_,rfl,I7,N7,Nat.le_refl _⟩
   | none =>
    refine⟨_,rfl,_,_,rfl,rfl,_,rfl,iteF ?_⟩
    refine⟨_,rfl,rfl,_,rfl,iteF ?_⟩
    refine⟨_,rfl,lt,_,rfl,.inl (qLo I.ht),_,rfl,rfl,_,rfl,?_⟩
    have hrl:(refs qs).length=qs.length:=z5l qs
    have hll:(lets qs).length=qs.length:=by simp[lets]
    refine ite2 (fun ce=>?_) (fun ce=>?_)
    ·have ec:(lets qs).length=c:=by
      have:=of_decide_eq_true ce
      injection this with this
      omega
     have hfree:=x6m hD hB ec
     have hbP:=hb
     have hnP:=hn
     have hfP:=hfree
     rw[eT]at hbP hnP hfP
     dsimp only[tRet,tTup,tCons,tC]
     refine z7p ?_
     refine⟨_,rfl,_,_,rfl,rfl,_,_,rfl,⟨by omega,by omega,by omega,by omega⟩,?_⟩
     have en:((c:Int)+1-1).toNat=c:=by omega
     rw[en]
     refine z6w (fun _=>true) (fun i=>V.bl (decide ((1+(i:Int))∈lets qs))) (z1m (by omega)) (fun i hi R hR=>hR) (fun i hi _ R hR=>?_) (fun l6 hl6=>?_)
     ·refine⟨_,rfl,_,rfl,ll,_,rfl,.inl (qLo g5),rfl,z1t _,?_⟩
      rw[if_neg Bool.false_ne_true,z8p]
      exact hR
     have ef:((List.range c).filter fun _=>true).map (fun i:Nat=>V.bl (decide ((1+(i:Int))∈lets qs)))=(setT c ((pdat qs).map (·.1))).map V.bl:=by rw[z9v,←eT];simp[setT]
     rw[ef]
     have s6:Same H5 (upd H5 l6 (.lst ((setT c ((pdat qs).map (·.1))).map V.bl))):=(smR H5).upd hl6
     have g6:upd H5 l6 (.lst ((setT c ((pdat qs).map (·.1))).map V.bl)) l6=some (.lst ((setT c ((pdat qs).map (·.1))).map V.bl)):=z0c
     generalize upd H5 l6 (.lst ((setT c ((pdat qs).map (·.1))).map V.bl))=H6 at s6 g6
     refine⟨len2,fun t7 ht7=>?_⟩
     have s7:Same H6 (upd H6 t7 (.tup [.non,.ref l6])):=(smR H6).upd ht7
     exact qy t7 l6 (wl ks) (pdat qs) _ (I.sm.trans (s6.trans s7)) z0c (s7 _ _ g6) (N.ti.stopY hbP hnP hfP) hbP
    ·have nc:(lets qs).length≠c:=fun z=>ce (decide_eq_true (by rw[hrl,←hll,z]))
     obtain⟨k,r,efl,hfree⟩:=x3h hD hB nc
     refine z7l (t:=tAsg (tComp _ _ _ _) _) (z7u (z7p ?_))
     refine⟨_,rfl,_,_,rfl,rfl,_,_,rfl,⟨by omega,by omega,by omega,by omega⟩,?_⟩
     have en:((c:Int)+1-1).toNat=c:=by omega
     rw[en]
     refine z6w (fun i=>!decide ((1+(i:Int))∈lets qs)) (fun i=>V.int (1+(i:Int))) (z1m (by omega)) (fun i hi R hR=>?_) (fun i hi _ R hR=>⟨_,rfl,hR⟩) (fun l6 hl6=>?_)
     ·refine⟨_,rfl,_,rfl,ll,_,rfl,.inl (qLo g5),rfl,z1t _,_,rfl,?_⟩
      rw[if_pos rfl,z8p]
      exact hR
     have e6:(((List.range c).filter fun i:Nat=>!decide ((1+(i:Int))∈lets qs)).map fun i:Nat=>V.int (1+(i:Int)))=(((List.range c).filter fun i:Nat=>!decide ((1+(i:Int))∈lets qs)).map fun i:Nat=>(1+(i:Int))).map V.int:=by rw[List.map_map];rfl
     rw[e6]
     generalize hfr:(((List.range c).filter fun i:Nat=>!decide ((1+(i:Int))∈lets qs)).map fun i:Nat=>(1+(i:Int)))=fs
     have efs:freeL c (lets qs)=fs.filter fun y=>!decide (-y∈lets qs):=by rw[←hfr];rfl
     have hfsl:fs.length<=c:=by
      rw[←hfr,List.length_map]
      have:=List.length_filter_le (fun i:Nat=>!decide ((1+(i:Int))∈lets qs)) (List.range c)
      rwa [List.length_range]at this
     have s6:Same H5 (upd H5 l6 (.lst (fs.map V.int))):=(smR H5).upd hl6
     have g6:upd H5 l6 (.lst (fs.map V.int)) l6=some (.lst (fs.map V.int)):=z0c
     generalize upd H5 l6 (.lst (fs.map V.int))=H6 at s6 g6
     have I6:=I.same s6
     dsimp only[gName]
     refine⟨_,rfl,.inl ⟨rfl,_,qLo I6.ht⟩,?_⟩
     dsimp only[tTup,tCons,tOp]
     refine z1r (K:=K) ⟨_,rfl,l6,rfl,⟨_,qLo g6⟩,?_⟩
     refine z3q (xs:=fs) (g:=V.int) (fun y=>!decide (-y∈lets qs)) V.int (z1m (by omega)) (qLo g6) (fun y _ R hR=>?_) (fun y _ _ R hR=>⟨_,rfl,hR⟩) (fun l7 hl7=>?_)
     ·refine⟨_,rfl,_,rfl,_,rfl,ll,_,rfl,.inl (qLo (s6 _ _ g5)),rfl,z1t _,_,rfl,?_⟩
      rw[if_pos rfl,z8p]
      exact hR
     rw[←efs,efl]
     have s7:Same H6 (upd H6 l7 (.lst (((k:Int)::r).map V.int))):=(smR H6).upd hl7
     have g7:upd H6 l7 (.lst (((k:Int)::r).map V.int)) l7=some (.lst (((k:Int)::r).map V.int)):=z0c
     generalize upd H6 l7 (.lst (((k:Int)::r).map V.int))=H7 at s7 g7
     have I7:=I6.same s7
     refine⟨l7,_,_,.int k,rfl,rfl,qLo g7,z3z (show (((k:Int)::r).map V.int)[0]?=some (.int k) from rfl),len2,fun p8 hp8=>?_⟩
     have s8:Same H7 (upd H7 p8 (.tup [.int k,.non])):=(smR H7).upd hp8
     have g8:upd H7 p8 (.tup [.int k,.non]) p8=some (.tup [.int k,wv none]):=z0c
     generalize upd H7 p8 (.tup [.int k,.non])=H8 at s8 g8
     have I8:=I7.same s8
     refine⟨lt,_,_,rfl,rfl,I8.ht,z2r (by omega),?_⟩
     obtain⟨N9,hm9⟩:=N.guess hb hn hfree p8
     exact⟨_,Nat.lt_of_lt_of_le hm9 hm,lt,ks,_,_,_,_,_,rfl,I8.add g8,N9,Nat.le_refl _⟩
  ·have hb:=z5u hn
   have I:=I.same s4
   refine⟨_,rfl,_,rfl,lk,ll,ks,lets qs,rfl,qLo I.hk,I.ok,qLo (s4 _ _ g3),by omega,hpl,fun H5 s5=>?_⟩
   have I:=I.same s5
   rw[hb]
   refine⟨_,rfl,_,_,rfl,rfl,_,rfl,iteF ?_⟩
   refine⟨_,rfl,rfl,_,rfl,iteT ?_⟩
   refine⟨_,rfl,.inl ⟨rfl,_,qLo I.ht⟩,_,rfl,lt,_,_,rfl,rfl,I.ht,z2r (by rw[z5l];omega),?_⟩
   obtain⟨N7,hm7⟩:=N.force hn p
   exact⟨_,Nat.lt_of_lt_of_le hm7 hm,lt,ks,_,_,_,_,_,rfl,I.add (s5 _ _ h4),N7,Nat.le_refl _⟩
end
def sgnS (c:Nat)(cell:Int):List Nat:=(List.range 3).map fun j:Nat=>(1+(cell+(0+(j:Int))) % (c:Int)).natAbs
def sgnV (i:Nat):List Int:=[1-2*((i:Int) % 2),1-2*((i:Int) / 2 % 2),1-2*((i:Int) / 4)]
def sgnW (c:Nat)(cell:Int)(i:Nat):List Int:=(List.range 3).map fun j:Nat=>(1+(cell+(0+(j:Int))) % (c:Int))*(sgnV i).getD j 0
theorem x7n {i j:Nat}(hi:i<8)(hj:j<3):(sgnV i).getD j 0=1∨(sgnV i).getD j 0=-1:=by
 have h:j=0∨j=1∨j=2:=by omega
 rcases h with rfl|rfl | rfl
 ·show 1-2*((i:Int) % 2)=1∨1-2*((i:Int) % 2)=-1;omega
 ·show 1-2*((i:Int) / 2 % 2)=1∨1-2*((i:Int) / 2 % 2)=-1;omega
 ·show 1-2*((i:Int) / 4)=1∨1-2*((i:Int) / 4)=-1;omega
theorem w0a {c:Nat}{cell:Int}{i:Nat}(hc:0<c)(hi:i<8):∀ y∈sgnW c cell i,y≠0/\y.natAbs<=c/\y.natAbs∈sgnS c cell:=fun y hy=>by
 unfold sgnW at hy
 obtain⟨j,hj,rfl⟩:=List.mem_map.mp hy
 have hj3:=List.mem_range.mp hj
 have h1:=Int.emod_nonneg (cell+(0+(j:Int))) (show (c:Int)≠0 by omega)
 have h2:=Int.emod_lt_of_pos (cell+(0+(j:Int))) (show (0:Int)<(c:Int) by omega)
 have hm:(1+(cell+(0+(j:Int))) % (c:Int)).natAbs∈sgnS c cell:=List.mem_map.mpr ⟨j,hj,rfl⟩
 rcases x7n hi hj3 with e|e<;>rw[e]
 ·rw[Int.mul_one];exact⟨by omega,by omega,hm⟩
 ·rw[Int.mul_neg,Int.mul_one,Int.natAbs_neg];exact⟨by omega,by omega,hm⟩
def x3v (K:W.Frag):Sp:=fun vs H Q _=>∃ (c:Nat) (cell:Int),vs=[.int c,.int cell]/\0<c/\c<=1000 /\
 ∀ (l:Addr) (ws:List Wr) (H':Hp),H l=none->Same H H'->H' l=some (.lst (wrefs ws))->WsOk H' ws->(∀ r∈ws,r.1≠l)->ws.length=8->(∀ r∈ws,r.2.length=3/\∀ y∈r.2,y≠0/\y.natAbs<=c/\y.natAbs∈sgnS c cell)->Q (.ref l) H'
section
variable {P:Program}{w:World}{K:W.Frag}{mg:Str->Option Value}{base:Heap}
theorem y3q (B:Blt mg)(Df:Def K mg "_law_all_signs" z2g z3v):Cal P w K mg base 1 "_law_all_signs" z3v (x3v K):=by
 refine Df.cal sc_l_all_signs (fun vs H Q E h=>?_) (fun f cdv A outer s H vs Q E hr h=>?_)
 ·obtain⟨c,cell,rfl,_⟩:=h;rfl
 ·obtain⟨c,cell,rfl,hc0,hc,q⟩:=h
  refine⟨_,(z0b (z0t (i:=2) sc_l_all_signs.nd rfl (Or.inl rfl) (z1g z0d))
 (z0b (z3a PassesOwn.never rfl (z5b (by rfl) B.range_ (z0a z0i z0d)) (z1c (i:=3) sc_l_all_signs.nd rfl (Or.inl rfl))
 (z0b (z0t (i:=4) sc_l_all_signs.nd rfl (Or.inr rfl) (z1g (z0a (pe_op y2e z0i (pe_op y0w z0i (pe_op z4k (pv 3) z0i))) (z0a (pe_op y2e z0i (pe_op y0w z0i (pe_op z4k (pe_op z5t (pv 3) z0i) z0i))) (z0a (pe_op y2e z0i (pe_op y0w z0i (pe_op z5t (pv 3) z0i))) z0d)))))
 (z0b (z9c (i:=5) sc_l_all_signs.nd rfl (Or.inl rfl) (fvn:=["_law_signs","_law_count","_law_cell"]) (js:=[4,0,1]) rfl (z5b (by rfl) B.range_ (z0a z0i z0d)) (.cons rfl (by first | exact .inl rfl | exact .inr rfl) rfl (.cons rfl (by first | exact .inl rfl | exact .inr rfl) rfl (.cons rfl (by first | exact .inl rfl | exact .inr rfl) rfl .nil))) ⟨by decide +kernel,rfl,by decide +kernel,rfl,by decide +kernel,by decide +kernel⟩ (fun _ _ _ _ _=>z7w) (fun _ _ _ _ _=>(pe_op y0w (pe_op z6o z0i (pe_op z4k (pe_op z6o (pv 3) (pv 0)) (pv 2))) (pe_ix (y5o (K:=K) rfl) (pv 1) (pv 0) (fun _ _=>rfl)))))
 (z0e (z0z (pe_bm PySem.F.plainAttrs_list PySem.F.slot_list_append PySem.F.type_list_append z1f (pv 2) (z0a (pe_op z7n (z7c z9b (pv 5) (z7x (pe_op z4k (pv 3) z0i)) y0f) (z7c z9b (pv 5) y0f (z7x (pe_op z4k (pv 3) z0i)))) z0d)))))))
 (z0b (z0t (i:=6) sc_l_all_signs.nd rfl (Or.inl rfl) (pe_op z4k (pe_op z5t (pv 1) z0i) z0i))
 (z0e (z0p (pe_op z7n (z7c z9b (pv 2) (z7x (pv 6)) y0f) (z7c z9b (pv 2) y0f (z7x (pv 6))))))))),?_⟩
  refine⟨by decide,fun lw hlw=>?_⟩
  have s1:Same H (upd H lw (.lst [])):=(smR H).upd hlw
  have g1:upd H lw (.lst []) lw=some (.lst []):=z0c
  generalize upd H lw (.lst [])=H1 at s1 g1
  refine⟨(8:Int),rfl,by decide,by decide,?_⟩
  have e8:((8:Int)).toNat=8:=by decide
  rw[e8]
  refine z5h (fun i σ Hx=>∃ (us:List Wr) (o3 o4 o5:Option V),σ=[some (.int c),some (.int cell),some (.ref lw),o3,o4,o5,none]/\Same H Hx/\Hx lw=some (.lst (wrefs us))/\WsOk Hx us/\(∀ r∈us,r.1≠lw)/\us.length=i/\∀ r∈us,r.2.length=3/\∀ y∈r.2,y≠0/\y.natAbs<=c/\y.natAbs∈sgnS c cell)
   ⟨[],none,none,none,rfl,s1,g1,(fun _ h=>nomatch h),(fun _ h=>nomatch h),rfl,(fun _ h=>nomatch h)⟩ ?_ ?_
  ·rintro i σ Hx hi ⟨us,o3,o4,o5,rfl,sx,hx,hO,hn,hl,hp⟩
   have e0:(0+(i:Int))=(i:Int):=by omega
   refine⟨_,rfl,_,_,rfl,rfl,(by show (0:Int)<2;decide),_,_,rfl,rfl,.inl ⟨by decide,by decide⟩,_,_,rfl,rfl,_,rfl,_,_,rfl,rfl,⟨by decide,by decide⟩,_,_,rfl,rfl,(by show (0:Int)<2;decide),_,_,rfl,rfl,.inl ⟨by decide,by decide⟩,_,_,rfl,rfl,_,rfl,_,_,rfl,rfl,⟨by decide,by decide⟩,_,_,rfl,rfl,.inl ⟨by decide,by decide⟩,_,_,rfl,rfl,(by show (3:Nat)<=sizeLine;decide),fun p2 hp2=>?_⟩
   rw[e0]
   have s2:Same Hx (upd Hx p2 (.lst ((sgnV i).map V.int))):=(smR Hx).upd hp2
   have g2:upd Hx p2 (.lst ((sgnV i).map V.int)) p2=some (.lst ((sgnV i).map V.int)):=z0c
   have eup:upd Hx p2 (.lst [.int (1-2*((i:Int) % 2)),.int (1-2*((i:Int) / 2 % 2)),.int (1-2*((i:Int) / 4))])=upd Hx p2 (.lst ((sgnV i).map V.int)):=rfl
   rw[eup]
   generalize upd Hx p2 (.lst ((sgnV i).map V.int))=H2 at s2 g2
   dsimp only[gName]
   refine z7l (t:=tAsg (tComp _ _ _ _) _) (z7u (y6c ?_))
   refine⟨(3:Int),rfl,by decide,by decide,?_⟩
   have e3:((3:Int)).toNat=3:=by decide
   rw[e3]
   refine z6w (fun _=>true) (fun j=>V.int ((1+(cell+(0+(j:Int))) % (c:Int))*(sgnV i).getD j 0)) (z1m (by decide)) (fun j hj R hR=>hR) (fun j hj _ R hR=>?_) (fun l3 hl3=>?_)
   ·have h1:=Int.emod_nonneg (cell+(0+(j:Int))) (show (c:Int)≠0 by omega)
    have h2:=Int.emod_lt_of_pos (cell+(0+(j:Int))) (show (0:Int)<(c:Int) by omega)
    have ej:(0+(j:Int))=((j:Nat):Int):=by omega
    have hat:atI ((sgnV i).map V.int) (0+(j:Int))=some (.int ((sgnV i).getD j 0)):=by
     rw[ej]
     refine z3z ?_
     have hl3:j<(sgnV i).length:=hj
     rw[List.getElem?_map,List.getElem?_eq_getElem hl3]
     simp[List.getD,hl3]
    exact⟨_,rfl,_,rfl,_,_,rfl,rfl,_,rfl,_,_,rfl,rfl,(by show (0:Int)<(c:Int);omega),_,_,rfl,rfl,_,rfl,_,rfl,p2,_,_,_,rfl,rfl,qLo g2,hat,_,_,rfl,rfl,.inl ⟨by omega,by omega⟩,hR⟩
   have ew3:((List.range 3).filter fun _=>true).map (fun j:Nat=>V.int ((1+(cell+(0+(j:Int))) % (c:Int))*(sgnV i).getD j 0))=(sgnW c cell i).map V.int:=by rw[z9v];unfold sgnW;rw[List.map_map];rfl
   rw[ew3]
   have hwl3:(sgnW c cell i).length=3:=by simp[sgnW]
   have hwok:=w0a (cell:=cell) hc0 hi
   generalize sgnW c cell i=wv at hwl3 hwok
   have s3:Same H2 (upd H2 l3 (.lst (wv.map V.int))):=(smR H2).upd hl3
   have g3:upd H2 l3 (.lst (wv.map V.int)) l3=some (.lst (wv.map V.int)):=z0c
   generalize upd H2 l3 (.lst (wv.map V.int))=H3 at s3 g3
   dsimp only[gName]
   obtain⟨k,hk⟩:∃ k:Nat,(i:Int) % 3=(k:Int):=⟨((i:Int) % 3).toNat,by omega⟩
   refine⟨_,rfl,.inl ⟨rfl,_,qLo ((s2.trans s3) _ _ hx)⟩,_,rfl,_,rfl,_,_,rfl,rfl,(by show (0:Int)<3;decide),_,rfl,l3,_,rfl,qLo g3,fun p4 hp4=>?_⟩
   rw[hk]
   have ec4:cutV (wv.map V.int) (some (k:Int)) none=(wv.drop k).map V.int:=by rw[y5u,List.map_drop]
   have ec5:cutV (wv.map V.int) none (some (k:Int))=(wv.take k).map V.int:=by rw[x6y,List.map_take]
   rw[ec4]
   have s4:Same H3 (upd H3 p4 (.lst ((wv.drop k).map V.int))):=(smR H3).upd hp4
   have g4:upd H3 p4 (.lst ((wv.drop k).map V.int)) p4=some (.lst ((wv.drop k).map V.int)):=z0c
   generalize upd H3 p4 (.lst ((wv.drop k).map V.int))=H4 at s4 g4
   refine⟨_,rfl,_,rfl,_,_,rfl,rfl,(by show (0:Int)<3;decide),_,rfl,l3,_,rfl,qLo (s4 _ _ g3),fun p5 hp5=>?_⟩
   rw[hk,ec5]
   have s5:Same H4 (upd H4 p5 (.lst ((wv.take k).map V.int))):=(smR H4).upd hp5
   have g5:upd H4 p5 (.lst ((wv.take k).map V.int)) p5=some (.lst ((wv.take k).map V.int)):=z0c
   generalize upd H4 p5 (.lst ((wv.take k).map V.int))=H5 at s5 g5
   refine⟨p4,p5,_,_,rfl,rfl,s5 _ _ g4,g5,z1m (by simp;omega),fun p6 hp6=>?_⟩
   have em:(wv.drop k).map V.int++(wv.take k).map V.int=(wv.drop k++wv.take k).map V.int:=by simp
   rw[em]
   have s6:Same H5 (upd H5 p6 (.lst ((wv.drop k++wv.take k).map V.int))):=(smR H5).upd hp6
   have g6:upd H5 p6 (.lst ((wv.drop k++wv.take k).map V.int)) p6=some (.lst ((wv.drop k++wv.take k).map V.int)):=z0c
   have hx6:=(((s2.trans s3).trans s4).trans s5) _ _ hx
   have n6:p6≠lw:=fun z=>by rw[z,hx6]at hp6;cases hp6
   generalize upd H5 p6 (.lst ((wv.drop k++wv.take k).map V.int))=H6 at s6 g6
   have s26:=(((s2.trans s3).trans s4).trans s5).trans s6
   refine⟨lw,_,_,rfl,rfl,s6 _ _ hx6,z2r (by rw[z0w];omega),?_⟩
   refine⟨us++[(p6,wv.drop k++wv.take k)],_,_,_,rfl,(sx.trans s26).upd hlw,by rw[z0c];simp[wrefs],fun r hr=>?_,fun r hr=>?_,by simp[hl],fun r hr=>?_⟩
   ·rcases mApp hr with z|z
    ·rw[z0h (hn r z)];exact s26 _ _ (hO r z)
    ·have:r=(p6,wv.drop k++wv.take k):=by simpa using z
     rw[this,z0h n6];exact g6
   ·rcases mApp hr with z|z
    ·exact hn r z
    ·have:r=(p6,wv.drop k++wv.take k):=by simpa using z
     rw[this];exact n6
   ·rcases mApp hr with z|z
    ·exact hp r z
    ·have:r=(p6,wv.drop k++wv.take k):=by simpa using z
     rw[this]
     refine⟨by simp;omega,fun y hy=>?_⟩
     rcases mApp hy with e|e
     ·exact hwok y (List.mem_of_mem_drop e)
     ·exact hwok y (List.mem_of_mem_take e)
  ·rintro σ Hx ⟨us,o3,o4,o5,rfl,sx,hx,hO,hn,hl,hp⟩
   refine⟨_,rfl,_,_,rfl,rfl,⟨by decide,by decide⟩,_,_,rfl,rfl,(by show (0:Int)<8;decide),?_⟩
   obtain⟨k,hk⟩:∃ k:Nat,cell / 8 % 8=(k:Int):=⟨(cell / 8 % 8).toNat,by omega⟩
   dsimp only[gName]
   rw[hk]
   have ec4:cutV (wrefs us) (some (k:Int)) none=wrefs (us.drop k):=by rw[y5u];simp[wrefs,List.map_drop]
   have ec5:cutV (wrefs us) none (some (k:Int))=wrefs (us.take k):=by rw[x6y];simp[wrefs,List.map_take]
   refine⟨_,rfl,_,rfl,_,rfl,lw,_,rfl,qLo hx,fun p4 hp4=>?_⟩
   rw[ec4]
   have s4:Same Hx (upd Hx p4 (.lst (wrefs (us.drop k)))):=(smR Hx).upd hp4
   have g4:upd Hx p4 (.lst (wrefs (us.drop k))) p4=some (.lst (wrefs (us.drop k))):=z0c
   generalize upd Hx p4 (.lst (wrefs (us.drop k)))=H4 at s4 g4
   refine⟨_,rfl,_,rfl,_,rfl,lw,_,rfl,qLo (s4 _ _ hx),fun p5 hp5=>?_⟩
   rw[ec5]
   have s5:Same H4 (upd H4 p5 (.lst (wrefs (us.take k)))):=(smR H4).upd hp5
   have g5:upd H4 p5 (.lst (wrefs (us.take k))) p5=some (.lst (wrefs (us.take k))):=z0c
   generalize upd H4 p5 (.lst (wrefs (us.take k)))=H5 at s5 g5
   refine⟨p4,p5,_,_,rfl,rfl,s5 _ _ g4,g5,z1m (by rw[z0w,z0w];simp;omega),fun p6 hp6=>?_⟩
   have em:wrefs (us.drop k)++wrefs (us.take k)=wrefs (us.drop k++us.take k):=by simp[wrefs]
   rw[em]
   have s6:Same H5 (upd H5 p6 (.lst (wrefs (us.drop k++us.take k)))):=(smR H5).upd hp6
   have hmem:∀ r∈us.drop k++us.take k,r∈us:=fun r hr=>(mApp hr).elim List.mem_of_mem_drop List.mem_of_mem_take
   have s5x:=s4.trans s5
   exact q p6 (us.drop k++us.take k) _ (sx.free (s5x.free hp6)) (sx.trans (s5x.trans s6)) z0c (fun r hr=>s6 _ _ (s5x _ _ (hO r (hmem r hr)))) (fun r hr=>z0f (s5x _ _ (hO r (hmem r hr))) hp6) (by simp;omega) (fun r hr=>hp r (hmem r hr))
end
def spAsW:Sp:=fun vs H Q _=>∃ (t u:Addr),vs=[.ref t,.ref u] /\
 ((∃ (l l':Addr) (s:List Bool),H t=some (.tup [.str "yes",.ref l])/\H l=some (.lst (s.map V.bl))/\H u=some (.tup [.non,.ref l'])/\H l'=some (.lst (s.map V.bl))/\∀ H',Same H H'->Q (.bl true) H') ∨
  ∃ (l l':Addr) (ss:List Sr) (us:List Wr),H t=some (.tup [.str "no",.ref l])/\H l=some (.lst (srefs ss))/\SsOk H ss/\H u=some (.tup [.ref l',.non])/\H l'=some (.lst (wrefs us))/\WsOk H us/\wl us=wlSt (sls ss)/\ss.length<=16700000/\(∀ s∈ss,s.2.2.2.2.2.length<=28)/\∀ H',Same H H'->Q (.bl true) H')
theorem y9y:∀ s t:List Bool,eqVs (s.map V.bl) (t.map V.bl)=decide (s=t)
 | [],[]=>rfl
 | [],_::_=>rfl
 | _::_,[]=>rfl
 | a::s,b::t=>by
  have ih:=y9y s t
  show (eqV (.bl a) (.bl b)&&eqVs (s.map V.bl) (t.map V.bl))=_
  rw[ih]
  have:eqV (.bl a) (.bl b)=decide (a=b):=by cases a<;>cases b<;>rfl
  rw[this]
  by_cases h1:a=b<;>by_cases h2:s=t<;>simp[h1,h2]
theorem y5q (s:List Bool):(s.map V.bl).all flatV=true:=by simp[flatV]
section
variable {P:Program}{w:World}{K:W.Frag}{mg:Str->Option Value}{base:Heap}
theorem y3p (B:Blt mg)(c_l_alike:Cal P w K mg base 2 "_law_alike" z5g y4w)(Df:Def K mg "_law_as_worked" z2f z3u):Cal P w K mg base 3 "_law_as_worked" z3u spAsW:=by
 refine Df.cal sc_l_as_worked (fun vs H Q E h=>?_) (fun f cdv A outer s H vs Q E hr h=>?_)
 ·obtain⟨t,u,rfl,_⟩:=h;rfl
 ·obtain⟨t,u,rfl,h⟩:=h
  refine⟨_,(z0b (x4l (pv 1) (x4q rfl (z6l (z1c (i:=2) sc_l_as_worked.nd rfl (Or.inl rfl)) (z6l (z1c (i:=3) sc_l_as_worked.nd rfl (Or.inl rfl)) y8z))))
 (z0b (ps_if (z0k op_eq (pe_ix ix_tup (pv 0) z0i (fun _ _=>rfl)) y2d (z0q _))
 (z0e (z0p (x9i (z4m y2f (pv 3) z3d (z0q _)) (x0y (z4m (y2h (hu0 hr)) (pe_ix ix_tup (pv 0) z0i (fun _ _=>rfl)) (pv 3) (z0q _))))))
 z0o)
 (z0b (ps_if (PW.pt (pw_or (z0k y3w (pv 2) z3d (z0q _)) (pw_or (z2y (z2a (z0n z2n (by rfl) B.isinstance_ z0u (z0a (pe_ix ix_tup (pv 0) z0i (fun _ _=>rfl)) (z0a (pe_ty B.list_ z3y) z0d))))) (z5a (z0k op_ne (z0n z0l (by rfl) B.len_ PySem.boot_len (z0a (pe_ix ix_tup (pv 0) z0i (fun _ _=>rfl)) z0d)) (z0n z0l (by rfl) B.len_ PySem.boot_len (z0a (pv 2) z0d)) (z0q _))))))
 (z0e (z0p pe_bl))
 z0o)
 (z0b (z3a PassesOwn.never rfl (z5b (by rfl) B.range_ (z0a (z0n z0l (by rfl) B.len_ PySem.boot_len (z0a (pv 2) z0d)) z0d)) (z1c (i:=4) sc_l_as_worked.nd rfl (Or.inl rfl))
 (z0b (z0t (i:=5) sc_l_as_worked.nd rfl (Or.inl rfl) (pe_ix ix_list (pe_ix ix_tup (pv 0) z0i (fun _ _=>rfl)) (pv 4) (fun _ _=>rfl)))
 (z0e (ps_if (PW.pt (pw_or (z2y (z2a (z0n z2n (by rfl) B.isinstance_ z0u (z0a (pv 5) (z0a (pe_ty B.tuple_ z8u) z0d))))) (pw_or (z0k op_ne (z0n z0l (by rfl) B.len_ PySem.boot_len (z0a (pv 5) z0d)) z0i (z0q _)) (z5a (z2y (z2a (z0v c_l_alike hr (by decide) (z0a (pe_ix ix_tup (pv 5) z0i (fun _ _=>rfl)) (z0a (pe_ix z8b (pv 2) (pv 4) (fun _ _=>rfl)) z0d)))))))))
 (z0e (z0p pe_bl))
 z0o))))
 (z0e (z0p pe_bl)))))),?_⟩
  rcases h with ⟨l,l',s0,ht,hl,hu,hl',q⟩|⟨l,l',ss,us,ht,hl,hSs,hu,hl',hO,ew,hz,hv,q⟩
  ·refine⟨_,rfl,u,_,rfl,qTo hu,rfl,_,_,rfl,_,_,rfl,rfl,?_⟩
   refine⟨_,rfl,t,_,_,_,rfl,rfl,qTo ht,rfl,rfl,_,rfl,iteT ?_⟩
   refine⟨_,rfl,rfl,_,rfl,iteT ?_⟩
   refine⟨_,rfl,t,_,_,_,rfl,rfl,qTo ht,rfl,_,rfl,.inl ⟨_,⟨l,l',_,_,rfl,rfl,qLo hl,qLo hl',.inr ⟨y5q _,y5q _,rfl⟩⟩,?_⟩⟩
   rw[y9y,decide_eq_true rfl]
   exact q _ (smR H)
  ·refine⟨_,rfl,u,_,rfl,qTo hu,rfl,_,_,rfl,_,_,rfl,rfl,?_⟩
   refine⟨_,rfl,t,_,_,_,rfl,rfl,qTo ht,rfl,rfl,_,rfl,iteF ?_⟩
   have hul:us.length=ss.length:=by have:=congrArg List.length ew;rwa [z1h,y1h,z9a]at this
   have e1:(srefs ss).length=ss.length:=z4l ss
   have e2:(wrefs us).length=us.length:=z0w us
   refine⟨_,rfl,rfl,_,rfl,iteF ?_⟩
   refine⟨_,rfl,t,_,_,_,rfl,rfl,qTo ht,rfl,_,.lst,.lst,rfl,⟨_,.inl hl⟩,_,rfl,iteF ?_⟩
   refine⟨_,rfl,t,_,_,_,rfl,rfl,qTo ht,rfl,l,_,rfl,.inl (qLo hl),_,rfl,l',_,rfl,.inl (qLo hl'),rfl,_,rfl,ite2 (fun z=>?_) (fun _=>?_)⟩
   ·exfalso
    rw[e1,e2,hul]at z
    simp at z
   refine⟨_,rfl,l',_,rfl,.inl (qLo hl'),_,rfl,by omega,by omega,?_⟩
   have en:(((wrefs us).length:Nat):Int).toNat=us.length:=by omega
   rw[en]
   refine z5h (fun i σ Hx=>∃ v4 v5:Option V,σ=[some (.ref t),some (.ref u),some (.ref l'),some .non,v4,v5]/\Same H Hx) ⟨none,none,rfl,smR H⟩ ?_ ?_
   ·rintro i σ Hx hi ⟨v4,v5,rfl,sx⟩
    have ei:(0+(i:Int))=((i:Nat):Int):=by omega
    have his:i<ss.length:=by omega
    have hgs:ss[i]?=some ss[i]:=List.getElem?_eq_getElem his
    have hms:=List.getElem_mem his
    have hgu:us[i]?=some us[i]:=List.getElem?_eq_getElem hi
    have hmu:=List.getElem_mem hi
    generalize ss[i]=sr at hgs hms
    generalize us[i]=ur at hgu hmu
    have heq:ur.2=sr.2.2.2.2.2:=by
     have h1:(wl us)[i]?=some ur.2:=by unfold wl;rw[List.getElem?_map,hgu];rfl
     have h2:(wlSt (sls ss))[i]?=some sr.2.2.2.2.2:=by unfold wlSt sls;rw[List.map_map,List.getElem?_map,hgs];rfl
     rw[ew,h2]at h1
     exact (Option.some.inj h1).symm
    have a1:atI (srefs ss) (0+(i:Int))=some (.ref sr.1):=by rw[ei];exact z3z (by unfold srefs;rw[List.getElem?_map,hgs];rfl)
    have a2:atI (wrefs us) (0+(i:Int))=some (.ref ur.1):=by rw[ei];exact z3z (by unfold wrefs;rw[List.getElem?_map,hgu];rfl)
    have hsr:=(hSs.mono sx) sr hms
    have htup:Hx sr.1=some (.tup [.int sr.2.2.1,.int sr.2.2.2.1,.int sr.2.2.2.2.1,.ref sr.2.1]):=hsr.1
    refine⟨_,rfl,t,_,_,_,rfl,rfl,qTo (sx _ _ ht),rfl,_,rfl,l,_,_,.ref sr.1,rfl,rfl,qLo (sx _ _ hl),a1,?_⟩
    refine⟨_,rfl,_,.tup,.tup,rfl,⟨_,htup⟩,_,rfl,iteF ?_⟩
    refine⟨_,rfl,sr.1,_,rfl,.inr (qTo htup),rfl,_,rfl,iteF ?_⟩
    refine⟨_,rfl,sr.1,_,_,_,rfl,rfl,qTo htup,rfl,_,rfl,_,rfl,.inl ⟨l',_,_,_,rfl,rfl,qLo (sx _ _ hl'),a2,.ref sr.2.1,.ref ur.1,.lst (dInts sr.2.2.2.2.2),rfl,At.ofInts hsr.2,At.ofInts (by rw[←heq];exact sx _ _ (hO ur hmu)),by rw[dlin];exact y2p _,by rw[D.size,y0e];have:=hv sr hms;omega,fun H7 s7=>⟨_,rfl,iteF ?_⟩⟩⟩
    exact⟨_,_,rfl,sx.trans s7⟩
   ·rintro σ Hx ⟨v4,v5,rfl,sx⟩
    exact q _ sx
end
abbrev lawK:Nat:=8
theorem x9b {ws hs:List Wr}(h:wl hs=wl ws):wsD hs=wsD ws:=by rw[x9a,x9a,h]
theorem y1w {n:Nat}:∀ {W:List (List Int)},(∀ v∈W,v.length<=n)->total W<=n*W.length
 | [],_=>Nat.zero_le _
 | v::W,h=>by
  have h1:=y1w (W:=W) fun x hx=>h x (List.mem_cons_of_mem _ hx)
  have h2:=h v List.mem_cons_self
  have e:total (v::W)=v.length+total W:=by simp[total]
  rw[e,List.length_cons,Nat.mul_succ];omega
theorem y3u {N:Nat}:∀ {ts:List Stp}{W:List (List Int)},z2t W ts->(∀ v∈W,∀ n∈v,n.natAbs<=N)->(∀ t∈ts,∀ n∈t.2.2.2,n.natAbs<=N)->∀ t∈ts,t.2.2.1.natAbs<=N
 | [],_,_,_,_,_,h=>nomatch h
 | t::ts,W,⟨h1,h2⟩,hW,hT,x,hx=>by
  rcases List.mem_cons.mp hx with z|z
  ·subst z
   obtain⟨_,_,_,_,_,hm,_⟩:=h1
   by_cases hk:x.1.toNat<W.length
   ·have e:W.getD x.1.toNat []=W[x.1.toNat]:=by simp[List.getD,hk]
    rw[e]at hm
    exact hW _ (List.getElem_mem hk) _ hm
   ·have e:W.getD x.1.toNat []=[]:=by simp[List.getD,Nat.not_lt.mp hk]
    rw[e]at hm;exact nomatch hm
  ·refine y3u h2 (fun v hv=>?_) (fun y hy=>hT y (List.mem_cons_of_mem _ hy)) x z
   rcases mApp hv with e|e
   ·exact hW v e
   ·have:v=t.2.2.2:=by simpa using e
    rw[this];exact hT t List.mem_cons_self
section
variable {P:Program}{w:World}{K:W.Frag}{mg:Str->Option Value}{base:Heap}
set_option maxHeartbeats 4000000
theorem ok_law {f:Addr}{fd:FuncData}(F:Fun K "law" "law" s_law f fd)(B:Blt mg)(D_merged:Def K mg "merged" z5k z4o)(D_left_open:Def K mg "left_open" z3e z4b)(D_each_once:Def K mg "each_once" z3l z3p)(D_marked:Def K mg "marked" z6d z6m)(D_free_lamp:Def K mg "free_lamp" z3k z4f)(D_gone_back:Def K mg "gone_back" z3j z4e)(D_step_back:Def K mg "step_back" z2o z4q)(D_solved:Def K mg "solved" z6b z8j)(D_search:Def K mg "search" z6c z7d)(D_go_back:Def K mg "go_back" z4z z5s)(D_next_guess:Def K mg "next_guess" z2v z3o)(D_setting_of:Def K mg "setting_of" z2u z3n)(D_shows:Def K mg "shows" z7t y0g)(D_is_right:Def K mg "is_right" z4i z4t)(L_draw:Def K mg "_law_draw" z6h z7f)(L_whole:Def K mg "_law_whole" z4v z5d)(L_at:Def K mg "_law_at" y0s y3v)(L_alike:Def K mg "_law_alike" z4y z5g)(L_setting_of:Def K mg "_law_setting_of" z1w z3c)(L_wishes_of:Def K mg "_law_wishes_of" z2d z3t)(L_meets:Def K mg "_law_meets" z4x z5f)(L_all_met:Def K mg "_law_all_met" z3i z4d)(L_planted:Def K mg "_law_planted" z3h z4s)(L_all_signs:Def K mg "_law_all_signs" z2g z3v)(L_merge:Def K mg "_law_merge" z4w z5e)(L_right_step:Def K mg "_law_right_step" z1x z2p)(L_refuted:Def K mg "_law_refuted" z3g z4r)(L_full:Def K mg "_law_full" z6g z8k)(L_answer:Def K mg "_law_answer" z4h z5q)(L_first_of:Def K mg "_law_first_of" z2w z4j)(L_open:Def K mg "_law_open" z6e z6n)(L_broken_at:Def K mg "_law_broken_at" z2e z2i)(L_next:Def K mg "_law_next" z6f z7e)(L_step_of:Def K mg "_law_step_of" z3f z4c)(L_back:Def K mg "_law_back" z6i z7g)(L_worked_out:Def K mg "_law_worked_out" z1v z3b)(L_as_worked:Def K mg "_law_as_worked" z2f z3u)
 {CN CL:Addr} (Z:ExcTop "NoMerge" K mg base CN CL) {C:Addr} (T:TallyCls K mg C) (M_init:MDef K C "__init__" "Tally.__init__" z2x z2j) (M_put_wish:MDef K C "put_wish" "Tally.put_wish" z1k z1e) (M_put:MDef K C "put" "Tally.put" z3m z2q) (M_take_off:MDef K C "take_off" "Tally.take_off" z1j z1l) (M_count_letter:MDef K C "count_letter" "Tally.count_letter" z1b z0y) (M_sort_in:MDef K C "sort_in" "Tally.sort_in" z1p z1i) (M_first_broken:MDef K C "first_broken" "Tally.first_broken" z1a z0x) (M_go_on:MDef K C "go_on" "Tally.go_on" z2h z2k):FnOk P w K mg base CX0 lawK f fd ["_law_script"] (spLaw K):=by
 have c_marked:Cal P w K mg base 1 "marked" z6m (y1m K):=x4y D_marked
 have c_each_once:Cal P w K mg base 2 "each_once" z3p (x0n K):=y7e B c_marked D_each_once
 have c_left_open:Cal P w K mg base 3 "left_open" z4b (x3w K):=y6y B c_each_once D_left_open
 have m_sort_in:MCal P w K mg base 1 C "sort_in" z1i (x0k C):=x2o T M_sort_in
 have m_count_letter:MCal P w K mg base 2 C "count_letter" z0y (y1p C):=y2m T m_sort_in M_count_letter
 have m_put:MCal P w K mg base 3 C "put" z2q (spPut C):=w2h T m_count_letter M_put
 have m_put_wish:MCal P w K mg base 3 C "put_wish" z1e (x0l C):=y9e B T m_sort_in c_each_once M_put_wish
 have m_take_off:MCal P w K mg base 3 C "take_off" z1l (spOff C):=y9d T m_count_letter M_take_off
 have m_first_broken:MCal P w K mg base 1 C "first_broken" z0x (y1o C):=y2l B T M_first_broken
 have mk_Tally:Made P w K mg base 4 "Tally" C z2j (x0m K C):=w0q T m_put_wish M_init
 have m_go_on:MCal P w K mg base 4 C "go_on" z2k (x3y C):=x7v B T m_put c_left_open M_go_on
 have c_merged:Cal P w K mg base 1 "merged" z4o (spMrg K):=y9f B D_merged
 have c_step_back:=y6x B c_merged D_step_back
 have c_gone_back:Cal P w K mg base 3 "gone_back" z4e (x3x K):=y7c B c_marked c_step_back D_gone_back
 have c_go_back:Cal P w K mg base 4 "go_back" z5s (y4u C):=x2v B T m_put m_take_off m_put_wish c_gone_back D_go_back
 have c_free_lamp:Cal P w K mg base 1 "free_lamp" z4f y8u:=y7d B D_free_lamp
 have c_setting_of:Cal P w K mg base 1 "setting_of" z3n (y8p C):=y5d B T D_setting_of
 have c_next_guess:Cal P w K mg base 2 "next_guess" z3o (y8r K C):=y5e T c_free_lamp D_next_guess
 have c_search:Cal P w K mg base 5 "search" z7d (y1y K C):=x2q B T m_go_on m_first_broken m_put c_go_back c_next_guess D_search
 have c_solved:Cal P w K mg base 6 "solved" z8j (y6f K):=x2p B T mk_Tally m_first_broken c_search c_setting_of D_solved
 have c_l_draw:Cal P w K mg base 1 "_law_draw" z7f x3z:=x5c L_draw
 have c_l_whole:Cal P w K mg base 1 "_law_whole" z5d y4p:=x2r B L_whole
 have c_l_at:Cal P w K mg base 1 "_law_at" y3v (spAt K):=w0p B L_at
 have c_l_alike:Cal P w K mg base 2 "_law_alike" z5g y4w:=x2u B c_l_whole L_alike
 have c_l_setting_of:Cal P w K mg base 2 "_law_setting_of" z3c y6g:=y2j B c_l_draw L_setting_of
 have c_l_wishes_of:Cal P w K mg base 1 "_law_wishes_of" z3t (x0j K):=y3n B L_wishes_of
 have c_l_meets:Cal P w K mg base 1 "_law_meets" z5f spMet:=x2t B L_meets
 have c_l_all_met:Cal P w K mg base 2 "_law_all_met" z4d (y4v K):=y7b c_l_meets L_all_met
 have c_l_planted:Cal P w K mg base 2 "_law_planted" z4s (y6h K):=y7a B c_l_meets L_planted
 have c_l_full:Cal P w K mg base 1 "_law_full" z8k (x9h K):=x5b B L_full
 have c_l_answer:Cal P w K mg base 1 "_law_answer" z5q x0o:=y9g B L_answer
 have c_l_first_of:Cal P w K mg base 3 "_law_first_of" z4j (y6i K):=y5g B c_l_all_met L_first_of
 have c_l_merge:Cal P w K mg base 1 "_law_merge" z5e (y1n K):=x2s B L_merge
 have c_l_right_step:Cal P w K mg base 3 "_law_right_step" z2p (y8q K):=y2k B c_l_whole c_l_alike c_l_merge L_right_step
 have c_l_open:Cal P w K mg base 1 "_law_open" z6n (y4t K):=x4z L_open
 have c_l_broken_at:Cal P w K mg base 2 "_law_broken_at" z2i (z9k K):=y3o B c_l_open L_broken_at
 have c_l_next:Cal P w K mg base 3 "_law_next" z7e (y8s K):=x5a B c_l_open c_l_broken_at L_next
 have c_l_step_of:Cal P w K mg base 2 "_law_step_of" z4c (y4q K):=y6z B c_l_merge L_step_of
 have c_l_back:Cal P w K mg base 3 "_law_back" z7g (y8t K):=x5d B c_l_step_of L_back
 have c_l_worked_out:Cal P w K mg base 4 "_law_worked_out" z3b (x0i K):=y2i B c_l_broken_at c_l_next c_l_back L_worked_out
 have c_l_as_worked:Cal P w K mg base 3 "_law_as_worked" z3u spAsW:=y3p B c_l_alike L_as_worked
 have c_l_all_signs:Cal P w K mg base 1 "_law_all_signs" z3v (x3v K):=y3q B L_all_signs
 have c_mergedX:CalX P w K mg base 1 "merged" z4o (y4s K CN):=x4x B Z.own PySem.F.excBase_ValueError D_merged
 have c_is_right:Cal P w K mg base 2 "is_right" z4t (y4r K):=y9h B Z c_mergedX D_is_right
 have c_shows:Cal P w K mg base 3 "shows" y0g y1l:=x4w B c_is_right D_shows
 have c_l_refuted:Cal P w K mg base 4 "_law_refuted" z4r y1l:=y5f B c_l_right_step L_refuted
 refine F.ok sc_law (fun vs H Q E h=>?_) (fun cdv A outer s H vs Q E hr h=>?_)
 ·obtain⟨a,ns,rfl,_⟩:=h;rfl
 obtain⟨a,ns,rfl,hS,hz,q⟩:=h
 obtain⟨u13,hu13,keyY,keyN⟩:∃ u,PSs (cxOf CX0 P w K mg base n_law "law" (z0g s_law) f cdv A outer s H E).nox ((z0m s_law).drop 13) u /\
  (∀ (c:Nat) (ls lw t l:Addr) (ws:List Wr) (s0:List Bool) (v1 v5:Option V) (H1:Hp),H1 lw=some (.lst (wrefs ws))->WsOk H1 ws->(∀ v∈wl ws,v.length<=28/\∀ y∈v,y≠0/\y.natAbs<=c)->H1 t=some (.tup [.str "yes",.ref l])->H1 l=some (.lst (s0.map V.bl))->s0.length=c->z2s (wl ws) s0->(∀ s':List Bool,s'.length=c->z2s (wl ws) s'->s'≠s0->erl s0 s'=true) ->
   u { nx:=fun _ H'=>Q .non H',rt:=Q } [some (.ref a),v1,some (.int c),some (.ref ls),some (.ref lw),v5,some (.ref t)] H1) /\
  (∀ (c:Nat) (ls lw t l:Addr) (bs:List Bool) (ws:List Wr) (ss:List Sr) (v1 v5:Option V) (H1:Hp),H1 lw=some (.lst (wrefs ws))->WsOk H1 ws->(∀ v∈wl ws,v.length<=28/\∀ y∈v,y≠0/\y.natAbs<=c)->c<=24->ws.length<=100->H1 ls=some (.lst (bs.map V.bl))->bs.length=c->H1 t=some (.tup [.str "no",.ref l])->H1 l=some (.lst (srefs ss))->SsOk H1 ss->y5x (wl ws) (sls ss)->ss.length<=16646144->(∀ s∈ss,s.2.2.2.2.2.length<=28)->(∀ s∈ss,∀ y∈s.2.2.2.2.2,y≠0/\y.natAbs<=c)->(∀ s,z2s (wl ws) s->False) ->
   u { nx:=fun _ H'=>Q .non H',rt:=Q } [some (.ref a),v1,some (.int c),some (.ref ls),some (.ref lw),v5,some (.ref t)] H1):=by
  refine⟨_,(z0b (ps_if (z0k op_eq (pe_ix ix_tup (pv 6) z0i (fun _ _=>rfl)) y2d (z0q _))
 (z0b (ps_if (PW.pt (pw_or (z2y (z2a (z0v c_l_full hr (by decide) (z0a (pe_ix ix_tup (pv 6) z0i (fun _ _=>rfl)) (z0a (pv 2) z0d))))) (z5a (z2y (z2a (z0v c_l_all_met hr (by decide) (z0a (pv 4) (z0a (pe_ix ix_tup (pv 6) z0i (fun _ _=>rfl)) z0d))))))))
 (z0e (z0p pe_bl))
 z0o)
 (z0e (z0p (pe_or (z4m op_gt (pv 2) z0i (z0q _)) (x0y (z4m (y2h (hu0 hr)) (pe_ix ix_tup (pv 6) z0i (fun _ _=>rfl)) (z0v c_l_first_of hr (by decide) (z0a (pv 2) (z0a (pv 4) z0d))) (z0q _)))))))
 z0o)
 (z0b (ps_if (PW.pt (pw_or (z2y (z2a (z0v c_l_refuted hr (by decide) (z0a (pv 4) (z0a (pe_ix ix_tup (pv 6) z0i (fun _ _=>rfl)) z0d))))) (z5a (z2a (z0v c_l_all_met hr (by decide) (z0a (pv 4) (z0a (pv 3) z0d)))))))
 (z0e (z0p pe_bl))
 z0o)
 (z0e (z0p (z4m w2g (z0v c_shows hr (by decide) (z0a (z4p (fvn:=[]) (js:=[]) rfl (z1d (pv 4)) .nil ⟨by decide +kernel,rfl,by decide +kernel,rfl,by decide +kernel,by decide +kernel⟩ (fun _ _ _ _ _=>z7w) (fun _ _ _ _ _=>(z4n (y0a (K:=K) rfl) (by rfl) B.list_ z3y (z0a (pv 0) z0d)))) (z0a (z4n z3r (by rfl) B.list_ z3y (z0a (pe_ix ix_tup (pv 6) z0i (fun _ _=>rfl)) z0d)) z0d))) pe_bl (z0q _)))))),?_,?_⟩
  ·intro c ls lw t l ws s0 v1 v5 H1 hlw hW hlet h1t h1l hlen hm hf
   have eall:((wl ws).all fun u=>u.any (so s0))=true:=List.all_eq_true.mpr hm
   refine⟨_,rfl,t,_,_,_,rfl,rfl,qTo h1t,rfl,rfl,_,rfl,iteT ?_⟩
   refine⟨_,rfl,t,_,_,_,rfl,rfl,qTo h1t,rfl,_,rfl,l,s0,by rw[hlen];rfl,h1l,_,rfl,iteF ?_⟩
   refine⟨_,rfl,_,rfl,t,_,_,_,rfl,rfl,qTo h1t,rfl,lw,l,ws,s0,rfl,qLo hlw,hW,h1l,fun u hu=>by rw[hlen];exact (hlet u hu).2,_,rfl,?_⟩
   rw[eall]
   refine iteF ?_
   refine⟨_,rfl,_,_,rfl,rfl,_,rfl,ite2 (fun _=>q _) (fun c6=>?_)⟩
   have c6':c<=6:=by
    by_cases z:c<=6
    ·exact z
    ·exact absurd (decide_eq_true (by omega)) c6
   refine⟨_,rfl,t,_,_,_,rfl,rfl,qTo h1t,rfl,_,rfl,_,rfl,c,lw,ws,rfl,qLo hlw,hW,by omega,fun u hu=>(hlet u hu).2,fun vd H9 s9 hv9=>?_⟩
   rw[x3i hlen hm hf]at hv9
   obtain⟨ld,rfl,h9d⟩:=hv9
   refine .inl ⟨_,⟨l,ld,_,_,rfl,rfl,qLo (s9 _ _ h1l),qLo h9d,.inr ⟨y5q _,y5q _,rfl⟩⟩,?_⟩
   rw[y9y,decide_eq_true rfl]
   exact q _
  ·intro c ls lw t l bs ws ss v1 v5 H1 hlw hW hlet hc hwl hls hbl h1t h1l hSs hsh hssl hsv hsy hno
   have hwS:WsS (wl ws):=fun v hv=>⟨(hlet v hv).1,fun n hn=>by have:=(hlet v hv).2 n hn;omega⟩
   have hlam:=y3u (N:=24) hsh.1 (fun v hv n hn=>by have:=(hlet v hv).2 n hn;omega) (fun t ht n hn=>by
    unfold sls at ht
    obtain⟨r,hr,rfl⟩:=List.mem_map.mp ht
    have:=(hsy r hr n hn).2;omega)
   have hstS:∀ r∈ss,y3l r.2.2:=fun r hr=>⟨hsv r hr,fun n hn=>by have:=(hsy r hr n hn).2;omega,by have:=hlam r.2.2 (by unfold sls;exact List.mem_map.mpr ⟨r,hr,rfl⟩);omega⟩
   refine⟨_,rfl,t,_,_,_,rfl,rfl,qTo h1t,rfl,rfl,_,rfl,iteF ?_⟩
   refine⟨_,rfl,_,rfl,t,_,_,_,rfl,rfl,qTo h1t,rfl,lw,l,ws,ss,rfl,hlw,hW,h1l,hSs,hwS,hstS,by omega,by omega,hsh,fun H9 s9=>⟨_,rfl,iteF ?_⟩⟩
   refine⟨_,rfl,_,rfl,lw,ls,ws,bs,rfl,qLo (s9 _ _ hlw),hW.mono s9,s9 _ _ hls,fun u hu=>by rw[hbl];exact (hlet u hu).2,_,rfl,?_⟩
   have eall:((wl ws).all fun u=>u.any (so bs))=false:=Bool.eq_false_iff.mpr fun z=>hno bs (List.all_eq_true.mp z)
   rw[eall]
   refine iteF ?_
   dsimp only[tNext,tRet,tOp,tCall,tCons]
   refine z1r (K:=K) ⟨_,rfl,lw,rfl,⟨_,qLo (s9 _ _ hlw)⟩,y8c (qLo (s9 _ _ hlw)) (hW.mono s9) (by omega) (fun wr H2 N h2 hN=>⟨_,rfl,wr.1,_,rfl,.inl (qLo h2),hN⟩) fun lh hs H2 hlh s2 hO2 hF2 ewl h2=>?_⟩
   have s12:=s9.trans s2
   refine⟨_,rfl,t,_,_,_,rfl,rfl,qTo (s12 _ _ h1t),rfl,l,_,rfl,.inl (qLo (s12 _ _ h1l)),fun l3 hl3=>?_⟩
   have s3:Same H2 (upd H2 l3 (.lst (srefs ss))):=(smR H2).upd hl3
   have g3:upd H2 l3 (.lst (srefs ss)) l3=some (.lst (srefs ss)):=z0c
   generalize upd H2 l3 (.lst (srefs ss))=H3 at s3 g3
   have hhl:hs.length=ws.length:=by rw[←z1h,ewl,z1h]
   refine⟨lh,l3,hs,ss,rfl,s3 _ _ h2,hO2.mono s3,g3,(hSs.mono s12).mono s3,by rw[ewl];exact hwS,hstS,by omega,by omega,by rw[ewl];exact hsh,fun H4 s4=>?_⟩
   exact⟨true,true,rfl,rfl,q _⟩
 obtain⟨u9,hu9,key9⟩:∃ u,PSs (cxOf CX0 P w K mg base n_law "law" (z0g s_law) f cdv A outer s H E).nox ((z0m s_law).drop 9) u /\
  ∀ (h0:Int) (c:Nat) (ls lw:Addr) (bs:List Bool) (ws:List Wr) (H1:Hp),Same H H1->H1 ls=some (.lst (bs.map V.bl))->bs.length=c->H1 lw=some (.lst (wrefs ws))->WsOk H1 ws->(∀ v∈wl ws,v.length<=28/\∀ y∈v,y≠0/\y.natAbs<=c)->total (wl ws)<=1000->ws.length<=100->c<=24->pot c (wl ws)<=16646144 ->
   u { nx:=fun _ H'=>Q .non H',rt:=Q } [some (.ref a),some (.int h0),some (.int c),some (.ref ls),some (.ref lw),none,none] H1:=by
  refine⟨_,(z0b (z9c (i:=5) sc_law.nd rfl (Or.inl rfl) (fvn:=[]) (js:=[]) rfl (z1d (pv 4)) .nil ⟨by decide +kernel,rfl,by decide +kernel,rfl,by decide +kernel,by decide +kernel⟩ (fun _ _ _ _ _=>z7w) (fun _ _ _ _ _=>(z4n (y0a (K:=K) rfl) (by rfl) B.list_ z3y (z0a (pv 0) z0d))))
 (z0b (z0t (i:=6) sc_law.nd rfl (Or.inl rfl) (z0v c_solved hr (by decide) (z0a (pv 2) (z0a (pv 5) z0d))))
 (z0b (ps_if (PW.pt (pw_or (z2y (z2a (z0v c_l_answer hr (by decide) (z0a (pv 6) z0d)))) (z5a (z2y (z2a (z0v c_l_alike hr (by decide) (z0a (pv 5) (z0a (pv 4) z0d))))))))
 (z0e (z0p pe_bl))
 z0o)
 (z0b (ps_if (PW.pt (pw_or (z0k op_lt (pv 2) z0i (z0q _)) (z5a (PW.pt (y0t (z0k op_lt (pv 2) z0i (z0q _)) (z7v (z0k op_eq (pe_op z4k (pe_op z5t (z0v c_l_at hr (by decide) (z0a (pv 0) (z0a z0i z0d))) z0i) z0i) z0i (z0q _))))))))
 (z0e (ps_if (z2y (z2a (z0v c_l_as_worked hr (by decide) (z0a (pv 6) (z0a (z0v c_l_worked_out hr (by decide) (z0a (pv 2) (z0a (pv 4) z0d))) z0d)))))
 (z0e (z0p pe_bl))
 z0o))
 z0o)
 hu13)))),fun h0 c ls lw bs ws H1 sm hls hbl hlw hW hlet ht hwl hc hpot=>?_⟩
  refine z7l (t:=tAsg (tComp _ _ _ _) _) (z7u (z1r (K:=K) ?_))
  refine⟨_,rfl,lw,rfl,⟨_,qLo hlw⟩,?_⟩
  refine y8c (qLo hlw) hW (by omega) (fun wr H2 N h2 hN=>⟨_,rfl,wr.1,_,rfl,.inl (qLo h2),hN⟩) fun lh hs H2 hlh s2 hO2 hF2 ewl h2=>?_
  have hsl:hs.length=ws.length:=by rw[←z1h,ewl,z1h]
  dsimp only[gName]
  refine⟨_,rfl,_,rfl,c,lh,hs,rfl,qLo h2,hO2,by omega,by omega,by rw[ewl];omega,by rw[ewl];exact hpot,by rw[ewl];exact fun v hv=>(hlet v hv).1,by rw[ewl];exact fun v hv=>(hlet v hv).2,?_,?_⟩
  ·intro t l W' P' H3 s3 h3t h3l hends hbr hm hf
   rw[ewl]at hends hm hf
   have s13:=s2.trans s3
   refine⟨_,rfl,t,"yes",.ref l,rfl,h3t,.inl rfl,_,rfl,iteF ?_⟩
   refine⟨_,rfl,_,rfl,_,_,.lst (wsD ws),rfl,by rw[←x9b ewl];exact ws_at (hO2.mono s3) (s3 _ _ h2),ws_at (hW.mono s13) (s13 _ _ hlw),by rw[dlin];exact y5m ws,by rw[D.size,y2a];omega,fun H4 s4=>⟨_,rfl,iteF ?_⟩⟩
   have s14:=s13.trans s4
   dsimp only[tNext,gName]
   refine z7m (fun σ Hx=>σ=[some (.ref a),some (.int h0),some (.int c),some (.ref ls),some (.ref lw),some (.ref lh),some (.ref t)]/\Same H4 Hx) (fun N hN=>?_) ?_
   ·refine⟨_,rfl,_,_,rfl,rfl,_,rfl,ite2 (fun _=>iteT ?_) (fun _=>⟨_,rfl,_,_,rfl,rfl,_,rfl,ite2 (fun _=>⟨_,rfl,a,ns,2,rfl,(sm.trans s14).seq hS,_,_,rfl,rfl,⟨by decide,by decide⟩,_,_,rfl,rfl,(by show (0:Int)<8;decide),rfl,_,rfl,ite2 (fun _=>?_) (fun _=>hN _ _ ⟨rfl,smR _⟩)⟩) (fun _=>iteF (hN _ _ ⟨rfl,smR _⟩))⟩)⟩
    all_goals
     refine⟨_,rfl,_,rfl,_,rfl,c,lw,ws,rfl,s14 _ _ hlw,hW.mono s14,by omega,by omega,hpot,fun v hv=>(hlet v hv).1,fun v hv=>(hlet v hv).2,?_,?_⟩
     ·intro t4 l4 W4 P4 H5 s5 h5t h5l hends4 hbr4
      have e:=hends.one hends4
      cases e
      exact⟨t,t4,rfl,.inl ⟨l,l4,_,s5 _ _ (s4 _ _ h3t),s5 _ _ (s4 _ _ h3l),h5t,h5l,fun H6 s6=>⟨_,rfl,iteF (hN _ _ ⟨rfl,s5.trans s6⟩)⟩⟩⟩
     ·intro t4 l4 us H5 s5 h5t h5l hO5 hends4 hem4
      have e:=hends.one hends4
      cases e
      exact absurd rfl (z5r hbr hem4)
   ·rintro σ Hx ⟨rfl,sx⟩
    have s1x:=s14.trans sx
    exact keyY c ls lw t l ws _ _ _ Hx (s1x _ _ hlw) (hW.mono s1x) hlet (sx _ _ (s4 _ _ h3t)) (sx _ _ (s4 _ _ h3l)) (z9l c _) hm hf
  ·intro t l ss H3 s3 h3t h3l hSs hsh hssl hsv hsy hno hends hem
   rw[ewl]at hsh hno hends hem
   have s13:=s2.trans s3
   refine⟨_,rfl,t,"no",.ref l,rfl,h3t,.inr rfl,_,rfl,iteF ?_⟩
   refine⟨_,rfl,_,rfl,_,_,.lst (wsD ws),rfl,by rw[←x9b ewl];exact ws_at (hO2.mono s3) (s3 _ _ h2),ws_at (hW.mono s13) (s13 _ _ hlw),by rw[dlin];exact y5m ws,by rw[D.size,y2a];omega,fun H4 s4=>⟨_,rfl,iteF ?_⟩⟩
   have s14:=s13.trans s4
   dsimp only[tNext,gName]
   refine z7m (fun σ Hx=>σ=[some (.ref a),some (.int h0),some (.int c),some (.ref ls),some (.ref lw),some (.ref lh),some (.ref t)]/\Same H4 Hx) (fun N hN=>?_) ?_
   ·refine⟨_,rfl,_,_,rfl,rfl,_,rfl,ite2 (fun _=>iteT ?_) (fun _=>⟨_,rfl,_,_,rfl,rfl,_,rfl,ite2 (fun _=>⟨_,rfl,a,ns,2,rfl,(sm.trans s14).seq hS,_,_,rfl,rfl,⟨by decide,by decide⟩,_,_,rfl,rfl,(by show (0:Int)<8;decide),rfl,_,rfl,ite2 (fun _=>?_) (fun _=>hN _ _ ⟨rfl,smR _⟩)⟩) (fun _=>iteF (hN _ _ ⟨rfl,smR _⟩))⟩)⟩
    all_goals
     refine⟨_,rfl,_,rfl,_,rfl,c,lw,ws,rfl,s14 _ _ hlw,hW.mono s14,by omega,by omega,hpot,fun v hv=>(hlet v hv).1,fun v hv=>(hlet v hv).2,?_,?_⟩
     ·intro t4 l4 W4 P4 H5 s5 h5t h5l hends4 hbr4
      have e:=hends.one hends4
      cases e
      exact absurd rfl (z5r hbr4 hem)
     ·intro t4 l4 us H5 s5 h5t h5l hO5 hends4 hem4
      have e:=hends.one hends4
      have e1:wl ws++wlSt (sls ss)=wl ws++wl us:=congrArg Prod.fst e
      have e2:wl us=wlSt (sls ss):=(List.append_cancel_left e1).symm
      exact⟨t,t4,rfl,.inr ⟨l,l4,ss,us,s5 _ _ (s4 _ _ h3t),s5 _ _ (s4 _ _ h3l),(hSs.mono s4).mono s5,h5t,h5l,hO5,e2,by omega,hsv,fun H6 s6=>⟨_,rfl,iteF (hN _ _ ⟨rfl,s5.trans s6⟩)⟩⟩⟩
   ·rintro σ Hx ⟨rfl,sx⟩
    have s1x:=s14.trans sx
    exact keyN c ls lw t l bs ws ss _ _ Hx (s1x _ _ hlw) (hW.mono s1x) hlet hc hwl (s1x _ _ hls) hbl (sx _ _ (s4 _ _ h3t)) (sx _ _ (s4 _ _ h3l)) ((hSs.mono s4).mono sx) hsh hssl hsv hsy hno
 obtain⟨u8,hu8,key8⟩:∃ u,PSs (cxOf CX0 P w K mg base n_law "law" (z0g s_law) f cdv A outer s H E).nox ((z0m s_law).drop 8) u /\
  ∀ (h0:Int) (c:Nat) (ls lw:Addr) (bs:List Bool) (ws:List Wr) (L:List Int) (S:List Nat) (H1:Hp),Same H H1->H1 ls=some (.lst (bs.map V.bl))->bs.length=c->H1 lw=some (.lst (wrefs ws))->WsOk H1 ws->(∀ r∈ws,r.1≠lw)->ls≠lw->H lw=none->(∀ v∈wl ws,v.length<=28/\∀ y∈v,y≠0/\y.natAbs<=c)->total (wl ws)<=1000->ws.length<=90->c<=24->L.length<=25->S.length<=3->(∀ v∈wl ws,∀ y∈v,y∈L∨y.natAbs∈S) ->
   u { nx:=fun _ H'=>Q .non H',rt:=Q } [some (.ref a),some (.int h0),some (.int c),some (.ref ls),some (.ref lw),none,none] H1:=by
  refine⟨_,(z0b (ps_if (z0k op_eq (pe_op z4k (z0v c_l_at hr (by decide) (z0a (pv 0) (z0a z0i z0d))) z0i) z0i (z0q _))
 (z0e (z0z (pe_bm PySem.F.plainAttrs_list PySem.F.slot_list_insert PySem.F.type_list_insert x5m (pv 4) (z0a (pe_op z4k (pe_op z5t (z0v c_l_at hr (by decide) (z0a (pv 0) (z0a z0i z0d))) z0i) (pe_op z6o (z0n z0l (by rfl) B.len_ PySem.boot_len (z0a (pv 4) z0d)) z0i)) (z0a (z1g z0d) z0d)))))
 z0o)
 hu9),fun h0 c ls lw bs ws L S H1 sm hls hbl hlw hW hWn nlw hlwH hlet ht hwl hc hL hS3 hLS=>?_⟩
  refine⟨_,rfl,a,ns,3,rfl,sm.seq hS,_,_,rfl,rfl,(by show (0:Int)<8;decide),rfl,_,rfl,ite2 (fun _=>?_) (fun _=>?_)⟩
  rotate_left
  ·exact key9 h0 c ls lw bs ws H1 sm hls hbl hlw hW hlet ht (by omega) hc (y6q hc hL hS3 hLS)
  have elw:=z0w ws
  obtain⟨m,hm,hml⟩:∃ m:Nat,ns.getD 3 0 / 8 % ((((wrefs ws).length:Nat):Int)+1)=(m:Int)/\m<=ws.length:=by
   rw[elw]
   have h1:=Int.emod_nonneg (ns.getD 3 0 / 8) (show ((ws.length:Int)+1)≠0 by omega)
   have h2:=Int.emod_lt_of_pos (ns.getD 3 0 / 8) (show (0:Int)<((ws.length:Int)+1) by omega)
   exact⟨(ns.getD 3 0 / 8 % ((ws.length:Int)+1)).toNat,by omega,by omega⟩
  refine⟨_,rfl,.inl ⟨rfl,_,qLo hlw⟩,_,rfl,a,ns,3,rfl,sm.seq hS,_,_,rfl,rfl,⟨by decide,by decide⟩,_,rfl,lw,_,rfl,.inl (qLo hlw),_,_,rfl,rfl,_,_,rfl,rfl,(by show (0:Int)<(((wrefs ws).length:Nat):Int)+1;omega),by decide,fun p0 hp0=>?_⟩
  have s2:Same H1 (upd H1 p0 (.lst [])):=(smR H1).upd hp0
  have g2:upd H1 p0 (.lst []) p0=some (.lst (([]:List Int).map V.int)):=z0c
  have n0:p0≠lw:=fun z=>by rw[z,hlw]at hp0;cases hp0
  generalize upd H1 p0 (.lst [])=H2 at s2 g2
  refine⟨lw,_,m,.ref p0,rfl,by dsimp only;rw[hm],s2 _ _ hlw,by rw[elw];exact hml,z2r (by omega),?_⟩
  have ews:(wrefs ws).take m++V.ref p0::(wrefs ws).drop m=wrefs (ws.take m++(p0,[])::ws.drop m):=by simp[wrefs,List.map_take,List.map_drop]
  dsimp only
  rw[ews]
  have hmem:∀ r∈ws.take m++(p0,[])::ws.drop m,r∈ws∨r=(p0,[]):=fun r hr=>by
   rcases mApp hr with z|z
   ·exact .inl (List.mem_of_mem_take z)
   ·rcases List.mem_cons.mp z with z|z
    ·exact .inr z
    ·exact .inl (List.mem_of_mem_drop z)
  have hmv:∀ v∈wl (ws.take m++(p0,[])::ws.drop m),v∈wl ws∨v=[]:=fun v hv=>by
   unfold wl at hv
   obtain⟨r,hr,rfl⟩:=List.mem_map.mp hv
   rcases hmem r hr with z|z
   ·exact .inl (List.mem_map.mpr ⟨r,z,rfl⟩)
   ·rw[z];exact .inr rfl
  have htot:total (wl (ws.take m++(p0,[])::ws.drop m))=total (wl ws):=by
   have e1:wl ws=wl (ws.take m)++wl (ws.drop m):=by unfold wl;rw[←List.map_append,List.take_append_drop]
   have e2:wl (ws.take m++(p0,[])::ws.drop m)=wl (ws.take m)++[]::wl (ws.drop m):=by simp[wl]
   rw[e1,e2]
   simp[total]
  refine key9 h0 c ls lw bs (ws.take m++(p0,[])::ws.drop m) _ ((sm.trans s2).upd hlwH) (by rw[z0h nlw];exact s2 _ _ hls) hbl z0c (fun r hr=>?_) (fun v hv=>?_) (by omega) (by simp;omega) hc (y6q hc hL hS3 fun v hv y hy=>?_)
  ·rcases hmem r hr with z|z
   ·rw[z0h (hWn r z)];exact s2 _ _ (hW r z)
   ·rw[z,z0h n0];exact g2
  ·rcases hmv v hv with z|z
   ·exact hlet v z
   ·rw[z];exact⟨by simp,fun _ h=>nomatch h⟩
  ·rcases hmv v hv with z|z
   ·exact hLS v z y hy
   ·rw[z]at hy;cases hy
 obtain⟨u7,hu7,key7⟩:∃ u,PSs (cxOf CX0 P w K mg base n_law "law" (z0g s_law) f cdv A outer s H E).nox ((z0m s_law).drop 7) u /\
  ∀ (h0:Int) (c:Nat) (ls lw:Addr) (bs:List Bool) (ws:List Wr) (H1:Hp),Same H H1->H1 ls=some (.lst (bs.map V.bl))->bs.length=c->H1 lw=some (.lst (wrefs ws))->WsOk H1 ws->(∀ r∈ws,r.1≠lw)->ls≠lw->H lw=none->z7k c ws->total (wl ws)<=25->c<=24 ->
   u { nx:=fun _ H'=>Q .non H',rt:=Q } [some (.ref a),some (.int h0),some (.int c),some (.ref ls),some (.ref lw),none,none] H1:=by
  refine⟨_,(z0b (ps_if (PW.pt (y0t (z0k op_eq (pe_op z4k (pe_op z5t (pv 1) z0i) z0i) z0i (z0q _)) (z7v (z0k op_gt (pv 2) z0i (z0q _)))))
 (z0e (z0t (i:=4) sc_law.nd rfl (Or.inl rfl) (pe_op z7n (z0v c_l_all_signs hr (by decide) (z0a (pv 2) (z0a (z0v c_l_at hr (by decide) (z0a (pv 0) (z0a z0i z0d))) z0d))) (pv 4))))
 z0o)
 hu8),fun h0 c ls lw bs ws H1 sm hls hbl hlw hW hWn nlw hlwH hD ht hc=>?_⟩
  have hwl:=z9x hD
  have hlet:∀ v∈wl ws,v.length<=28/\∀ y∈v,y≠0/\y.natAbs<=c:=fun v hv=>by
   unfold wl at hv
   obtain⟨r,hr,rfl⟩:=List.mem_map.mp hv
   obtain⟨d1,d2,d3⟩:=hD r hr
   exact⟨by omega,fun y hy=>by have:=d3 y hy;unfold Lm at this;omega⟩
  have hLl:((wl ws).flatten).length=total (wl ws):=by simp[total,List.length_flatten]
  have hLm:∀ v∈wl ws,∀ y∈v,y∈(wl ws).flatten:=fun v hv y hy=>List.mem_flatten.mpr ⟨v,hv,hy⟩
  have skip:=key8 h0 c ls lw bs ws (wl ws).flatten [] H1 sm hls hbl hlw hW hWn nlw hlwH hlet (by omega) (by omega) hc (by omega) (by simp) fun v hv y hy=>.inl (hLm v hv y hy)
  refine⟨_,rfl,_,_,rfl,rfl,⟨by decide,by decide⟩,_,_,rfl,rfl,(by show (0:Int)<3;decide),rfl,_,rfl,ite2 (fun _=>⟨_,rfl,_,_,rfl,rfl,_,rfl,ite2 (fun c2=>?_) (fun _=>skip)⟩) (fun _=>iteF skip)⟩
  have c2':0<c:=by have:=of_decide_eq_true c2;omega
  refine⟨_,rfl,_,rfl,a,ns,1,rfl,sm.seq hS,c,ns.getD 1 0,rfl,c2',by omega,fun l2 us H2 hl2 s2 h2 hO2 hn2 hu8l hup=>?_⟩
  refine⟨_,rfl,l2,lw,_,_,rfl,rfl,h2,s2 _ _ hlw,z1m (by rw[z0w,z0w];omega),fun p3 hp3=>?_⟩
  have e3:wrefs us++wrefs ws=wrefs (us++ws):=by simp[wrefs]
  rw[e3]
  have s3:Same H2 (upd H2 p3 (.lst (wrefs (us++ws)))):=(smR H2).upd hp3
  have g3:upd H2 p3 (.lst (wrefs (us++ws))) p3=some (.lst (wrefs (us++ws))):=z0c
  generalize upd H2 p3 (.lst (wrefs (us++ws)))=H3 at s3 g3
  have s13:=s2.trans s3
  have hO12:∀ r∈us++ws,H2 r.1=some (.lst (r.2.map V.int)):=fun r hr=>(mApp hr).elim (hO2 r) (fun z=>s2 _ _ (hW r z))
  have hup':∀ v∈wl us,v.length=3/\∀ y∈v,y≠0/\y.natAbs<=c/\y.natAbs∈sgnS c (ns.getD 1 0):=fun v hv=>by
   unfold wl at hv
   obtain⟨r,hr,rfl⟩:=List.mem_map.mp hv
   exact hup r hr
  have ewl:wl (us++ws)=wl us++wl ws:=by simp[wl]
  have htu:total (wl us)<=24:=by
   have:=y1w (n:=3) (W:=wl us) fun v hv=>by have:=(hup' v hv).1;omega
   rw[z1h,hu8l]at this
   omega
  have hta:total (wl us++wl ws)=total (wl us)+total (wl ws):=by simp[total]
  refine key8 h0 c ls p3 bs (us++ws) (wl ws).flatten (sgnS c (ns.getD 1 0)) H3 (sm.trans s13) (s13 _ _ hls) hbl g3 (fun r hr=>s3 _ _ (hO12 r hr)) (fun r hr=>z0f (hO12 r hr) hp3) (z0f (s2 _ _ hls) hp3) (sm.free (s2.free hp3)) (fun v hv=>?_) (by rw[ewl];omega) (by simp;omega) hc (by omega) (by simp[sgnS]) (fun v hv y hy=>?_)
  ·rw[ewl]at hv
   rcases mApp hv with z|z
   ·exact⟨by have:=(hup' v z).1;omega,fun y hy=>⟨((hup' v z).2 y hy).1,((hup' v z).2 y hy).2.1⟩⟩
   ·exact hlet v z
  ·rw[ewl]at hv
   rcases mApp hv with z|z
   ·exact .inr ((hup' v z).2 y hy).2.2
   ·exact .inl (hLm v z y hy)
 obtain⟨u6,hu6,key6⟩:∃ u,PSs (cxOf CX0 P w K mg base n_law "law" (z0g s_law) f cdv A outer s H E).nox ((z0m s_law).drop 6) u /\
  ∀ (h0:Int) (c:Nat) (ls lw:Addr) (bs:List Bool) (ws:List Wr) (H1:Hp),Same H H1->H1 ls=some (.lst (bs.map V.bl))->bs.length=c->H1 lw=some (.lst (wrefs ws))->WsOk H1 ws->(∀ r∈ws,r.1≠lw)->ls≠lw->H lw=none->z7k c ws->total (wl ws)<=25->c<=24 ->
   u { nx:=fun _ H'=>Q .non H',rt:=Q } [some (.ref a),some (.int h0),some (.int c),some (.ref ls),some (.ref lw),none,none] H1:=by
  refine⟨_,(z0b (ps_if (z0k op_eq (pe_op z4k (pe_op z5t (pv 1) z0i) z0i) z0i (z0q _))
 (z0e (z0t (i:=4) sc_law.nd rfl (Or.inl rfl) (z0v c_l_planted hr (by decide) (z0a (pv 4) (z0a (pv 3) z0d)))))
 z0o)
 hu7),fun h0 c ls lw bs ws H1 sm hls hbl hlw hW hWn nlw hlwH hD ht hc=>?_⟩
  refine⟨_,rfl,_,_,rfl,rfl,⟨by decide,by decide⟩,_,_,rfl,rfl,(by show (0:Int)<3;decide),rfl,_,rfl,ite2 (fun _=>?_) (fun _=>key7 h0 c ls lw bs ws H1 sm hls hbl hlw hW hWn nlw hlwH hD ht hc)⟩
  have hwl:=z9x hD
  refine⟨_,rfl,_,rfl,lw,ls,ws,bs,c,rfl,qLo hlw,hW,hls,hD,by omega,by omega,fun l6 us H6 hl6 s6 h6 hO6 hDr6 hne6 het6 hul6=>?_⟩
  exact key7 h0 c ls l6 bs us H6 (sm.trans s6) (s6 _ _ hls) hbl h6 hO6 hne6 (z0f hls hl6) (sm.free hl6) hDr6 (by omega) hc
 obtain⟨u3,hu3,key3⟩:∃ u,PSs (cxOf CX0 P w K mg base n_law "law" (z0g s_law) f cdv A outer s H E).nox ((z0m s_law).drop 3) u /\
  ∀ (h0:Int) (c:Nat),c<=24 ->
   u { nx:=fun _ H'=>Q .non H',rt:=Q } [some (.ref a),some (.int h0),some (.int c),none,none,none,none] H:=by
  refine⟨_,(z0b (z0t (i:=3) sc_law.nd rfl (Or.inl rfl) (z0v c_l_setting_of hr (by decide) (z0a (z0v c_l_at hr (by decide) (z0a (pv 0) (z0a z0i z0d))) (z0a (pv 2) z0d))))
 (z0b (z0t (i:=4) sc_law.nd rfl (Or.inl rfl) (z1g z0d))
 (z0b (ps_if (z0k op_gt (pv 2) z0i (z0q _))
 (z0e (z0t (i:=4) sc_law.nd rfl (Or.inl rfl) (z0v c_l_wishes_of hr (by decide) (z0a (z7c z9b (pv 0) (z7x z0i) (z7x z0i)) (z0a (pv 2) z0d)))))
 z0o)
 hu6))),fun h0 c hc=>?_⟩
  refine⟨_,rfl,a,ns,1,rfl,hS,_,rfl,_,c,rfl,by omega,fun ls H2 hls s2 h2=>?_⟩
  have hbl:=y2b (ns.getD 1 0) c
  generalize z7r (ns.getD 1 0) c=bs at h2 hbl
  refine⟨by decide,fun lw hlw=>?_⟩
  have s3:Same H2 (upd H2 lw (.lst [])):=(smR H2).upd hlw
  have g3:upd H2 lw (.lst []) lw=some (.lst (wrefs [])):=z0c
  generalize upd H2 lw (.lst [])=H3 at s3 g3
  have s03:=s2.trans s3
  refine⟨_,rfl,_,_,rfl,rfl,_,rfl,ite2 (fun c1=>?_) (fun c1=>?_)⟩
  ·have c0:0<c:=by have:=of_decide_eq_true c1;omega
   obtain⟨cells,hcut,_,_⟩:=x8u ns (some 4) (some 29)
   have hcl:cells.length<=25:=by
    have:=w1g (xs:=ns.map V.int) (l:=4) (h:=29) (by decide)
    have e:cells.length=(cells.map V.int).length:=by simp
    rw[e,←hcut];exact this
   refine⟨_,rfl,_,rfl,_,rfl,a,_,rfl,s03.seq hS,fun pc hpc=>?_⟩
   rw[hcut]
   have s4:Same H3 (upd H3 pc (.lst (cells.map V.int))):=(smR H3).upd hpc
   have g4:upd H3 pc (.lst (cells.map V.int)) pc=some (.lst (cells.map V.int)):=z0c
   generalize upd H3 pc (.lst (cells.map V.int))=H4 at s4 g4
   refine⟨_,rfl,pc,cells,c,rfl,qLo g4,c0,by omega,by omega,fun l5 ws H5 hl5 s5 h5 hW5 hD5 hF5 ht5=>?_⟩
   have s05:=(s03.trans s4).trans s5
   have s25:=(s3.trans s4).trans s5
   exact key6 h0 c ls l5 bs ws H5 s05 (s25 _ _ h2) hbl h5 hW5 (fun r hr=>(hF5 r hr).2) (z0f (s4 _ _ (s3 _ _ h2)) hl5) (s03.free (s4.free hl5)) hD5 (by omega) hc
  ·exact key6 h0 c ls lw bs [] H3 s03 (s3 _ _ h2) hbl g3 (fun _ h=>nomatch h) (fun _ h=>nomatch h) (z0f h2 hlw) (s2.free hlw) (fun _ h=>nomatch h) (by simp[total,wl]) hc
 refine⟨_,(z0b (z0t (i:=1) sc_law.nd rfl (Or.inl rfl) (z0v c_l_at hr (by decide) (z0a (pv 0) (z0a z0i z0d))))
 (z0b (z0t (i:=2) sc_law.nd rfl (Or.inl rfl) (pe_op z4k (pv 1) z0i))
 (z0b (ps_if (z0k op_eq (pe_op z4k (z0v c_l_at hr (by decide) (z0a (pv 0) (z0a z0i z0d))) z0i) z0i (z0q _))
 (z0e (z0t (i:=2) sc_law.nd rfl (Or.inl rfl) (pe_op z6o z0i (pe_op z4k (pe_op z5t (z0v c_l_at hr (by decide) (z0a (pv 0) (z0a z0i z0d))) z0i) z0i))))
 z0o)
 hu3))),?_⟩
 refine⟨_,rfl,a,ns,0,rfl,hS,?_⟩
 generalize ns.getD 0 0=h0
 refine⟨_,rfl,_,_,rfl,rfl,(by show (0:Int)<9;decide),?_⟩
 have h1:=Int.emod_nonneg h0 (show (9:Int)≠0 by decide)
 have h2:=Int.emod_lt_of_pos h0 (show (0:Int)<9 by decide)
 have h3:=Int.emod_nonneg (ns.getD 2 0 / 32) (show (16:Int)≠0 by decide)
 have h4:=Int.emod_lt_of_pos (ns.getD 2 0 / 32) (show (0:Int)<16 by decide)
 obtain⟨c,ec⟩:∃ c:Nat,h0 % 9=(c:Int):=⟨(h0 % 9).toNat,by omega⟩
 obtain⟨d,ed⟩:∃ d:Nat,9+ns.getD 2 0 / 32 % 16=(d:Int):=⟨(9+ns.getD 2 0 / 32 % 16).toNat,by omega⟩
 refine⟨_,rfl,a,ns,2,rfl,hS,_,_,rfl,rfl,(by show (0:Int)<4;decide),rfl,_,rfl,ite2 (fun _=>?_) (fun _=>?_)⟩
 ·refine⟨_,rfl,a,ns,2,rfl,hS,_,_,rfl,rfl,⟨by decide,by decide⟩,_,_,rfl,rfl,(by show (0:Int)<16;decide),_,_,rfl,rfl,?_⟩
  dsimp only[gName]
  rw[ed]
  exact key3 h0 d (by omega)
 ·dsimp only[gName]
  rw[ec]
  exact key3 h0 c (by omega)
end
theorem all_mk {l:W.OpenLaw}{w:World}{K:W.Frag}{h:Heap}{mg:Str->Option Value}{fa:Addr}(X:K.In h)(G:h.Ns mainGlobals mg)(hfa:mg "law" = some (.ref fa))
 {f41:Addr} {od41 an41:Option Addr} {sl41:Array (Option Value)} {oc41 kV41 dc41 pm41 cd41 ct41:Value}
 (a41:W.nsIn K mainGlobals "merged" = some (some (.ref f41))) (l41:K.lookup f41=some ⟨oc41,od41,.func (W.fnOf "merged" "merged" (z0r z5k) (z0m z5k) (z0g z5k) .none kV41 dc41 pm41 an41 cd41 ct41),sl41⟩) (c41:W.codeIn K cd41 "merged" = true) (k41:W.keepIn K (.ref f41)=true)
 {f26:Addr} {od26 an26:Option Addr} {sl26:Array (Option Value)} {oc26 kV26 dc26 pm26 cd26 ct26:Value}
 (a26:W.nsIn K mainGlobals "left_open" = some (some (.ref f26))) (l26:K.lookup f26=some ⟨oc26,od26,.func (W.fnOf "left_open" "left_open" (z0r z3e) (z0m z3e) (z0g z3e) .none kV26 dc26 pm26 an26 cd26 ct26),sl26⟩) (c26:W.codeIn K cd26 "left_open" = true) (k26:W.keepIn K (.ref f26)=true)
 {f19:Addr} {od19 an19:Option Addr} {sl19:Array (Option Value)} {oc19 kV19 dc19 pm19 cd19 ct19:Value}
 (a19:W.nsIn K mainGlobals "each_once" = some (some (.ref f19))) (l19:K.lookup f19=some ⟨oc19,od19,.func (W.fnOf "each_once" "each_once" (z0r z3l) (z0m z3l) (z0g z3l) .none kV19 dc19 pm19 an19 cd19 ct19),sl19⟩) (c19:W.codeIn K cd19 "each_once" = true) (k19:W.keepIn K (.ref f19)=true)
 {f36:Addr} {od36 an36:Option Addr} {sl36:Array (Option Value)} {oc36 kV36 dc36 pm36 cd36 ct36:Value}
 (a36:W.nsIn K mainGlobals "marked" = some (some (.ref f36))) (l36:K.lookup f36=some ⟨oc36,od36,.func (W.fnOf "marked" "marked" (z0r z6d) (z0m z6d) (z0g z6d) .none kV36 dc36 pm36 an36 cd36 ct36),sl36⟩) (c36:W.codeIn K cd36 "marked" = true) (k36:W.keepIn K (.ref f36)=true)
 {f22:Addr} {od22 an22:Option Addr} {sl22:Array (Option Value)} {oc22 kV22 dc22 pm22 cd22 ct22:Value}
 (a22:W.nsIn K mainGlobals "free_lamp" = some (some (.ref f22))) (l22:K.lookup f22=some ⟨oc22,od22,.func (W.fnOf "free_lamp" "free_lamp" (z0r z3k) (z0m z3k) (z0g z3k) .none kV22 dc22 pm22 an22 cd22 ct22),sl22⟩) (c22:W.codeIn K cd22 "free_lamp" = true) (k22:W.keepIn K (.ref f22)=true)
 {f17:Addr} {od17 an17:Option Addr} {sl17:Array (Option Value)} {oc17 kV17 dc17 pm17 cd17 ct17:Value}
 (a17:W.nsIn K mainGlobals "gone_back" = some (some (.ref f17))) (l17:K.lookup f17=some ⟨oc17,od17,.func (W.fnOf "gone_back" "gone_back" (z0r z3j) (z0m z3j) (z0g z3j) .none kV17 dc17 pm17 an17 cd17 ct17),sl17⟩) (c17:W.codeIn K cd17 "gone_back" = true) (k17:W.keepIn K (.ref f17)=true)
 {f20:Addr} {od20 an20:Option Addr} {sl20:Array (Option Value)} {oc20 kV20 dc20 pm20 cd20 ct20:Value}
 (a20:W.nsIn K mainGlobals "step_back" = some (some (.ref f20))) (l20:K.lookup f20=some ⟨oc20,od20,.func (W.fnOf "step_back" "step_back" (z0r z2o) (z0m z2o) (z0g z2o) .none kV20 dc20 pm20 an20 cd20 ct20),sl20⟩) (c20:W.codeIn K cd20 "step_back" = true) (k20:W.keepIn K (.ref f20)=true)
 {f34:Addr} {od34 an34:Option Addr} {sl34:Array (Option Value)} {oc34 kV34 dc34 pm34 cd34 ct34:Value}
 (a34:W.nsIn K mainGlobals "solved" = some (some (.ref f34))) (l34:K.lookup f34=some ⟨oc34,od34,.func (W.fnOf "solved" "solved" (z0r z6b) (z0m z6b) (z0g z6b) .none kV34 dc34 pm34 an34 cd34 ct34),sl34⟩) (c34:W.codeIn K cd34 "solved" = true) (k34:W.keepIn K (.ref f34)=true)
 {f37:Addr} {od37 an37:Option Addr} {sl37:Array (Option Value)} {oc37 kV37 dc37 pm37 cd37 ct37:Value}
 (a37:W.nsIn K mainGlobals "search" = some (some (.ref f37))) (l37:K.lookup f37=some ⟨oc37,od37,.func (W.fnOf "search" "search" (z0r z6c) (z0m z6c) (z0g z6c) .none kV37 dc37 pm37 an37 cd37 ct37),sl37⟩) (c37:W.codeIn K cd37 "search" = true) (k37:W.keepIn K (.ref f37)=true)
 {f31:Addr} {od31 an31:Option Addr} {sl31:Array (Option Value)} {oc31 kV31 dc31 pm31 cd31 ct31:Value}
 (a31:W.nsIn K mainGlobals "go_back" = some (some (.ref f31))) (l31:K.lookup f31=some ⟨oc31,od31,.func (W.fnOf "go_back" "go_back" (z0r z4z) (z0m z4z) (z0g z4z) .none kV31 dc31 pm31 an31 cd31 ct31),sl31⟩) (c31:W.codeIn K cd31 "go_back" = true) (k31:W.keepIn K (.ref f31)=true)
 {f15:Addr} {od15 an15:Option Addr} {sl15:Array (Option Value)} {oc15 kV15 dc15 pm15 cd15 ct15:Value}
 (a15:W.nsIn K mainGlobals "next_guess" = some (some (.ref f15))) (l15:K.lookup f15=some ⟨oc15,od15,.func (W.fnOf "next_guess" "next_guess" (z0r z2v) (z0m z2v) (z0g z2v) .none kV15 dc15 pm15 an15 cd15 ct15),sl15⟩) (c15:W.codeIn K cd15 "next_guess" = true) (k15:W.keepIn K (.ref f15)=true)
 {f14:Addr} {od14 an14:Option Addr} {sl14:Array (Option Value)} {oc14 kV14 dc14 pm14 cd14 ct14:Value}
 (a14:W.nsIn K mainGlobals "setting_of" = some (some (.ref f14))) (l14:K.lookup f14=some ⟨oc14,od14,.func (W.fnOf "setting_of" "setting_of" (z0r z2u) (z0m z2u) (z0g z2u) .none kV14 dc14 pm14 an14 cd14 ct14),sl14⟩) (c14:W.codeIn K cd14 "setting_of" = true) (k14:W.keepIn K (.ref f14)=true)
 {f43:Addr} {od43 an43:Option Addr} {sl43:Array (Option Value)} {oc43 kV43 dc43 pm43 cd43 ct43:Value}
 (a43:W.nsIn K mainGlobals "shows" = some (some (.ref f43))) (l43:K.lookup f43=some ⟨oc43,od43,.func (W.fnOf "shows" "shows" (z0r z7t) (z0m z7t) (z0g z7t) .none kV43 dc43 pm43 an43 cd43 ct43),sl43⟩) (c43:W.codeIn K cd43 "shows" = true) (k43:W.keepIn K (.ref f43)=true)
 {f28:Addr} {od28 an28:Option Addr} {sl28:Array (Option Value)} {oc28 kV28 dc28 pm28 cd28 ct28:Value}
 (a28:W.nsIn K mainGlobals "is_right" = some (some (.ref f28))) (l28:K.lookup f28=some ⟨oc28,od28,.func (W.fnOf "is_right" "is_right" (z0r z4i) (z0m z4i) (z0g z4i) .none kV28 dc28 pm28 an28 cd28 ct28),sl28⟩) (c28:W.codeIn K cd28 "is_right" = true) (k28:W.keepIn K (.ref f28)=true)
 {f42:Addr} {od42 an42:Option Addr} {sl42:Array (Option Value)} {oc42 kV42 dc42 pm42 cd42 ct42:Value}
 (a42:W.nsIn K mainGlobals "_law_draw" = some (some (.ref f42))) (l42:K.lookup f42=some ⟨oc42,od42,.func (W.fnOf "_law_draw" "_law_draw" (z0r z6h) (z0m z6h) (z0g z6h) .none kV42 dc42 pm42 an42 cd42 ct42),sl42⟩) (c42:W.codeIn K cd42 "_law_draw" = true) (k42:W.keepIn K (.ref f42)=true)
 {f29:Addr} {od29 an29:Option Addr} {sl29:Array (Option Value)} {oc29 kV29 dc29 pm29 cd29 ct29:Value}
 (a29:W.nsIn K mainGlobals "_law_whole" = some (some (.ref f29))) (l29:K.lookup f29=some ⟨oc29,od29,.func (W.fnOf "_law_whole" "_law_whole" (z0r z4v) (z0m z4v) (z0g z4v) .none kV29 dc29 pm29 an29 cd29 ct29),sl29⟩) (c29:W.codeIn K cd29 "_law_whole" = true) (k29:W.keepIn K (.ref f29)=true)
 {f44:Addr} {od44 an44:Option Addr} {sl44:Array (Option Value)} {oc44 kV44 dc44 pm44 cd44 ct44:Value}
 (a44:W.nsIn K mainGlobals "_law_at" = some (some (.ref f44))) (l44:K.lookup f44=some ⟨oc44,od44,.func (W.fnOf "_law_at" "_law_at" (z0r y0s) (z0m y0s) (z0g y0s) .none kV44 dc44 pm44 an44 cd44 ct44),sl44⟩) (c44:W.codeIn K cd44 "_law_at" = true) (k44:W.keepIn K (.ref f44)=true)
 {f32:Addr} {od32 an32:Option Addr} {sl32:Array (Option Value)} {oc32 kV32 dc32 pm32 cd32 ct32:Value}
 (a32:W.nsIn K mainGlobals "_law_alike" = some (some (.ref f32))) (l32:K.lookup f32=some ⟨oc32,od32,.func (W.fnOf "_law_alike" "_law_alike" (z0r z4y) (z0m z4y) (z0g z4y) .none kV32 dc32 pm32 an32 cd32 ct32),sl32⟩) (c32:W.codeIn K cd32 "_law_alike" = true) (k32:W.keepIn K (.ref f32)=true)
 {f5:Addr} {od5 an5:Option Addr} {sl5:Array (Option Value)} {oc5 kV5 dc5 pm5 cd5 ct5:Value}
 (a5:W.nsIn K mainGlobals "_law_setting_of" = some (some (.ref f5))) (l5:K.lookup f5=some ⟨oc5,od5,.func (W.fnOf "_law_setting_of" "_law_setting_of" (z0r z1w) (z0m z1w) (z0g z1w) .none kV5 dc5 pm5 an5 cd5 ct5),sl5⟩) (c5:W.codeIn K cd5 "_law_setting_of" = true) (k5:W.keepIn K (.ref f5)=true)
 {f9:Addr} {od9 an9:Option Addr} {sl9:Array (Option Value)} {oc9 kV9 dc9 pm9 cd9 ct9:Value}
 (a9:W.nsIn K mainGlobals "_law_wishes_of" = some (some (.ref f9))) (l9:K.lookup f9=some ⟨oc9,od9,.func (W.fnOf "_law_wishes_of" "_law_wishes_of" (z0r z2d) (z0m z2d) (z0g z2d) .none kV9 dc9 pm9 an9 cd9 ct9),sl9⟩) (c9:W.codeIn K cd9 "_law_wishes_of" = true) (k9:W.keepIn K (.ref f9)=true)
 {f30:Addr} {od30 an30:Option Addr} {sl30:Array (Option Value)} {oc30 kV30 dc30 pm30 cd30 ct30:Value}
 (a30:W.nsIn K mainGlobals "_law_meets" = some (some (.ref f30))) (l30:K.lookup f30=some ⟨oc30,od30,.func (W.fnOf "_law_meets" "_law_meets" (z0r z4x) (z0m z4x) (z0g z4x) .none kV30 dc30 pm30 an30 cd30 ct30),sl30⟩) (c30:W.codeIn K cd30 "_law_meets" = true) (k30:W.keepIn K (.ref f30)=true)
 {f21:Addr} {od21 an21:Option Addr} {sl21:Array (Option Value)} {oc21 kV21 dc21 pm21 cd21 ct21:Value}
 (a21:W.nsIn K mainGlobals "_law_all_met" = some (some (.ref f21))) (l21:K.lookup f21=some ⟨oc21,od21,.func (W.fnOf "_law_all_met" "_law_all_met" (z0r z3i) (z0m z3i) (z0g z3i) .none kV21 dc21 pm21 an21 cd21 ct21),sl21⟩) (c21:W.codeIn K cd21 "_law_all_met" = true) (k21:W.keepIn K (.ref f21)=true)
 {f23:Addr} {od23 an23:Option Addr} {sl23:Array (Option Value)} {oc23 kV23 dc23 pm23 cd23 ct23:Value}
 (a23:W.nsIn K mainGlobals "_law_planted" = some (some (.ref f23))) (l23:K.lookup f23=some ⟨oc23,od23,.func (W.fnOf "_law_planted" "_law_planted" (z0r z3h) (z0m z3h) (z0g z3h) .none kV23 dc23 pm23 an23 cd23 ct23),sl23⟩) (c23:W.codeIn K cd23 "_law_planted" = true) (k23:W.keepIn K (.ref f23)=true)
 {f11:Addr} {od11 an11:Option Addr} {sl11:Array (Option Value)} {oc11 kV11 dc11 pm11 cd11 ct11:Value}
 (a11:W.nsIn K mainGlobals "_law_all_signs" = some (some (.ref f11))) (l11:K.lookup f11=some ⟨oc11,od11,.func (W.fnOf "_law_all_signs" "_law_all_signs" (z0r z2g) (z0m z2g) (z0g z2g) .none kV11 dc11 pm11 an11 cd11 ct11),sl11⟩) (c11:W.codeIn K cd11 "_law_all_signs" = true) (k11:W.keepIn K (.ref f11)=true)
 {f33:Addr} {od33 an33:Option Addr} {sl33:Array (Option Value)} {oc33 kV33 dc33 pm33 cd33 ct33:Value}
 (a33:W.nsIn K mainGlobals "_law_merge" = some (some (.ref f33))) (l33:K.lookup f33=some ⟨oc33,od33,.func (W.fnOf "_law_merge" "_law_merge" (z0r z4w) (z0m z4w) (z0g z4w) .none kV33 dc33 pm33 an33 cd33 ct33),sl33⟩) (c33:W.codeIn K cd33 "_law_merge" = true) (k33:W.keepIn K (.ref f33)=true)
 {f6:Addr} {od6 an6:Option Addr} {sl6:Array (Option Value)} {oc6 kV6 dc6 pm6 cd6 ct6:Value}
 (a6:W.nsIn K mainGlobals "_law_right_step" = some (some (.ref f6))) (l6:K.lookup f6=some ⟨oc6,od6,.func (W.fnOf "_law_right_step" "_law_right_step" (z0r z1x) (z0m z1x) (z0g z1x) .none kV6 dc6 pm6 an6 cd6 ct6),sl6⟩) (c6:W.codeIn K cd6 "_law_right_step" = true) (k6:W.keepIn K (.ref f6)=true)
 {f25:Addr} {od25 an25:Option Addr} {sl25:Array (Option Value)} {oc25 kV25 dc25 pm25 cd25 ct25:Value}
 (a25:W.nsIn K mainGlobals "_law_refuted" = some (some (.ref f25))) (l25:K.lookup f25=some ⟨oc25,od25,.func (W.fnOf "_law_refuted" "_law_refuted" (z0r z3g) (z0m z3g) (z0g z3g) .none kV25 dc25 pm25 an25 cd25 ct25),sl25⟩) (c25:W.codeIn K cd25 "_law_refuted" = true) (k25:W.keepIn K (.ref f25)=true)
 {f40:Addr} {od40 an40:Option Addr} {sl40:Array (Option Value)} {oc40 kV40 dc40 pm40 cd40 ct40:Value}
 (a40:W.nsIn K mainGlobals "_law_full" = some (some (.ref f40))) (l40:K.lookup f40=some ⟨oc40,od40,.func (W.fnOf "_law_full" "_law_full" (z0r z6g) (z0m z6g) (z0g z6g) .none kV40 dc40 pm40 an40 cd40 ct40),sl40⟩) (c40:W.codeIn K cd40 "_law_full" = true) (k40:W.keepIn K (.ref f40)=true)
 {f27:Addr} {od27 an27:Option Addr} {sl27:Array (Option Value)} {oc27 kV27 dc27 pm27 cd27 ct27:Value}
 (a27:W.nsIn K mainGlobals "_law_answer" = some (some (.ref f27))) (l27:K.lookup f27=some ⟨oc27,od27,.func (W.fnOf "_law_answer" "_law_answer" (z0r z4h) (z0m z4h) (z0g z4h) .none kV27 dc27 pm27 an27 cd27 ct27),sl27⟩) (c27:W.codeIn K cd27 "_law_answer" = true) (k27:W.keepIn K (.ref f27)=true)
 {f13:Addr} {od13 an13:Option Addr} {sl13:Array (Option Value)} {oc13 kV13 dc13 pm13 cd13 ct13:Value}
 (a13:W.nsIn K mainGlobals "_law_first_of" = some (some (.ref f13))) (l13:K.lookup f13=some ⟨oc13,od13,.func (W.fnOf "_law_first_of" "_law_first_of" (z0r z2w) (z0m z2w) (z0g z2w) .none kV13 dc13 pm13 an13 cd13 ct13),sl13⟩) (c13:W.codeIn K cd13 "_law_first_of" = true) (k13:W.keepIn K (.ref f13)=true)
 {f38:Addr} {od38 an38:Option Addr} {sl38:Array (Option Value)} {oc38 kV38 dc38 pm38 cd38 ct38:Value}
 (a38:W.nsIn K mainGlobals "_law_open" = some (some (.ref f38))) (l38:K.lookup f38=some ⟨oc38,od38,.func (W.fnOf "_law_open" "_law_open" (z0r z6e) (z0m z6e) (z0g z6e) .none kV38 dc38 pm38 an38 cd38 ct38),sl38⟩) (c38:W.codeIn K cd38 "_law_open" = true) (k38:W.keepIn K (.ref f38)=true)
 {f8:Addr} {od8 an8:Option Addr} {sl8:Array (Option Value)} {oc8 kV8 dc8 pm8 cd8 ct8:Value}
 (a8:W.nsIn K mainGlobals "_law_broken_at" = some (some (.ref f8))) (l8:K.lookup f8=some ⟨oc8,od8,.func (W.fnOf "_law_broken_at" "_law_broken_at" (z0r z2e) (z0m z2e) (z0g z2e) .none kV8 dc8 pm8 an8 cd8 ct8),sl8⟩) (c8:W.codeIn K cd8 "_law_broken_at" = true) (k8:W.keepIn K (.ref f8)=true)
 {f39:Addr} {od39 an39:Option Addr} {sl39:Array (Option Value)} {oc39 kV39 dc39 pm39 cd39 ct39:Value}
 (a39:W.nsIn K mainGlobals "_law_next" = some (some (.ref f39))) (l39:K.lookup f39=some ⟨oc39,od39,.func (W.fnOf "_law_next" "_law_next" (z0r z6f) (z0m z6f) (z0g z6f) .none kV39 dc39 pm39 an39 cd39 ct39),sl39⟩) (c39:W.codeIn K cd39 "_law_next" = true) (k39:W.keepIn K (.ref f39)=true)
 {f24:Addr} {od24 an24:Option Addr} {sl24:Array (Option Value)} {oc24 kV24 dc24 pm24 cd24 ct24:Value}
 (a24:W.nsIn K mainGlobals "_law_step_of" = some (some (.ref f24))) (l24:K.lookup f24=some ⟨oc24,od24,.func (W.fnOf "_law_step_of" "_law_step_of" (z0r z3f) (z0m z3f) (z0g z3f) .none kV24 dc24 pm24 an24 cd24 ct24),sl24⟩) (c24:W.codeIn K cd24 "_law_step_of" = true) (k24:W.keepIn K (.ref f24)=true)
 {f35:Addr} {od35 an35:Option Addr} {sl35:Array (Option Value)} {oc35 kV35 dc35 pm35 cd35 ct35:Value}
 (a35:W.nsIn K mainGlobals "_law_back" = some (some (.ref f35))) (l35:K.lookup f35=some ⟨oc35,od35,.func (W.fnOf "_law_back" "_law_back" (z0r z6i) (z0m z6i) (z0g z6i) .none kV35 dc35 pm35 an35 cd35 ct35),sl35⟩) (c35:W.codeIn K cd35 "_law_back" = true) (k35:W.keepIn K (.ref f35)=true)
 {f7:Addr} {od7 an7:Option Addr} {sl7:Array (Option Value)} {oc7 kV7 dc7 pm7 cd7 ct7:Value}
 (a7:W.nsIn K mainGlobals "_law_worked_out" = some (some (.ref f7))) (l7:K.lookup f7=some ⟨oc7,od7,.func (W.fnOf "_law_worked_out" "_law_worked_out" (z0r z1v) (z0m z1v) (z0g z1v) .none kV7 dc7 pm7 an7 cd7 ct7),sl7⟩) (c7:W.codeIn K cd7 "_law_worked_out" = true) (k7:W.keepIn K (.ref f7)=true)
 {f12:Addr} {od12 an12:Option Addr} {sl12:Array (Option Value)} {oc12 kV12 dc12 pm12 cd12 ct12:Value}
 (a12:W.nsIn K mainGlobals "_law_as_worked" = some (some (.ref f12))) (l12:K.lookup f12=some ⟨oc12,od12,.func (W.fnOf "_law_as_worked" "_law_as_worked" (z0r z2f) (z0m z2f) (z0g z2f) .none kV12 dc12 pm12 an12 cd12 ct12),sl12⟩) (c12:W.codeIn K cd12 "_law_as_worked" = true) (k12:W.keepIn K (.ref f12)=true)
 {f45:Addr} {od45 an45:Option Addr} {sl45:Array (Option Value)} {oc45 kV45 dc45 pm45 cd45 ct45:Value}
 (a45:W.nsIn K mainGlobals "law" = some (some (.ref f45))) (l45:K.lookup f45=some ⟨oc45,od45,.func (W.fnOf "law" "law" (z0r s_law) (z0m s_law) (z0g s_law) .none kV45 dc45 pm45 an45 cd45 ct45),sl45⟩) (c45:W.codeIn K cd45 "law" = true) (k45:W.keepIn K (.ref f45)=true)
 (z_len:W.nsIn K mainGlobals "len" = some none) (z_abs:W.nsIn K mainGlobals "abs" = some none) (z_isinstance:W.nsIn K mainGlobals "isinstance" = some none) (z_int:W.nsIn K mainGlobals "int" = some none) (z_bool:W.nsIn K mainGlobals "bool" = some none) (z_list:W.nsIn K mainGlobals "list" = some none) (z_tuple:W.nsIn K mainGlobals "tuple" = some none) (z_str:W.nsIn K mainGlobals "str" = some none) (z_range:W.nsIn K mainGlobals "range" = some none) (z_max:W.nsIn K mainGlobals "max" = some none) (z_min:W.nsIn K mainGlobals "min" = some none) (z_sorted:W.nsIn K mainGlobals "sorted" = some none) (z_set:W.nsIn K mainGlobals "set" = some none) (z_enumerate:W.nsIn K mainGlobals "enumerate" = some none) (z_reversed:W.nsIn K mainGlobals "reversed" = some none) (z_any:W.nsIn K mainGlobals "any" = some none) {C_R C_L:Addr} (xa_R:W.nsIn K mainGlobals "NoMerge" = some (some (.ref C_R))) (xa_L:W.nsIn K mainGlobals "LampError" = some (some (.ref C_L))) (xq_R:W.excIn K C_R bmVE "ValueError.__new__" = true) (xq_L:W.excIn K C_L bmVE "ValueError.__new__" = true) (xm:x5o K C_R C_L=true) (xz:W.nsIn K mainGlobals "ValueError" = some none) (xk3:W.kitOne K (.ref C_R) (.type "ValueError")=some true) (e1:W.findIn K (.ref C_R) "__getattribute__" = some (some (.builtin "BaseException.__getattribute__"))) (e2:W.findIn K (.ref C_R) "__class__" = some (some (.builtin "object.__class__"))) (e3:W.subIn K (.ref C_R) (.type "BaseException")=some true) (e4:W.subIn K (.ref C_R) (.type "object")=some true) (e5:(W.clsIn K C_R).isSome=true) (e6:W.findIn K (.ref C_R) "__getattr__" = some none) {C_Tally:Addr} (ya_Tally:W.nsIn K mainGlobals "Tally" = some (some (.ref C_Tally))) {f16:Addr} {od16 an16:Option Addr} {sl16:Array (Option Value)} {oc16 kV16 dc16 pm16 cd16 ct16:Value} (a16:W.findIn K (.ref C_Tally) "__init__" = some (some (.ref f16))) (i16:W.isFn K (.ref f16)=true) (l16:K.lookup f16=some ⟨oc16,od16,.func (W.fnOf "__init__" "Tally.__init__" (z0r z2x) (z0m z2x) (z0g z2x) .none kV16 dc16 pm16 an16 cd16 ct16),sl16⟩) (c16:W.codeIn K cd16 "Tally.__init__" = true) (k16:W.keepIn K (.ref f16)=true) {f2:Addr} {od2 an2:Option Addr} {sl2:Array (Option Value)} {oc2 kV2 dc2 pm2 cd2 ct2:Value} (a2:W.findIn K (.ref C_Tally) "put_wish" = some (some (.ref f2))) (i2:W.isFn K (.ref f2)=true) (l2:K.lookup f2=some ⟨oc2,od2,.func (W.fnOf "put_wish" "Tally.put_wish" (z0r z1k) (z0m z1k) (z0g z1k) .none kV2 dc2 pm2 an2 cd2 ct2),sl2⟩) (c2:W.codeIn K cd2 "Tally.put_wish" = true) (k2:W.keepIn K (.ref f2)=true) {f18:Addr} {od18 an18:Option Addr} {sl18:Array (Option Value)} {oc18 kV18 dc18 pm18 cd18 ct18:Value} (a18:W.findIn K (.ref C_Tally) "put" = some (some (.ref f18))) (i18:W.isFn K (.ref f18)=true) (l18:K.lookup f18=some ⟨oc18,od18,.func (W.fnOf "put" "Tally.put" (z0r z3m) (z0m z3m) (z0g z3m) .none kV18 dc18 pm18 an18 cd18 ct18),sl18⟩) (c18:W.codeIn K cd18 "Tally.put" = true) (k18:W.keepIn K (.ref f18)=true) {f3:Addr} {od3 an3:Option Addr} {sl3:Array (Option Value)} {oc3 kV3 dc3 pm3 cd3 ct3:Value} (a3:W.findIn K (.ref C_Tally) "take_off" = some (some (.ref f3))) (i3:W.isFn K (.ref f3)=true) (l3:K.lookup f3=some ⟨oc3,od3,.func (W.fnOf "take_off" "Tally.take_off" (z0r z1j) (z0m z1j) (z0g z1j) .none kV3 dc3 pm3 an3 cd3 ct3),sl3⟩) (c3:W.codeIn K cd3 "Tally.take_off" = true) (k3:W.keepIn K (.ref f3)=true) {f1:Addr} {od1 an1:Option Addr} {sl1:Array (Option Value)} {oc1 kV1 dc1 pm1 cd1 ct1:Value} (a1:W.findIn K (.ref C_Tally) "count_letter" = some (some (.ref f1))) (i1:W.isFn K (.ref f1)=true) (l1:K.lookup f1=some ⟨oc1,od1,.func (W.fnOf "count_letter" "Tally.count_letter" (z0r z1b) (z0m z1b) (z0g z1b) .none kV1 dc1 pm1 an1 cd1 ct1),sl1⟩) (c1:W.codeIn K cd1 "Tally.count_letter" = true) (k1:W.keepIn K (.ref f1)=true) {f4:Addr} {od4 an4:Option Addr} {sl4:Array (Option Value)} {oc4 kV4 dc4 pm4 cd4 ct4:Value} (a4:W.findIn K (.ref C_Tally) "sort_in" = some (some (.ref f4))) (i4:W.isFn K (.ref f4)=true) (l4:K.lookup f4=some ⟨oc4,od4,.func (W.fnOf "sort_in" "Tally.sort_in" (z0r z1p) (z0m z1p) (z0g z1p) .none kV4 dc4 pm4 an4 cd4 ct4),sl4⟩) (c4:W.codeIn K cd4 "Tally.sort_in" = true) (k4:W.keepIn K (.ref f4)=true) {f0:Addr} {od0 an0:Option Addr} {sl0:Array (Option Value)} {oc0 kV0 dc0 pm0 cd0 ct0:Value} (a0:W.findIn K (.ref C_Tally) "first_broken" = some (some (.ref f0))) (i0:W.isFn K (.ref f0)=true) (l0:K.lookup f0=some ⟨oc0,od0,.func (W.fnOf "first_broken" "Tally.first_broken" (z0r z1a) (z0m z1a) (z0g z1a) .none kV0 dc0 pm0 an0 cd0 ct0),sl0⟩) (c0:W.codeIn K cd0 "Tally.first_broken" = true) (k0:W.keepIn K (.ref f0)=true) {f10:Addr} {od10 an10:Option Addr} {sl10:Array (Option Value)} {oc10 kV10 dc10 pm10 cd10 ct10:Value} (a10:W.findIn K (.ref C_Tally) "go_on" = some (some (.ref f10))) (i10:W.isFn K (.ref f10)=true) (l10:K.lookup f10=some ⟨oc10,od10,.func (W.fnOf "go_on" "Tally.go_on" (z0r z2h) (z0m z2h) (z0g z2h) .none kV10 dc10 pm10 an10 cd10 ct10),sl10⟩) (c10:W.codeIn K cd10 "Tally.go_on" = true) (k10:W.keepIn K (.ref f10)=true) (yp_Tally:W.plainGet K C_Tally Str.empty=true) (yh_Tally:W.hasDictIn K C_Tally=true) (yo_Tally:W.plainOver K C_Tally=true) (ys_Tally:W.findIn K (.ref C_Tally) "__setattr__" = some (some (.builtin "object.__setattr__"))) (ym_Tally:W.makesIn K C_Tally=true) (yk_Tally:W.keepIn K (.ref C_Tally)=true) (yn_Tally_wishes:W.findIn K (.ref C_Tally) "wishes" = some none) (yn_Tally_trail:W.findIn K (.ref C_Tally) "trail" = some none) (yn_Tally_taken:W.findIn K (.ref C_Tally) "taken" = some none) (yn_Tally_places:W.findIn K (.ref C_Tally) "places" = some none) (yn_Tally_so:W.findIn K (.ref C_Tally) "so" = some none) (yn_Tally_left:W.findIn K (.ref C_Tally) "left" = some none) (yn_Tally_failing:W.findIn K (.ref C_Tally) "failing" = some none) (yn_Tally_forcing:W.findIn K (.ref C_Tally) "forcing" = some none) :
 ∃ fd:FuncData,(∀ (s:Shared) (v:Value),BindsTo s fd ⟨[v],[]⟩ [("_law_script",v)])/\∀ base:Heap,K.In base->base.Ns mainGlobals mg->FnOk l.prog w K mg base CX0 lawK fa fd ["_law_script"] (spLaw K):=by
 have e:=hfa.symm.trans (W.mg_of X G a45)
 cases e
 have B:Blt mg:=⟨W.mg_none_of X G z_len,W.mg_none_of X G z_abs,W.mg_none_of X G z_isinstance,W.mg_none_of X G z_int,W.mg_none_of X G z_bool,W.mg_none_of X G z_list,W.mg_none_of X G z_tuple,W.mg_none_of X G z_str,W.mg_none_of X G z_range,W.mg_none_of X G z_max,W.mg_none_of X G z_min,W.mg_none_of X G z_sorted,W.mg_none_of X G z_set,W.mg_none_of X G z_enumerate,W.mg_none_of X G z_reversed,W.mg_none_of X G z_any⟩
 have D41:Def K mg "merged" z5k z4o:=z1o (st:=z5k) X G a41 l41 c41 k41 fun _ _ _ _ _ _ us hl=>match us,hl with | [_,_,_],_=>rfl
 have D26:Def K mg "left_open" z3e z4b:=z1o (st:=z3e) X G a26 l26 c26 k26 fun _ _ _ _ _ _ us hl=>match us,hl with | [_,_],_=>rfl
 have D19:Def K mg "each_once" z3l z3p:=z1o (st:=z3l) X G a19 l19 c19 k19 fun _ _ _ _ _ _ us hl=>match us,hl with | [_],_=>rfl
 have D36:Def K mg "marked" z6d z6m:=z1o (st:=z6d) X G a36 l36 c36 k36 fun _ _ _ _ _ _ us hl=>match us,hl with | [_],_=>rfl
 have D22:Def K mg "free_lamp" z3k z4f:=z1o (st:=z3k) X G a22 l22 c22 k22 fun _ _ _ _ _ _ us hl=>match us,hl with | [_,_],_=>rfl
 have D17:Def K mg "gone_back" z3j z4e:=z1o (st:=z3j) X G a17 l17 c17 k17 fun _ _ _ _ _ _ us hl=>match us,hl with | [_,_,_],_=>rfl
 have D20:Def K mg "step_back" z2o z4q:=z1o (st:=z2o) X G a20 l20 c20 k20 fun _ _ _ _ _ _ us hl=>match us,hl with | [_,_,_,_],_=>rfl
 have D34:Def K mg "solved" z6b z8j:=z1o (st:=z6b) X G a34 l34 c34 k34 fun _ _ _ _ _ _ us hl=>match us,hl with | [_,_],_=>rfl
 have D37:Def K mg "search" z6c z7d:=z1o (st:=z6c) X G a37 l37 c37 k37 fun _ _ _ _ _ _ us hl=>match us,hl with | [_,_,_],_=>rfl
 have D31:Def K mg "go_back" z4z z5s:=z1o (st:=z4z) X G a31 l31 c31 k31 fun _ _ _ _ _ _ us hl=>match us,hl with | [_,_],_=>rfl
 have D15:Def K mg "next_guess" z2v z3o:=z1o (st:=z2v) X G a15 l15 c15 k15 fun _ _ _ _ _ _ us hl=>match us,hl with | [_,_,_],_=>rfl
 have D14:Def K mg "setting_of" z2u z3n:=z1o (st:=z2u) X G a14 l14 c14 k14 fun _ _ _ _ _ _ us hl=>match us,hl with | [_,_],_=>rfl
 have D43:Def K mg "shows" z7t y0g:=z1o (st:=z7t) X G a43 l43 c43 k43 fun _ _ _ _ _ _ us hl=>match us,hl with | [_,_],_=>rfl
 have D28:Def K mg "is_right" z4i z4t:=z1o (st:=z4i) X G a28 l28 c28 k28 fun _ _ _ _ _ _ us hl=>match us,hl with | [_,_],_=>rfl
 have D42:Def K mg "_law_draw" z6h z7f:=z1o (st:=z6h) X G a42 l42 c42 k42 fun _ _ _ _ _ _ us hl=>match us,hl with | [_,_,_],_=>rfl
 have D29:Def K mg "_law_whole" z4v z5d:=z1o (st:=z4v) X G a29 l29 c29 k29 fun _ _ _ _ _ _ us hl=>match us,hl with | [_],_=>rfl
 have D44:Def K mg "_law_at" y0s y3v:=z1o (st:=y0s) X G a44 l44 c44 k44 fun _ _ _ _ _ _ us hl=>match us,hl with | [_,_],_=>rfl
 have D32:Def K mg "_law_alike" z4y z5g:=z1o (st:=z4y) X G a32 l32 c32 k32 fun _ _ _ _ _ _ us hl=>match us,hl with | [_,_],_=>rfl
 have D5:Def K mg "_law_setting_of" z1w z3c:=z1o (st:=z1w) X G a5 l5 c5 k5 fun _ _ _ _ _ _ us hl=>match us,hl with | [_,_],_=>rfl
 have D9:Def K mg "_law_wishes_of" z2d z3t:=z1o (st:=z2d) X G a9 l9 c9 k9 fun _ _ _ _ _ _ us hl=>match us,hl with | [_,_],_=>rfl
 have D30:Def K mg "_law_meets" z4x z5f:=z1o (st:=z4x) X G a30 l30 c30 k30 fun _ _ _ _ _ _ us hl=>match us,hl with | [_,_],_=>rfl
 have D21:Def K mg "_law_all_met" z3i z4d:=z1o (st:=z3i) X G a21 l21 c21 k21 fun _ _ _ _ _ _ us hl=>match us,hl with | [_,_],_=>rfl
 have D23:Def K mg "_law_planted" z3h z4s:=z1o (st:=z3h) X G a23 l23 c23 k23 fun _ _ _ _ _ _ us hl=>match us,hl with | [_,_],_=>rfl
 have D11:Def K mg "_law_all_signs" z2g z3v:=z1o (st:=z2g) X G a11 l11 c11 k11 fun _ _ _ _ _ _ us hl=>match us,hl with | [_,_],_=>rfl
 have D33:Def K mg "_law_merge" z4w z5e:=z1o (st:=z4w) X G a33 l33 c33 k33 fun _ _ _ _ _ _ us hl=>match us,hl with | [_,_,_],_=>rfl
 have D6:Def K mg "_law_right_step" z1x z2p:=z1o (st:=z1x) X G a6 l6 c6 k6 fun _ _ _ _ _ _ us hl=>match us,hl with | [_,_],_=>rfl
 have D25:Def K mg "_law_refuted" z3g z4r:=z1o (st:=z3g) X G a25 l25 c25 k25 fun _ _ _ _ _ _ us hl=>match us,hl with | [_,_],_=>rfl
 have D40:Def K mg "_law_full" z6g z8k:=z1o (st:=z6g) X G a40 l40 c40 k40 fun _ _ _ _ _ _ us hl=>match us,hl with | [_,_],_=>rfl
 have D27:Def K mg "_law_answer" z4h z5q:=z1o (st:=z4h) X G a27 l27 c27 k27 fun _ _ _ _ _ _ us hl=>match us,hl with | [_],_=>rfl
 have D13:Def K mg "_law_first_of" z2w z4j:=z1o (st:=z2w) X G a13 l13 c13 k13 fun _ _ _ _ _ _ us hl=>match us,hl with | [_,_],_=>rfl
 have D38:Def K mg "_law_open" z6e z6n:=z1o (st:=z6e) X G a38 l38 c38 k38 fun _ _ _ _ _ _ us hl=>match us,hl with | [_,_],_=>rfl
 have D8:Def K mg "_law_broken_at" z2e z2i:=z1o (st:=z2e) X G a8 l8 c8 k8 fun _ _ _ _ _ _ us hl=>match us,hl with | [_,_],_=>rfl
 have D39:Def K mg "_law_next" z6f z7e:=z1o (st:=z6f) X G a39 l39 c39 k39 fun _ _ _ _ _ _ us hl=>match us,hl with | [_,_],_=>rfl
 have D24:Def K mg "_law_step_of" z3f z4c:=z1o (st:=z3f) X G a24 l24 c24 k24 fun _ _ _ _ _ _ us hl=>match us,hl with | [_,_,_,_],_=>rfl
 have D35:Def K mg "_law_back" z6i z7g:=z1o (st:=z6i) X G a35 l35 c35 k35 fun _ _ _ _ _ _ us hl=>match us,hl with | [_,_,_],_=>rfl
 have D7:Def K mg "_law_worked_out" z1v z3b:=z1o (st:=z1v) X G a7 l7 c7 k7 fun _ _ _ _ _ _ us hl=>match us,hl with | [_,_],_=>rfl
 have D12:Def K mg "_law_as_worked" z2f z3u:=z1o (st:=z2f) X G a12 l12 c12 k12 fun _ _ _ _ _ _ us hl=>match us,hl with | [_,_],_=>rfl
 refine⟨W.fnOf "law" "law" (z0r s_law) (z0m s_law) (z0g s_law) .none kV45 dc45 pm45 an45 cd45 ct45,fun s v=>.of_eq rfl,fun base Xb Gb=>?_⟩
 exact ok_law (y7t (st:=s_law) l45 c45 k45) B D41 D26 D19 D36 D22 D17 D20 D34 D37 D31 D15 D14 D43 D28 D42 D29 D44 D32 D5 D9 D30 D21 D23 D11 D33 D6 D25 D40 D27 D13 D38 D8 D39 D24 D35 D7 D12 (⟨w2f Xb Gb xa_R xq_R,W.mg_of X G xa_L,x8v Xb xq_R xq_L (by decide +kernel) xm,⟨e1,e2,e3,e4,e5,e6⟩,W.mg_none_of X G xz,xk3⟩:ExcTop "NoMerge" K mg base C_R C_L) (⟨⟨yp_Tally,yh_Tally,yo_Tally,ys_Tally⟩,yn_Tally_wishes,yn_Tally_trail,yn_Tally_taken,yn_Tally_places,yn_Tally_so,yn_Tally_left,yn_Tally_failing,yn_Tally_forcing,W.mg_of X G ya_Tally,ym_Tally,yk_Tally⟩:TallyCls K mg C_Tally) (z7z (st:=z2x) (ps:=z2j) a16 i16 l16 c16 k16 fun _ _ _ _ _ _ us hl=>match us,hl with | [_,_],_=>rfl:MDef K C_Tally "__init__" "Tally.__init__" z2x z2j) (z7z (st:=z1k) (ps:=z1e) a2 i2 l2 c2 k2 fun _ _ _ _ _ _ us hl=>match us,hl with | [_,_],_=>rfl:MDef K C_Tally "put_wish" "Tally.put_wish" z1k z1e) (z7z (st:=z3m) (ps:=z2q) a18 i18 l18 c18 k18 fun _ _ _ _ _ _ us hl=>match us,hl with | [_,_,_],_=>rfl:MDef K C_Tally "put" "Tally.put" z3m z2q) (z7z (st:=z1j) (ps:=z1l) a3 i3 l3 c3 k3 fun _ _ _ _ _ _ us hl=>match us,hl with | [_],_=>rfl:MDef K C_Tally "take_off" "Tally.take_off" z1j z1l) (z7z (st:=z1b) (ps:=z0y) a1 i1 l1 c1 k1 fun _ _ _ _ _ _ us hl=>match us,hl with | [_,_,_],_=>rfl:MDef K C_Tally "count_letter" "Tally.count_letter" z1b z0y) (z7z (st:=z1p) (ps:=z1i) a4 i4 l4 c4 k4 fun _ _ _ _ _ _ us hl=>match us,hl with | [_,_],_=>rfl:MDef K C_Tally "sort_in" "Tally.sort_in" z1p z1i) (z7z (st:=z1a) (ps:=z0x) a0 i0 l0 c0 k0 fun _ _ _ _ _ _ us hl=>match us,hl with | [_],_=>rfl:MDef K C_Tally "first_broken" "Tally.first_broken" z1a z0x) (z7z (st:=z2h) (ps:=z2k) a10 i10 l10 c10 k10 fun _ _ _ _ _ _ us hl=>match us,hl with | [_],_=>rfl:MDef K C_Tally "go_on" "Tally.go_on" z2h z2k)
theorem walk {l:PySem.W.OpenLaw}{q:Program}{loose:List Str}{XP:(Str->Option Value)->Heap->Prop}{YP:World->Heap->Prop}{d:DefRec}{K:Params->PySem.W.Frag}(hn:l.most=some 63)(hdf:d.params.defaults=[])
 (hY:∀ (w:World) (h:Heap),YP w h->(K w.params).In h)
 (F:∀ (w:World) (mg:Str->Option Value) (fa:Addr) (h:Heap),(K w.params).In h->h.Ns mainGlobals mg->mg d.name=some (.ref fa) ->
  ∃ fd:FuncData,(∀ (s:Shared) (u:Value),BindsTo s fd ⟨[u],[]⟩ [("_law_script",u)])/\∀ base:Heap,(K w.params).In base->base.Ns mainGlobals mg->FnOk l.prog w (K w.params) mg base CX0 lawK fa fd ["_law_script"] (spLaw (K w.params))) :
 PySem.W.WalkO q loose XP YP l.row.toRowW d [] (fun f vs=>PySem.call f vs) :=
 L2.walk_of (n:=63) (k:=lawK) (x:="_law_script") (CX:=fun _=>CX0) (sp:=fun w=>spLaw (K w.params)) hn (by decide) hdf ⟨rfl,by decide,by decide⟩ hY F (fun _ _ a ns hl _ hS=>⟨a,ns,rfl,hS,hl,fun _=>rfl⟩) fun _ _ _ _ _ z=>z
end My
open PySem PySem.W PyProof.Rows
set_option maxRecDepth 100000 in
set_option maxHeartbeats 0 in
theorem PySem.Challenge.cw_lampwish_k06_whole_solved_holds : PySem.Challenge.rw_lampwish_k06_whole_solved.Holds := by
 w_on;o_law
 refine PySem.W.holds_open (q:=My.qv) (loose:=[]) (Xt:=fun s=>PySem.W.xlAt My.qv [] s&&PySem.W.recOk (PySem.W.RowW.records PySem.Challenge.rw_lampwish_k06_whole_solved.row.toRowW) s) (XP:=PySem.W.XL My.qv []) (Yf:=PySem.W.Hook.obs (PySem.W.kHook My.hk My.hkA My.hkE)) (Ya:=PySem.W.Hook.val (PySem.W.kHook My.hk My.hkA My.hkE)) (YP:=PySem.W.Hook.says (PySem.W.kHook My.hk My.hkA My.hkE)) (N:=4300) My.left (PySem.W.Hook.of (PySem.W.kHook My.hk My.hkA My.hkE)) (PySem.W.Hook.keeps (PySem.W.kHook My.hk My.hkA My.hkE)) (fun s e=>PySem.W.xl_of s (Bool.and_eq_true_iff.mp e).1) PySem.W.XL.keeps (by rfl) (by rfl) (by rfl) (fun s e=>PySem.W.recFacts_of (Bool.and_eq_true_iff.mp e).2) (by rfl) (by first | assumption | decide +kernel) (by decide +kernel) ⟨rfl,rfl,rfl,rfl,rfl,by decide +kernel⟩ ?hw ?hc
 (case hw=>w_witness2)
 k_fill
 refine My.walk (l:=PySem.Challenge.rw_lampwish_k06_whole_solved) rfl rfl (fun w h Y=>PySem.W.kIn_of Y) ?F
 case F =>
  intro w mg fa h KX G hmg
  refine' My.all_mk KX G hmg ?a41 ?l41 ?c41 ?k41 ?a26 ?l26 ?c26 ?k26 ?a19 ?l19 ?c19 ?k19 ?a36 ?l36 ?c36 ?k36 ?a22 ?l22 ?c22 ?k22 ?a17 ?l17 ?c17 ?k17 ?a20 ?l20 ?c20 ?k20 ?a34 ?l34 ?c34 ?k34 ?a37 ?l37 ?c37 ?k37 ?a31 ?l31 ?c31 ?k31 ?a15 ?l15 ?c15 ?k15 ?a14 ?l14 ?c14 ?k14 ?a43 ?l43 ?c43 ?k43 ?a28 ?l28 ?c28 ?k28 ?a42 ?l42 ?c42 ?k42 ?a29 ?l29 ?c29 ?k29 ?a44 ?l44 ?c44 ?k44 ?a32 ?l32 ?c32 ?k32 ?a5 ?l5 ?c5 ?k5 ?a9 ?l9 ?c9 ?k9 ?a30 ?l30 ?c30 ?k30 ?a21 ?l21 ?c21 ?k21 ?a23 ?l23 ?c23 ?k23 ?a11 ?l11 ?c11 ?k11 ?a33 ?l33 ?c33 ?k33 ?a6 ?l6 ?c6 ?k6 ?a25 ?l25 ?c25 ?k25 ?a40 ?l40 ?c40 ?k40 ?a27 ?l27 ?c27 ?k27 ?a13 ?l13 ?c13 ?k13 ?a38 ?l38 ?c38 ?k38 ?a8 ?l8 ?c8 ?k8 ?a39 ?l39 ?c39 ?k39 ?a24 ?l24 ?c24 ?k24 ?a35 ?l35 ?c35 ?k35 ?a7 ?l7 ?c7 ?k7 ?a12 ?l12 ?c12 ?k12 ?a45 ?l45 ?c45 ?k45 ?z_len ?z_abs ?z_isinstance ?z_int ?z_bool ?z_list ?z_tuple ?z_str ?z_range ?z_max ?z_min ?z_sorted ?z_set ?z_enumerate ?z_reversed ?z_any ?xa_R ?xa_L ?xq_R ?xq_L ?xm ?xz ?xk3 ?e1 ?e2 ?e3 ?e4 ?e5 ?e6 ?ya_Tally ?a16 ?i16 ?l16 ?c16 ?k16 ?a2 ?i2 ?l2 ?c2 ?k2 ?a18 ?i18 ?l18 ?c18 ?k18 ?a3 ?i3 ?l3 ?c3 ?k3 ?a1 ?i1 ?l1 ?c1 ?k1 ?a4 ?i4 ?l4 ?c4 ?k4 ?a0 ?i0 ?l0 ?c0 ?k0 ?a10 ?i10 ?l10 ?c10 ?k10 ?yp_Tally ?yh_Tally ?yo_Tally ?ys_Tally ?ym_Tally ?yk_Tally ?yn_Tally_wishes ?yn_Tally_trail ?yn_Tally_taken ?yn_Tally_places ?yn_Tally_so ?yn_Tally_left ?yn_Tally_failing ?yn_Tally_forcing
  (case a41=>k_is);(case l41=>k_is);(case c41=>k_is);(case k41=>k_is)
  (case a26=>k_is);(case l26=>k_is);(case c26=>k_is);(case k26=>k_is)
  (case a19=>k_is);(case l19=>k_is);(case c19=>k_is);(case k19=>k_is)
  (case a36=>k_is);(case l36=>k_is);(case c36=>k_is);(case k36=>k_is)
  (case a22=>k_is);(case l22=>k_is);(case c22=>k_is);(case k22=>k_is)
  (case a17=>k_is);(case l17=>k_is);(case c17=>k_is);(case k17=>k_is)
  (case a20=>k_is);(case l20=>k_is);(case c20=>k_is);(case k20=>k_is)
  (case a34=>k_is);(case l34=>k_is);(case c34=>k_is);(case k34=>k_is)
  (case a37=>k_is);(case l37=>k_is);(case c37=>k_is);(case k37=>k_is)
  (case a31=>k_is);(case l31=>k_is);(case c31=>k_is);(case k31=>k_is)
  (case a15=>k_is);(case l15=>k_is);(case c15=>k_is);(case k15=>k_is)
  (case a14=>k_is);(case l14=>k_is);(case c14=>k_is);(case k14=>k_is)
  (case a43=>k_is);(case l43=>k_is);(case c43=>k_is);(case k43=>k_is)
  (case a28=>k_is);(case l28=>k_is);(case c28=>k_is);(case k28=>k_is)
  (case a42=>k_is);(case l42=>k_is);(case c42=>k_is);(case k42=>k_is)
  (case a29=>k_is);(case l29=>k_is);(case c29=>k_is);(case k29=>k_is)
  (case a44=>k_is);(case l44=>k_is);(case c44=>k_is);(case k44=>k_is)
  (case a32=>k_is);(case l32=>k_is);(case c32=>k_is);(case k32=>k_is)
  (case a5=>k_is);(case l5=>k_is);(case c5=>k_is);(case k5=>k_is)
  (case a9=>k_is);(case l9=>k_is);(case c9=>k_is);(case k9=>k_is)
  (case a30=>k_is);(case l30=>k_is);(case c30=>k_is);(case k30=>k_is)
  (case a21=>k_is);(case l21=>k_is);(case c21=>k_is);(case k21=>k_is)
  (case a23=>k_is);(case l23=>k_is);(case c23=>k_is);(case k23=>k_is)
  (case a11=>k_is);(case l11=>k_is);(case c11=>k_is);(case k11=>k_is)
  (case a33=>k_is);(case l33=>k_is);(case c33=>k_is);(case k33=>k_is)
  (case a6=>k_is);(case l6=>k_is);(case c6=>k_is);(case k6=>k_is)
  (case a25=>k_is);(case l25=>k_is);(case c25=>k_is);(case k25=>k_is)
  (case a40=>k_is);(case l40=>k_is);(case c40=>k_is);(case k40=>k_is)
  (case a27=>k_is);(case l27=>k_is);(case c27=>k_is);(case k27=>k_is)
  (case a13=>k_is);(case l13=>k_is);(case c13=>k_is);(case k13=>k_is)
  (case a38=>k_is);(case l38=>k_is);(case c38=>k_is);(case k38=>k_is)
  (case a8=>k_is);(case l8=>k_is);(case c8=>k_is);(case k8=>k_is)
  (case a39=>k_is);(case l39=>k_is);(case c39=>k_is);(case k39=>k_is)
  (case a24=>k_is);(case l24=>k_is);(case c24=>k_is);(case k24=>k_is)
  (case a35=>k_is);(case l35=>k_is);(case c35=>k_is);(case k35=>k_is)
  (case a7=>k_is);(case l7=>k_is);(case c7=>k_is);(case k7=>k_is)
  (case a12=>k_is);(case l12=>k_is);(case c12=>k_is);(case k12=>k_is)
  (case a45=>k_is);(case l45=>k_is);(case c45=>k_is);(case k45=>k_is)
  (case z_len=>k_is);(case z_abs=>k_is);(case z_isinstance=>k_is);(case z_int=>k_is);(case z_bool=>k_is);(case z_list=>k_is);(case z_tuple=>k_is);(case z_str=>k_is);(case z_range=>k_is);(case z_max=>k_is);(case z_min=>k_is);(case z_sorted=>k_is);(case z_set=>k_is);(case z_enumerate=>k_is);(case z_reversed=>k_is);(case z_any=>k_is)
  (case xa_R=>k_is);(case xa_L=>k_is);(case xq_R=>k_exc);(case xq_L=>k_exc);(case xm=>kernel_rfl);(case xz=>k_is);(case xk3=>kernel_rfl);(case e1=>k_is);(case e2=>k_is);(case e3=>k_is);(case e4=>k_is);(case e5=>kernel_rfl);(case e6=>k_is)
  (case ya_Tally=>k_is);(case a16=>k_is);(case i16=>k_is);(case l16=>k_is);(case c16=>k_is);(case k16=>k_is);(case a2=>k_is);(case i2=>k_is);(case l2=>k_is);(case c2=>k_is);(case k2=>k_is);(case a18=>k_is);(case i18=>k_is);(case l18=>k_is);(case c18=>k_is);(case k18=>k_is);(case a3=>k_is);(case i3=>k_is);(case l3=>k_is);(case c3=>k_is);(case k3=>k_is);(case a1=>k_is);(case i1=>k_is);(case l1=>k_is);(case c1=>k_is);(case k1=>k_is);(case a4=>k_is);(case i4=>k_is);(case l4=>k_is);(case c4=>k_is);(case k4=>k_is);(case a0=>k_is);(case i0=>k_is);(case l0=>k_is);(case c0=>k_is);(case k0=>k_is);(case a10=>k_is);(case i10=>k_is);(case l10=>k_is);(case c10=>k_is);(case k10=>k_is);(case yp_Tally=>k_is);(case yh_Tally=>k_is);(case yo_Tally=>k_is);(case ys_Tally=>k_is);(case ym_Tally=>k_is);(case yk_Tally=>k_is);(case yn_Tally_wishes=>k_is);(case yn_Tally_trail=>k_is);(case yn_Tally_taken=>k_is);(case yn_Tally_places=>k_is);(case yn_Tally_so=>k_is);(case yn_Tally_left=>k_is);(case yn_Tally_failing=>k_is);(case yn_Tally_forcing=>k_is)
#print axioms PySem.Challenge.cw_lampwish_k06_whole_solved_holds
