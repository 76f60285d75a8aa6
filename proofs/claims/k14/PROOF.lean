import PyProof.Rows.All
import Wide.All
import OpenK.AllK
import Wide.FinOn
import Lean
import PyProof.EqAt
import PyProof.EqKinds
import PyProof.TupleCall
import PySem.Challenge.RW_lampwish_k14_whole_weighed
set_option Elab.async false
set_option linter.all false
set_option maxRecDepth 100000
set_option maxHeartbeats 4000000
namespace L2
open PySem PySem.Spec PyProof.Rows
def z0s (s:Stmt):Arguments:=match s with
 | .FunctionDef _ a _ _ _ _ _ _ _ _=>a
 | _=>{ posonlyargs:=[],args:=[],vararg:=none,kwonlyargs:=[],kw_defaults:=[],kwarg:=none,defaults:=[] }
def z0m (s:Stmt):List Stmt:=match s with
 | .FunctionDef _ _ b _ _ _ _ _ _ _=>b
 | _=>[]
def z0f (s:Stmt):Scope:=match s with
 | .FunctionDef _ _ _ _ _ _ sc _ _ _=>sc
 | _=>{ kind:=.function,names:=[],isGenerator:=false,isCoroutine:=false }
def z3o (s:Stmt) (j:Nat):Stmt:=match s with
 | .ClassDef _ _ _ body _ _ _ _ _ _ _=>body.getD j (.Pass ⟨0,0,0,0⟩)
 | _=>.Pass ⟨0,0,0,0⟩
end L2
namespace My
open PySem L2 PySem.Spec PyProof.Rows
def top (i:Nat):Stmt:=PySem.Challenge.pw_lampwish_k14_whole_weighed.main.body.getD i (.Pass ⟨0,0,0,0⟩)
def de (P:Params) (x:Str) (t:Nat) (v:Value):DictEntry:=⟨PyData.keyHash P x,.str x t,v⟩
def fo (n q:Str) (s:Stmt) (m:Value) (c:Addr):Obj:=⟨.type "function",none,.func (PySem.W.fnOf n q (z0s s) (z0m s) (z0f s) .none .none .none m none (.ref c) .none),#[]⟩
def co (n:Str) (t:Nat) (q:Str) (u v:Nat) (l k:Int) (a:Addr) (f:Int) (b:Addr) (A B C:Value) (d:Addr) (m l':Int) (y:Nat):Obj:=⟨.type "code",none,.fields #[.str n t,.str q u,.str "/claim/cut.py" v,.int l 0,.int k 0,.int 0 0,.int 0 0,.int 3 0,.ref a,.bool true,.int f 0,.ref b,A,B,C,.ref d,.int m 0,.int l' 0,.str "/claim/cut.py" y],#[]⟩
def hk (P:Params):PySem.W.Frag :=
(nat_lit 2,⟨.none,none,(.dict #[] 0),#[]⟩) ::
(nat_lit 3,⟨(.type "dict"),none,(.dict #[(de P "__name__" 165 (.str "law_lampwish_k14_whole_weighed" 504)),(de P "__doc__" 166 .none),(de P "__package__" 167 .none),(de P "__loader__" 168 (.builtin "__main__.__loader__#opaque")),(de P "__spec__" 169 .none),(de P "__annotations__" 170 (.ref 6)),(de P "__builtins__" 171 (.ref 4)),(de P "__file__" 173 (.str "/claim/cut.py" 172)),(de P "__cached__" 174 .none),(de P "LampError" 206 (.ref 24)),(de P "NoMerge" 222 (.ref 37)),(de P "merged" 230 (.ref 44)),(de P "left_open" 236 (.ref 49)),(de P "each_once" 243 (.ref 56)),(de P "marked" 252 (.ref 63)),(de P "Tally" 347 (.ref 127)),(de P "free_lamp" 358 (.ref 138)),(de P "gone_back" 374 (.ref 145)),(de P "step_back" 387 (.ref 152)),(de P "solved" 397 (.ref 159)),(de P "search" 409 (.ref 166)),(de P "go_back" 420 (.ref 173)),(de P "next_guess" 430 (.ref 180)),(de P "setting_of" 436 (.ref 185)),(de P "true_in" 448 (.ref 192)),(de P "value_of" 459 (.ref 199)),(de P "sheet_of" 473 (.ref 206)),(de P "wishes_of" 483 (.ref 213)),(de P "weighed" 493 (.ref 220)),(de P "inner_first" 503 (.ref 227)),(de P "_law_draw" 514 (.ref 234)),(de P "_law_whole" 521 (.ref 241)),(de P "_law_at" 529 (.ref 248)),(de P "_law_alike" 541 (.ref 255)),(de P "_law_setting_of" 551 (.ref 262)),(de P "_law_pair" 561 (.ref 269)),(de P "_law_stated" 576 (.ref 276)),(de P "_law_merge" 582 (.ref 281)),(de P "_law_right_step" 594 (.ref 288)),(de P "_law_refuted" 604 (.ref 295)),(de P "_law_full" 613 (.ref 302)),(de P "_law_answer" 620 (.ref 309)),(de P "_law_truth_of" 630 (.ref 316)),(de P "_law_first_true" 636 (.ref 321)),(de P "_law_sheet_due" 652 (.ref 328)),(de P "law" 669 (.ref 335))] 46),#[]⟩) ::
(nat_lit 23,⟨(.type "dict"),none,(.dict #[(de P "__module__" 196 (.str "lampwish.errors" 187)),(de P "__firstlineno__" 200 (.int 2 199)),(de P "__static_attributes__" 201 (.ref 22)),(de P "__weakref__" 203 (.ref 25)),(de P "__doc__" 204 .none)] 3),#[]⟩) ::
(nat_lit 24,⟨(.type "type"),none,(.cls (PySem.ClassData.mk "LampError" [(.type "ValueError")] [(.ref 24),(.type "ValueError"),(.type "Exception"),(.type "BaseException"),(.type "object")] 23 "LampError" true [] [(.ref 37)] false none false)),#[(some (.ref 15)),none,(some (.str "LampError" 189)),(some (.str "LampError" 197)),(some (.builtin "ValueError.__new__")),(some (.bool true))]⟩) ::
(nat_lit 25,⟨(.type "getset_descriptor"),none,(.fields #[(.str "__weakref__" 202),(.ref 24),(.builtin "ExceptionGroup.__weakref__"),.none]),#[]⟩) ::
(nat_lit 36,⟨(.type "dict"),none,(.dict #[(de P "__module__" 214 (.str "lampwish.errors" 187)),(de P "__firstlineno__" 218 (.int 4 217)),(de P "__static_attributes__" 219 (.ref 35)),(de P "__doc__" 220 .none)] 2),#[]⟩) ::
(nat_lit 37,⟨(.type "type"),none,(.cls (PySem.ClassData.mk "NoMerge" [(.ref 24)] [(.ref 37),(.ref 24),(.type "ValueError"),(.type "Exception"),(.type "BaseException"),(.type "object")] 36 "NoMerge" true [] [] false none false)),#[(some (.ref 28)),none,(some (.str "NoMerge" 207)),(some (.str "NoMerge" 215)),(some (.builtin "ValueError.__new__")),(some (.bool true))]⟩) ::
(nat_lit 43,co "merged" 225 "merged" 226 227 7 3 40 181 41 .none .none .none 42 228 7 229) ::
(nat_lit 44,fo "merged" "merged" (top 4) (.str "lampwish.wishes" 223) 43) ::
(nat_lit 48,co "left_open" 231 "left_open" 232 233 15 2 45 181 46 .none .none .none 47 234 15 235) ::
(nat_lit 49,fo "left_open" "left_open" (top 5) (.str "lampwish.wishes" 223) 48) ::
(nat_lit 55,co "each_once" 237 "each_once" 238 239 20 1 50 181 51 .none (.ref 52) (.ref 53) 54 241 20 242) ::
(nat_lit 56,fo "each_once" "each_once" (top 6) (.str "lampwish.wishes" 223) 55) ::
(nat_lit 62,co "marked" 244 "marked" 245 246 22 1 57 181 58 .none (.ref 59) (.ref 60) 61 250 22 251) ::
(nat_lit 63,fo "marked" "marked" (top 7) (.str "lampwish.wishes" 223) 62) ::
(nat_lit 76,co "__init__" 267 "Tally.__init__" 268 269 30 2 71 181 72 .none (.ref 73) (.ref 74) 75 273 30 274) ::
(nat_lit 77,fo "__init__" "Tally.__init__" (z3o (top 9) 0) (.str "lampwish.tally" 253) 76) ::
(nat_lit 81,co "put_wish" 276 "Tally.put_wish" 277 278 42 2 78 181 79 .none .none .none 80 279 42 280) ::
(nat_lit 82,fo "put_wish" "Tally.put_wish" (z3o (top 9) 1) (.str "lampwish.tally" 253) 81) ::
(nat_lit 88,co "put" 282 "Tally.put" 283 284 52 3 83 181 84 .none (.ref 85) (.ref 86) 87 288 52 289) ::
(nat_lit 89,fo "put" "Tally.put" (z3o (top 9) 2) (.str "lampwish.tally" 253) 88) ::
(nat_lit 95,co "take_off" 291 "Tally.take_off" 292 293 57 1 90 181 91 .none (.ref 92) (.ref 93) 94 296 57 297) ::
(nat_lit 96,fo "take_off" "Tally.take_off" (z3o (top 9) 3) (.str "lampwish.tally" 253) 95) ::
(nat_lit 102,co "count_letter" 299 "Tally.count_letter" 300 301 63 3 97 181 98 .none (.ref 99) (.ref 100) 101 306 63 307) ::
(nat_lit 103,fo "count_letter" "Tally.count_letter" (z3o (top 9) 4) (.str "lampwish.tally" 253) 102) ::
(nat_lit 109,co "sort_in" 309 "Tally.sort_in" 310 311 73 2 104 181 105 .none (.ref 106) (.ref 107) 108 314 73 315) ::
(nat_lit 110,fo "sort_in" "Tally.sort_in" (z3o (top 9) 5) (.str "lampwish.tally" 253) 109) ::
(nat_lit 116,co "first_broken" 317 "Tally.first_broken" 318 319 82 1 111 181 112 .none (.ref 113) (.ref 114) 115 321 82 322) ::
(nat_lit 117,fo "first_broken" "Tally.first_broken" (z3o (top 9) 6) (.str "lampwish.tally" 253) 116) ::
(nat_lit 123,co "go_on" 324 "Tally.go_on" 325 326 85 1 118 181 119 .none (.ref 120) (.ref 121) 122 329 85 330) ::
(nat_lit 124,fo "go_on" "Tally.go_on" (z3o (top 9) 7) (.str "lampwish.tally" 253) 123) ::
(nat_lit 126,⟨(.type "dict"),none,(.dict #[(de P "__module__" 262 (.str "lampwish.tally" 253)),(de P "__firstlineno__" 266 (.int 28 265)),(de P "__init__" 275 (.ref 77)),(de P "put_wish" 281 (.ref 82)),(de P "put" 290 (.ref 89)),(de P "take_off" 298 (.ref 96)),(de P "count_letter" 308 (.ref 103)),(de P "sort_in" 316 (.ref 110)),(de P "first_broken" 323 (.ref 117)),(de P "go_on" 331 (.ref 124)),(de P "__static_attributes__" 340 (.ref 125)),(de P "__dict__" 342 (.ref 128)),(de P "__weakref__" 344 (.ref 129)),(de P "__doc__" 345 .none)] 4),#[]⟩) ::
(nat_lit 127,⟨(.type "type"),none,(.cls (PySem.ClassData.mk "Tally" [(.type "object")] [(.ref 127),(.type "object")] 126 "Tally" true [] [] false none false)),#[none,none,(some (.str "Tally" 255)),(some (.str "Tally" 263)),(some (.builtin "object.__new__")),(some (.bool true))]⟩) ::
(nat_lit 128,⟨(.type "getset_descriptor"),none,(.fields #[(.str "__dict__" 341),(.ref 127),(.builtin "function.__dict__"),(.builtin "function.__dict__#set")]),#[]⟩) ::
(nat_lit 129,⟨(.type "getset_descriptor"),none,(.fields #[(.str "__weakref__" 343),(.ref 127),(.builtin "ExceptionGroup.__weakref__"),.none]),#[]⟩) ::
(nat_lit 137,co "free_lamp" 350 "free_lamp" 351 352 90 2 132 181 133 .none (.ref 134) (.ref 135) 136 356 90 357) ::
(nat_lit 138,fo "free_lamp" "free_lamp" (top 11) (.str "lampwish.forcing" 348) 137) ::
(nat_lit 144,co "gone_back" 361 "gone_back" 362 363 96 3 139 181 140 .none (.ref 141) (.ref 142) 143 372 96 373) ::
(nat_lit 145,fo "gone_back" "gone_back" (top 13) (.str "lampwish.solving" 359) 144) ::
(nat_lit 151,co "step_back" 375 "step_back" 376 377 111 4 146 181 147 .none (.ref 148) (.ref 149) 150 385 111 386) ::
(nat_lit 152,fo "step_back" "step_back" (top 14) (.str "lampwish.solving" 359) 151) ::
(nat_lit 158,co "solved" 388 "solved" 389 390 118 2 153 181 154 .none (.ref 155) (.ref 156) 157 395 118 396) ::
(nat_lit 159,fo "solved" "solved" (top 15) (.str "lampwish.solving" 359) 158) ::
(nat_lit 165,co "search" 398 "search" 399 400 124 3 160 181 161 .none (.ref 162) (.ref 163) 164 407 124 408) ::
(nat_lit 166,fo "search" "search" (top 16) (.str "lampwish.solving" 359) 165) ::
(nat_lit 172,co "go_back" 410 "go_back" 411 412 139 2 167 181 168 .none (.ref 169) (.ref 170) 171 418 139 419) ::
(nat_lit 173,fo "go_back" "go_back" (top 17) (.str "lampwish.solving" 359) 172) ::
(nat_lit 179,co "next_guess" 421 "next_guess" 422 423 149 3 174 181 175 .none (.ref 176) (.ref 177) 178 428 149 429) ::
(nat_lit 180,fo "next_guess" "next_guess" (top 18) (.str "lampwish.solving" 359) 179) ::
(nat_lit 184,co "setting_of" 431 "setting_of" 432 433 154 2 181 181 182 .none .none .none 183 434 154 435) ::
(nat_lit 185,fo "setting_of" "setting_of" (top 19) (.str "lampwish.solving" 359) 184) ::
(nat_lit 191,co "true_in" 439 "true_in" 440 441 157 2 186 181 187 .none (.ref 188) (.ref 189) 190 446 157 447) ::
(nat_lit 192,fo "true_in" "true_in" (top 21) (.str "lampwish.statements" 437) 191) ::
(nat_lit 198,co "value_of" 449 "value_of" 450 451 162 3 193 181 194 .none (.ref 195) (.ref 196) 197 457 162 458) ::
(nat_lit 199,fo "value_of" "value_of" (top 22) (.str "lampwish.statements" 437) 198) ::
(nat_lit 205,co "sheet_of" 460 "sheet_of" 461 462 174 2 200 181 201 .none (.ref 202) (.ref 203) 204 471 174 472) ::
(nat_lit 206,fo "sheet_of" "sheet_of" (top 23) (.str "lampwish.statements" 437) 205) ::
(nat_lit 212,co "wishes_of" 474 "wishes_of" 475 476 191 4 207 181 208 .none (.ref 209) (.ref 210) 211 481 191 482) ::
(nat_lit 213,fo "wishes_of" "wishes_of" (top 24) (.str "lampwish.statements" 437) 212) ::
(nat_lit 219,co "weighed" 484 "weighed" 485 486 197 2 214 181 215 .none (.ref 216) (.ref 217) 218 491 197 492) ::
(nat_lit 220,fo "weighed" "weighed" (top 25) (.str "lampwish.statements" 437) 219) ::
(nat_lit 226,co "inner_first" 494 "inner_first" 495 496 203 1 221 181 222 .none (.ref 223) (.ref 224) 225 501 203 502) ::
(nat_lit 227,fo "inner_first" "inner_first" (top 26) (.str "lampwish.statements" 437) 226) ::
(nat_lit 233,co "_law_draw" 506 "_law_draw" 507 508 213 3 228 181 229 .none (.ref 230) (.ref 231) 232 512 213 513) ::
(nat_lit 234,fo "_law_draw" "_law_draw" (top 28) (.str "law_lampwish_k14_whole_weighed" 504) 233) ::
(nat_lit 240,co "_law_whole" 515 "_law_whole" 516 517 215 1 235 181 236 .none (.ref 237) (.ref 238) 239 519 215 520) ::
(nat_lit 241,fo "_law_whole" "_law_whole" (top 29) (.str "law_lampwish_k14_whole_weighed" 504) 240) ::
(nat_lit 247,co "_law_at" 522 "_law_at" 523 524 217 2 242 181 243 .none (.ref 244) (.ref 245) 246 527 217 528) ::
(nat_lit 248,fo "_law_at" "_law_at" (top 30) (.str "law_lampwish_k14_whole_weighed" 504) 247) ::
(nat_lit 254,co "_law_alike" 530 "_law_alike" 531 532 221 2 249 181 250 .none (.ref 251) (.ref 252) 253 539 221 540) ::
(nat_lit 255,fo "_law_alike" "_law_alike" (top 31) (.str "law_lampwish_k14_whole_weighed" 504) 254) ::
(nat_lit 261,co "_law_setting_of" 542 "_law_setting_of" 543 544 243 2 256 181 257 .none (.ref 258) (.ref 259) 260 549 243 550) ::
(nat_lit 262,fo "_law_setting_of" "_law_setting_of" (top 32) (.str "law_lampwish_k14_whole_weighed" 504) 261) ::
(nat_lit 268,co "_law_pair" 552 "_law_pair" 553 554 248 3 263 181 264 .none (.ref 265) (.ref 266) 267 559 248 560) ::
(nat_lit 269,fo "_law_pair" "_law_pair" (top 33) (.str "law_lampwish_k14_whole_weighed" 504) 268) ::
(nat_lit 275,co "_law_stated" 562 "_law_stated" 563 564 255 2 270 181 271 .none (.ref 272) (.ref 273) 274 574 255 575) ::
(nat_lit 276,fo "_law_stated" "_law_stated" (top 34) (.str "law_lampwish_k14_whole_weighed" 504) 275) ::
(nat_lit 280,co "_law_merge" 577 "_law_merge" 578 579 277 3 277 181 278 .none .none .none 279 580 277 581) ::
(nat_lit 281,fo "_law_merge" "_law_merge" (top 35) (.str "law_lampwish_k14_whole_weighed" 504) 280) ::
(nat_lit 287,co "_law_right_step" 583 "_law_right_step" 584 585 284 2 282 181 283 .none (.ref 284) (.ref 285) 286 592 284 593) ::
(nat_lit 288,fo "_law_right_step" "_law_right_step" (top 36) (.str "law_lampwish_k14_whole_weighed" 504) 287) ::
(nat_lit 294,co "_law_refuted" 595 "_law_refuted" 596 597 295 2 289 181 290 .none (.ref 291) (.ref 292) 293 602 295 603) ::
(nat_lit 295,fo "_law_refuted" "_law_refuted" (top 37) (.str "law_lampwish_k14_whole_weighed" 504) 294) ::
(nat_lit 301,co "_law_full" 605 "_law_full" 606 607 306 2 296 181 297 .none (.ref 298) (.ref 299) 300 611 306 612) ::
(nat_lit 302,fo "_law_full" "_law_full" (top 38) (.str "law_lampwish_k14_whole_weighed" 504) 301) ::
(nat_lit 308,co "_law_answer" 614 "_law_answer" 615 616 313 1 303 181 304 .none (.ref 305) (.ref 306) 307 618 313 619) ::
(nat_lit 309,fo "_law_answer" "_law_answer" (top 39) (.str "law_lampwish_k14_whole_weighed" 504) 308) ::
(nat_lit 315,co "_law_truth_of" 621 "_law_truth_of" 622 623 317 2 310 181 311 .none (.ref 312) (.ref 313) 314 628 317 629) ::
(nat_lit 316,fo "_law_truth_of" "_law_truth_of" (top 40) (.str "law_lampwish_k14_whole_weighed" 504) 315) ::
(nat_lit 320,co "_law_first_true" 631 "_law_first_true" 632 633 329 2 317 181 318 .none .none .none 319 634 329 635) ::
(nat_lit 321,fo "_law_first_true" "_law_first_true" (top 41) (.str "law_lampwish_k14_whole_weighed" 504) 320) ::
(nat_lit 327,co "_law_sheet_due" 637 "_law_sheet_due" 638 639 337 2 322 181 323 .none (.ref 324) (.ref 325) 326 650 337 651) ::
(nat_lit 328,fo "_law_sheet_due" "_law_sheet_due" (top 42) (.str "law_lampwish_k14_whole_weighed" 504) 327) ::
(nat_lit 334,co "law" 653 "law" 654 655 365 1 329 181 330 .none (.ref 331) (.ref 332) 333 667 365 668) ::
(nat_lit 335,fo "law" "law" (top 43) (.str "law_lampwish_k14_whole_weighed" 504) 334)::[]
def hkA:List Addr:=[2,3,23,24,25,36,37,43,44,48,49,55,56,62,63,76,77,81,82,88,89,95,96,102,103,109,110,116,117,123,124,126,127,128,129,137,138,144,145,151,152,158,159,165,166,172,173,179,180,184,185,191,192,198,199,205,206,212,213,219,220,226,227,233,234,240,241,247,248,254,255,261,262,268,269,275,276,280,281,287,288,294,295,301,302,308,309,315,316,320,321,327,328,334,335]
def qv:Program:={ PySem.Challenge.pw_lampwish_k14_whole_weighed with main:={ PySem.Challenge.pw_lampwish_k14_whole_weighed.main with body:=([1,2,4,5,6,7,9,11,13,14,15,16,17,18,19,21,22,23,24,25,26,28,29,30,31,32,33,34,35,36,37,38,39,40,41,42,43]:List Nat).map top } }
theorem hkE (P:Params):hkA=(hk P).map (·.1):=by kernel_rfl
theorem left:PySem.W.LeftO PySem.Challenge.rw_lampwish_k14_whole_weighed.row.toRowW.prog qv [] (fun s=>PySem.W.xlAt qv [] s && PySem.W.recOk (PySem.W.RowW.records PySem.Challenge.rw_lampwish_k14_whole_weighed.row.toRowW) s) (PySem.W.Hook.obs (PySem.W.kHook hk hkA hkE)) (PySem.W.Hook.val (PySem.W.kHook hk hkA hkE)) 4114:=fun w=>by kernel_rfl
end My
namespace L2
open PySem PySem.Spec PyProof.Rows
abbrev Key:=Sum Int Str
def keyIs:Key->Value->Bool
 | .inl k,v=>Value.isInt k v
 | .inr x,v=>Value.isStrOf x v
def keyH (w:World):Key->Int
 | .inl k=>hashInt k
 | .inr x=>hashStr w x
theorem z1s:∀ {k:Key} {v:Value},keyIs k v=true->(∃ i t,k=Sum.inl i/\v=Value.int i t)∨(∃ x t,k=Sum.inr x/\v=Value.str x t)
 | .inl i,v,h=>by
  obtain⟨t,e⟩:=Value.isInt_shape (k:=i) (v:=v) h
  exact .inl ⟨i,t,rfl,e⟩
 | .inr x,v,h=>by
  obtain⟨t,e⟩:=Value.isStrOf_shape (x:=x) (v:=v) h
  exact .inr ⟨x,t,rfl,e⟩
theorem x5i (i:Int) (t:Tok):keyIs (.inl i) (.int i t)=true:=by simp[keyIs,Value.isInt]
theorem x5h (x:Str) (t:Tok):keyIs (.inr x) (.str x t)=true:=by simp[keyIs,Value.isStrOf]
theorem w2d (a b:Int):decide ((Sum.inl a:Key)=Sum.inl b)=(a == b):=by
 by_cases e:a=b
 ·subst e;simp
 ·have h:¬ (Sum.inl a:Key)=Sum.inl b:=fun q=>e (Sum.inl.inj q)
  rw[decide_eq_false h]
  exact (beq_eq_false_iff_ne.mpr e).symm
theorem w2a (a b:Str):decide ((Sum.inr a:Key)=Sum.inr b)=decide (a=b):=by
 by_cases e:a=b
 ·subst e;simp
 ·have h:¬ (Sum.inr a:Key)=Sum.inr b:=fun q=>e (Sum.inr.inj q)
  rw[decide_eq_false h,decide_eq_false e]
theorem w2c (a:Int) (b:Str):decide ((Sum.inl a:Key)=Sum.inr b)=false:=decide_eq_false (fun q=>nomatch q)
theorem w2b (a:Str) (b:Int):decide ((Sum.inr a:Key)=Sum.inl b)=false:=decide_eq_false (fun q=>nomatch q)
def z1q (prog:Program) (w:World):PySem.KeyKind prog w Key where
 is:=keyIs
 hash:=keyH w
 inj:=fun v a b ha hb=>by
  rcases z1s ha with ⟨i,t,rfl,rfl⟩ | ⟨x,t,rfl,rfl⟩
  ·rcases z1s hb with ⟨j,u,rfl,e⟩ | ⟨y,u,rfl,e⟩
   ·injection e with e1 _;rw[e1]
   ·exact nomatch e
  ·rcases z1s hb with ⟨j,u,rfl,e⟩ | ⟨y,u,rfl,e⟩
   ·exact nomatch e
   ·injection e with e1 _;rw[e1]
 byValue:=fun k v h=>by
  rcases z1s h with ⟨i,t,rfl,rfl⟩ | ⟨x,t,rfl,rfl⟩<;>rfl
 pyHash:=fun hv h=>by
  rcases z1s hv with ⟨i,t,rfl,rfl⟩ | ⟨x,t,rfl,rfl⟩
  ·exact wpAny_pyHash_int h
  ·exact wpAny_pyHash_str h
 eqBool:=fun hu hv h=>by
  rcases z1s hu with ⟨i,t,rfl,rfl⟩ | ⟨x,t,rfl,rfl⟩
  ·rcases z1s hv with ⟨j,u,rfl,rfl⟩ | ⟨y,u,rfl,rfl⟩
   ·rw[w2d]at h;exact wpAny_eqBool_int h
   ·rw[w2c]at h;exact SeqAt.EqAt.int_str i t y u _ _ _ _ h
  ·rcases z1s hv with ⟨j,u,rfl,rfl⟩ | ⟨y,u,rfl,rfl⟩
   ·rw[w2b]at h;exact SeqAt.EqAt.str_int x t j u _ _ _ _ h
   ·rw[w2a]at h;exact wpAny_eqBool_str h
 «strs»:=fun k x t v h=>by
  rcases z1s h with ⟨i,u,rfl,e⟩ | ⟨y,u,rfl,e⟩
  ·exact nomatch e
  ·injection e with e1 _
   subst e1
   cases v<;>rfl
theorem y8y (prog:Program) (w:World) (i:Int) (t:Tok):(z1q prog w).is (.inl i) (.int i t)=true:=x5i i t
theorem y8x (prog:Program) (w:World) (x:Str) (t:Tok):(z1q prog w).is (.inr x) (.str x t)=true:=x5h x t
end L2
namespace L2
open PySem PySem.Spec PyProof.Rows
inductive V where
 | non | bl (b:Bool) | int (i:Int) | str (x:Str) | byt (b:Array UInt8) | flt (b:UInt64) | ref (a:Addr) | ty (n:String)
 deriving DecidableEq
def RelV:V->Value->Prop
 | .non,u=>u=Value.none
 | .bl b,u=>u=Value.bool b
 | .int i,u=>∃ t,u=Value.int i t
 | .str x,u=>∃ t,u=Value.str x t
 | .byt b,u=>∃ t,u=Value.bytes b t
 | .flt b,u=>∃ t,u=Value.float b t
 | .ref a,u=>u=Value.ref a
 | .ty n,u=>u=Value.type n
abbrev Vals:List V->List Value->Prop:=Paired RelV
theorem Vals.length {xs:List V} {us:List Value} (r:Vals xs us):xs.length=us.length:=Paired.length r
theorem Vals.get:∀ {xs:List V} {us:List Value} {i:Nat} {x:V},Vals xs us->xs[i]?=some x->∃ u,us[i]?=some u/\RelV x u
 | _,_,_,_,.nil,e=>by simp at e
 | _,_,0,_,.cons r _,e=>by simp at e;subst e;exact⟨_,rfl,r⟩
 | _,_,i+1,x,.cons _ t,e=>by
  obtain⟨u,h1,h2⟩:=Vals.get (i:=i) (x:=x) t (by simpa using e)
  exact⟨u,by simpa using h1,h2⟩
theorem Vals.set {x:V} {u:Value} (r:RelV x u):∀ {xs:List V} {us:List Value} (i:Nat),Vals xs us->Vals (xs.set i x) (us.set i u)
 | _,_,_,.nil=>.nil
 | _,_,0,.cons _ t=>.cons r t
 | _,_,i+1,.cons q t=>.cons q (Vals.set r i t)
theorem Vals.append:∀ {xs ys:List V} {us ws:List Value},Vals xs us->Vals ys ws->Vals (xs++ys) (us++ws)
 | _,_,_,_,.nil,s=>s
 | _,_,_,_,.cons r t,s=>.cons r (Vals.append t s)
theorem Vals.take:∀ {xs:List V} {us:List Value} (n:Nat),Vals xs us->Vals (xs.take n) (us.take n)
 | _,_,0,_=>.nil
 | _,_,_+1,.nil=>.nil
 | _,_,n+1,.cons r t=>.cons r (Vals.take n t)
theorem Vals.drop:∀ {xs:List V} {us:List Value} (n:Nat),Vals xs us->Vals (xs.drop n) (us.drop n)
 | _,_,0,r=>r
 | _,_,_+1,.nil=>.nil
 | _,_,n+1,.cons _ t=>Vals.drop n t
def RelO:Option V->Option Value->Prop
 | some v,some u=>RelV v u
 | none,none=>True
 | _,_=>False
def KV {κ:Type}:List (κ × V)->List (κ × Value)->Prop:=Paired fun (p:κ × V) (q:κ × Value)=>p.1=q.1/\RelV p.2 q.2
def kV:Key->V
 | .inl i=>.int i
 | .inr x=>.str x
inductive HO where
 | lst (xs:List V)
 | tup (xs:List V)
 | dK (kvs:List (Key × V)) | dT (kvs:List (List Key × V))
 | set (S:Int->Bool) (n:Nat)
 | ins (C dx:Addr) (fs:List (Str × V))
 | own (x:Addr)
 | xd (fs:List (Str × V))
 | met (f x:Addr)
 | rng (lo hi:Int)
 | frz (o:Obj) (u:HO)
 | tbl (ps:Array Value)
 | ext (φ:Heap->Prop)
abbrev Hp:=Addr->Option HO
def upd (H:Hp) (a:Addr) (o:HO):Hp:=fun b=>if b=a then some o else H b
theorem z0c {H:Hp} {a:Addr} {o:HO}:upd H a o a=some o:=by unfold upd;rw[if_pos rfl]
theorem z0g {H:Hp} {a b:Addr} {o:HO} (h:b≠a):upd H a o b=H b:=by unfold upd;rw[if_neg h]
theorem ne_of {H:Hp} {a b:Addr} {o u:HO} (h:H a=some o) (h':H b=some u) (d:o≠u):a≠b:=by
 intro e;subst e;rw[h]at h';exact d (Option.some.inj h')
theorem z0h {H:Hp} {a b:Addr} {o:HO} (h:H a=some o) (h':H b=none):a≠b:=by
 intro e;subst e;rw[h]at h';cases h'
section
variable (P:Program) (w:World)
def ObjOk (H:Hp) (h:Heap) (a:Addr):HO->Prop
 | .lst xs=>xs.length<=sizeLine/\∃ (its:List Value) (n:Nat),Vals xs its/\h.get? a=some { cls:=.type "list",data:=.seq its.toArray n }
 | .tup xs=>xs.length<=sizeLine/\∃ its:List Value,Vals xs its/\IsTup h a its.toArray
 | .dK kvs=>kvs.length<=sizeLine/\(a == sysModules)=false/\∃ vs,KV kvs vs/\h.DictOf (z1q P w) a vs
 | .dT kvs=>kvs.length<=sizeLine/\(a == sysModules)=false/\∃ xs:List (List Key × Addr × Value),
  Paired (fun (p:List Key × V) (q:List Key × Addr × Value)=>p.1=q.1/\H q.2.1=some (.tup (p.1.map kV))/\RelV p.2 q.2.2) kvs xs /\
  ∃ o es ep,h.get? a=some o/\o.ExactDict/\o.data=.dict es ep/\es.toList=xs.map (entryOfKey (tupleKind (z1q P w)))/\(xs.map (·.1)).Nodup
 | .set S n=>h.SetOf (intKind P w) a S n
 | .ins C dx fs=>H dx=some (.own a)/\fs.length<=1000/\dx≠a/\h.get? a=some (PySem.W.instObj C dx) /\
  ∃ mA,h.Ns1 dx mA/\(∀ f,RelO (fs.lookup f) (mA f))/\PySem.Within mA (fs.map (·.1))
 | .own _=>∃ o,h.get? a=some o
 | .xd fs=>∃ mA,h.Ns1 a mA/\∀ f,RelO (fs.lookup f) (mA f)
 | .rng lo hi=>∃ t u v,h.get? a=some { cls:=.type "range",data:=.fields #[.int lo t,.int hi u,.int 1 v] }
 | .frz o u=>h.get? a=some o/\ObjOk H h a u
 | .tbl ps=>h.get? a=some { cls:=.none,data:=.fields ps }
 | .met f x=>h.get? a=some (PySem.W.methodObj (.ref f) (.ref x))
 | .ext φ=>φ h/\(∃ o,h.get? a=some o)/\∀ h1 h2:Heap,φ h1->(∀ o,h1.get? a=some o->h2.get? a=some o)->φ h2
def HOk (H:Hp) (h:Heap):Prop:=∀ a o,H a=some o->ObjOk P w H h a o
end
section
variable {P:Program} {w:World} {H H':Hp} {h h':Heap} {a:Addr} {o:HO}
theorem ObjOk.lt (x:ObjOk P w H h a o):a < h.objs.size:=by
 cases o with
 | lst xs=>obtain⟨_,_,_,_,e⟩:=x;exact Heap.lt_size e
 | tup xs=>obtain⟨_,_,_,p⟩:=x;exact p.lt
 | dK kvs=>obtain⟨_,_,_,_,o,_,_,e,_⟩:=x;exact Heap.lt_size e
 | dT kvs=>obtain⟨_,_,_,_,o,_,_,e,_⟩:=x;exact Heap.lt_size e
 | set S n=>obtain⟨o,_,_,_,e,_⟩:=x;exact Heap.lt_size e
 | ins C dx fs=>obtain⟨_,_,_,e,_⟩:=x;exact Heap.lt_size e
 | own y=>obtain⟨_,e⟩:=x;exact Heap.lt_size e
 | xd fs=>obtain⟨_,⟨_,_,_,e,_⟩,_⟩:=x;exact Heap.lt_size e
 | rng lo hi=>obtain⟨_,_,_,e⟩:=x;exact Heap.lt_size e
 | frz ob u=>obtain⟨e,_⟩:=x;exact Heap.lt_size e
 | tbl ps=>exact Heap.lt_size (show h.get? a=some _ from x)
 | met f y=>exact Heap.lt_size (show h.get? a=some _ from x)
 | ext φ=>obtain⟨_,⟨_,e⟩,_⟩:=x;exact Heap.lt_size e
theorem Paired.mapP {α β:Type} {F G:α->β->Prop}:∀ {l₁:List α} {l₂:List β},Paired F l₁ l₂->(∀ a b,F a b->G a b)->Paired G l₁ l₂
 | _,_,.nil,_=>.nil
 | _,_,.cons r t,f=>.cons (f _ _ r) (Paired.mapP t f)
theorem ObjOk.stay (x:ObjOk P w H h a o) (k:∀ b u,(b=a∨H b=some (.own a))->h.get? b=some u->h'.get? b=some u)
 (ho:∀ b,H b=some (.own a)->H' b=some (.own a)) (ht:∀ b xs,H b=some (.tup xs)->H' b=some (.tup xs)):ObjOk P w H' h' a o:=by
 induction o with
 | lst xs=>obtain⟨z,its,n,r,e⟩:=x;exact⟨z,its,n,r,k _ _ (.inl rfl) e⟩
 | tup xs=>obtain⟨z,its,r,ob,e,c⟩:=x;exact⟨z,its,r,ob,k _ _ (.inl rfl) e,c⟩
 | dK kvs=>obtain⟨z,y,vs,r,ob,es,ep,e,c⟩:=x;exact⟨z,y,vs,r,ob,es,ep,k _ _ (.inl rfl) e,c⟩
 | dT kvs =>
  obtain⟨z,y,xs,r,ob,es,ep,e,c⟩:=x
  exact⟨z,y,xs,Paired.mapP r fun p q z=>⟨z.1,ht _ _ z.2.1,z.2.2⟩,ob,es,ep,k _ _ (.inl rfl) e,c⟩
 | set S n=>obtain⟨ob,es,ep,t,e,c⟩:=x;exact⟨ob,es,ep,t,k _ _ (.inl rfl) e,c⟩
 | ins C dx fs =>
  obtain⟨d,z,ne,e,mA,⟨od,es,ep,e2,c⟩,r⟩:=x
  exact⟨ho _ d,z,ne,k _ _ (.inl rfl) e,mA,⟨od,es,ep,k _ _ (.inr d) e2,c⟩,r⟩
 | own y=>obtain⟨ob,e⟩:=x;exact⟨ob,k _ _ (.inl rfl) e⟩
 | xd fs=>obtain⟨mA,⟨od,es,ep,e,c⟩,r⟩:=x;exact⟨mA,⟨od,es,ep,k _ _ (.inl rfl) e,c⟩,r⟩
 | rng lo hi=>obtain⟨t,u,v,e⟩:=x;exact⟨t,u,v,k _ _ (.inl rfl) e⟩
 | frz ob u ih=>obtain⟨e,q⟩:=x;exact⟨k _ _ (.inl rfl) e,ih q⟩
 | tbl ps =>
  have e:h.get? a=some { cls:=.none,data:=.fields ps }:=x
  show h'.get? a=some { cls:=.none,data:=.fields ps }
  exact k a _ (.inl rfl) e
 | met f y =>
  have e:h.get? a=some (PySem.W.methodObj (.ref f) (.ref y)):=x
  show h'.get? a=some (PySem.W.methodObj (.ref f) (.ref y))
  exact k a _ (.inl rfl) e
 | ext φ=>obtain⟨p,⟨o,e⟩,st⟩:=x;exact⟨st _ _ p fun o q=>k _ _ (.inl rfl) q,⟨o,k _ _ (.inl rfl) e⟩,st⟩
theorem HOk.lt (x:HOk P w H h) (e:H a=some o):a < h.objs.size:=(x a o e).lt
theorem HOk.fresh (x:HOk P w H h) (e:h.objs.size<=a):H a=none:=by
 cases q:H a with
 | none=>rfl
 | some u=>exact absurd (Nat.lt_of_lt_of_le (x.lt q) e) (Nat.lt_irrefl _)
theorem HOk.kept (x:HOk P w H h) (k:∀ b u,h.get? b=some u->h'.get? b=some u):HOk P w H h':=fun a o e =>
 (x a o e).stay (fun b u _ q=>k b u q) (fun _ q=>q) fun _ _ q=>q
theorem HOk.laid (x:HOk P w H h) (k:∀ b u,h.get? b=some u->h'.get? b=some u) (hp:h.objs.size<=a) (new:ObjOk P w (upd H a o) h' a o):HOk P w (upd H a o) h':=fun b u e=>by
 have hn:=x.fresh hp
 by_cases hb:b=a
 ·subst hb;rw[z0c]at e;cases e;exact new
 ·rw[z0g hb]at e
  exact (x b u e).stay (fun c v _ q=>k c v q) (fun c q=>by rw[z0g (z0h q hn)];exact q) fun c xs q=>by rw[z0g (z0h q hn)];exact q
end
def Rd (H:Hp) (a:Addr) (u:HO):Prop:=H a=some u∨∃ o,H a=some (.frz o u)
theorem Rd.of {H:Hp} {a:Addr} {u:HO} (h:H a=some u):Rd H a u:=.inl h
theorem Rd.ok {P:Program} {w:World} {H:Hp} {h:Heap} {a:Addr} {u:HO} (r:Rd H a u) (x:HOk P w H h):ObjOk P w H h a u:=by
 rcases r with r | ⟨o,r⟩
 ·exact x a u r
 ·obtain⟨_,q⟩:=x a _ r
  exact q
def Mut:Option HO->Prop
 | some (.lst _)=>True
 | some (.dK _)=>True
 | some (.dT _)=>True
 | some (.set _ _)=>True
 | some (.ins _ _ _)=>True
 | some (.ext _)=>True
 | _=>False
section
variable {P:Program} {w:World} {H:Hp} {h h':Heap} {x e:Addr} {o':HO}
theorem HOk.write (ok:HOk P w H h) (mu:Mut (H x)) (he:e=x∨H e=some (.own x)) (k:∀ b u,b≠e->h.get? b=some u->h'.get? b=some u) (heo:∃ u,h'.get? e=some u)
 (new:ObjOk P w (upd H x o') h' x o'):HOk P w (upd H x o') h':=fun b u q=>by
 have nown:∀ c y,H c=some (.own y)->c≠x:=fun c y r z=>by subst z;rw[r]at mu;exact mu
 have ntup:∀ c xs,H c=some (.tup xs)->c≠x:=fun c xs r z=>by subst z;rw[r]at mu;exact mu
 by_cases hb:b=x
 ·subst hb;rw[z0c]at q;cases q;exact new
 ·rw[z0g hb]at q
  by_cases hbe:b=e
  ·have q':H b=some (.own x):=by
    rcases he with z | z
    ·exact absurd (hbe.trans z) hb
    ·rw[hbe];exact z
   rw[q]at q';cases q'
   obtain⟨v,hv⟩:=heo
   exact⟨v,by rw[hbe];exact hv⟩
  ·refine (ok b u q).stay (fun c v hc r=>k c v ?_ r) (fun c r=>by rw[z0g (nown c b r)];exact r) fun c xs r=>by rw[z0g (ntup c xs r)];exact r
   rcases hc with rfl | hc
   ·exact hbe
   ·rintro rfl
    rcases he with z | z
    ·exact nown c b hc z
    ·rw[hc]at z;cases z;exact hb rfl
end
structure Un (fs ex:List Addr) (H H':Hp) (h h':Heap):Prop where
 keep:∀ b o,h.get? b=some o->H b=none->b ∉ fs->b ∉ ex->h'.get? b=some o
 slot:∀ b o,h.get? b=some o->H b=none->b∈fs->b ∉ ex->∃ sl,h'.get? b=some { o with slots:=sl }
 free:∀ b o,h.get? b=some o->H b=none->b ∉ ex->H' b=none
 there:∀ b o,h.get? b=some o->b ∉ ex->∃ o',h'.get? b=some o'
 tups:∀ b xs,H b=some (.tup xs)->H' b=some (.tup xs)
 frzs:∀ b o u,H b=some (.frz o u)->H' b=some (.frz o u)
 tbls:∀ b ps,H b=some (.tbl ps)->∃ more,H' b=some (.tbl (ps++more))
section
variable {fs fs' ex ex':List Addr} {H H1 H2:Hp} {h h1 h2 h':Heap} {a x e:Addr} {o:HO}
theorem Un.any (u:Un fs ex H H1 h h1) {b:Addr} {ob:Obj} (q:h.get? b=some ob) (n:H b=none) (hx:b ∉ ex):∃ sl,h1.get? b=some { ob with slots:=sl }:=by
 by_cases hb:b∈fs
 ·exact u.slot b ob q n hb hx
 ·exact⟨ob.slots,u.keep b ob q n hb hx⟩
theorem Un.trans (a:Un fs ex H H1 h h1) (b:Un fs ex H1 H2 h1 h2):Un fs ex H H2 h h2 where
 keep:=fun c ob q n hc hx=>b.keep c ob (a.keep c ob q n hc hx) (a.free c ob q n hx) hc hx
 slot:=fun c ob q n hc hx=>by
  obtain⟨sl,e1⟩:=a.slot c ob q n hc hx
  obtain⟨sl',e2⟩:=b.slot c _ e1 (a.free c ob q n hx) hc hx
  exact⟨sl',e2⟩
 free:=fun c ob q n hx=>by
  obtain⟨o',e1⟩:=a.there c ob q hx
  exact b.free c o' e1 (a.free c ob q n hx) hx
 there:=fun c ob q hx=>by
  obtain⟨o',e1⟩:=a.there c ob q hx
  exact b.there c o' e1 hx
 tups:=fun c xs q=>b.tups c xs (a.tups c xs q)
 frzs:=fun c ob xs q=>b.frzs c ob xs (a.frzs c ob xs q)
 tbls:=fun c ps q=>by
  obtain⟨m1,e1⟩:=a.tbls c ps q
  obtain⟨m2,e2⟩:=b.tbls c _ e1
  exact⟨m1++m2,by rw[e2,Array.append_assoc]⟩
theorem Un.kept (k:∀ b u,h.get? b=some u->h'.get? b=some u):Un fs ex H H h h' :=
 ⟨fun b ob q _ _ _=>k b ob q,fun b ob q _ _ _=>⟨ob.slots,k b ob q⟩,fun _ _ _ n _=>n,fun b ob q _=>⟨ob,k b ob q⟩,fun _ _ q=>q,fun _ _ _ q=>q,fun _ ps q=>⟨#[],by rw[q];simp⟩⟩
theorem Un.refl:Un fs ex H H h h:=Un.kept fun _ _ q=>q
theorem Un.laid (k:∀ b u,h.get? b=some u->h'.get? b=some u) (hp:h.objs.size<=a) (hn:H a=none):Un fs ex H (upd H a o) h h' where
 keep:=fun b u q _ _ _=>k b u q
 slot:=fun b u q _ _ _=>⟨u.slots,k b u q⟩
 free:=fun b u q n _=>by rw[z0g (Nat.ne_of_lt (Nat.lt_of_lt_of_le (Heap.lt_size q) hp))];exact n
 there:=fun b u q _=>⟨u,k b u q⟩
 tups:=fun b xs q=>by rw[z0g (z0h q hn)];exact q
 frzs:=fun b u xs q=>by rw[z0g (z0h q hn)];exact q
 tbls:=fun b ps q=>⟨#[],by rw[z0g (z0h q hn),q];simp⟩
theorem Un.write (mu:Mut (H x)) (he:e=x∨H e=some (.own x)) (k:∀ b u,b≠e->h.get? b=some u->h'.get? b=some u) (heo:∃ u,h'.get? e=some u):Un fs ex H (upd H x o) h h':=by
 have hx:∀ b,H b=none->b≠x:=fun b n z=>by subst z;rw[n]at mu;exact mu
 have hb:∀ b,H b=none->b≠e:=fun b n z=>by
  subst z
  rcases he with r | r
  ·exact hx b n r
  ·rw[n]at r;cases r
 have hm:∀ b u,H b=some u->¬ Mut (some u)->b≠x:=fun b u q nm z=>by subst z;rw[q]at mu;exact nm mu
 refine⟨fun b u q n _ _=>k b u (hb b n) q,fun b u q n _ _=>⟨u.slots,k b u (hb b n) q⟩,fun b u q n _=>by rw[z0g (hx b n)];exact n,fun b u q _=>?_,
  fun b xs q=>by rw[z0g (hm b _ q fun z=>z)];exact q,fun b u xs q=>by rw[z0g (hm b _ q fun z=>z)];exact q,fun b ps q=>⟨#[],by rw[z0g (hm b _ q fun z=>z),q];simp⟩⟩
 by_cases hbe:b=e
 ·subst hbe;exact heo
 ·exact⟨u,k b u hbe q⟩
theorem Un.mono (u:Un fs ex H H1 h h1) (hs:∀ b∈fs,b∈fs') (hx:∀ b∈ex,b∈ex'):Un fs' ex' H H1 h h1 :=
 ⟨fun b ob q n hb he=>u.keep b ob q n (fun z=>hb (hs b z)) fun z=>he (hx b z),fun _ _ q n _ he=>u.any q n fun z=>he (hx _ z),fun b ob q n he=>u.free b ob q n fun z=>he (hx b z),fun b ob q he=>u.there b ob q fun z=>he (hx b z),u.tups,u.frzs,u.tbls⟩
end
def trk (h:Heap) (H:Hp):List Addr:=(List.range h.objs.size).filter fun a=>(H a).isSome
def hidT (h:Heap) (H:Hp):Heap:=PySem.W.hideAll h (trk h H)
theorem x5p (h:Heap) (H:Hp):(hidT h H).objs.size=h.objs.size:=PySem.W.hideAll_size _ _
theorem x8a {h:Heap} {H:Hp} {b:Addr} {o:Obj} (e:h.get? b=some o) (n:H b=none):(hidT h H).get? b=some o :=
 PySem.W.hideAll_get _ e fun hm=>by
  have q:(H b).isSome=true:=(List.mem_filter.mp hm).2
  rw[n]at q;simp at q
theorem w0d {h:Heap} {H:Hp} {b:Addr} {o:Obj} (e:(hidT h H).get? b=some o):h.get? b=some o/\H b=none:=by
 have e':h.get? b=some o:=PySem.W.of_hideAll (trk h H) e
 refine⟨e',?_⟩
 cases q:H b with
 | none=>rfl
 | some x =>
  have hm:b∈trk h H:=List.mem_filter.mpr ⟨List.mem_range.mpr (Heap.lt_size e'),by simp[q]⟩
  have z:(hidT h H).get? b=none:=PySem.W.hideAll_none (trk h H) hm
  rw[z]at e;cases e
def w0u (g h:Heap) (L:Addr):List (Addr × Obj):=(List.range h.objs.size).filterMap fun a=>if a=L∨(g.get? a).isSome=true then none else (h.get? a).map fun o=>(a,o)
def rest (g h:Heap) (L d:Addr):List (Addr × Obj):=(w0u g h L).filter fun p=>decide (p.1≠d)
end L2
namespace L2
open PySem PySem.Spec PyProof.Rows
structure Mod (K:W.Frag) (mg:Str->Option Value) (base:Heap):Prop where
 kin:K.In base
 glob:base.Ns mainGlobals mg
 blt:∃ mb,base.Ns builtinsNs mb/\∀ x:Str,x≠"__name__"->mb x=bootBuiltins x
 nolimit:base.NoLimit
structure Cx where
 prog:Program
 w:World
 K:W.Frag
 mg:Str->Option Value
 base:Heap
 A:Around
 N:List Str
 s₀:Shared
 H₀:Hp
 env:Env
 outer:List Env
 stack:List Env
 ex:List Addr
 fn:Str->Bool
 calm:Bool
 pn:List (Addr × Obj)
 xe:Value->Shared->Prop
def frs (l:List Env):List Addr:=l.filterMap (·.frame)
abbrev Cx.fs (X:Cx):List Addr:=frs X.outer
def Vis (sc:Scope) (x:Str):Prop:=sc.names.lookup x=some .local∨sc.names.lookup x=some .cell∨sc.names.lookup x=some .free
def Loc (sc:Scope) (x:Str):Prop:=sc.names.lookup x=some .local∨sc.names.lookup x=some .cell
def Look (env:Env) (h:Heap) (m:Str->Option Value) (x:Str) (u:Value):Prop :=
 (env.kindOf x=some .local/\m x=some u)∨((env.kindOf x=some .cell∨env.kindOf x=some .free)/\∃ c,env.cells.lookup x=some c/\h.IsCell c (some u))
structure Cx.Ok (X:Cx):Prop where
 mod:Mod X.K X.mg X.base
 kind:X.env.scope.kind=.function
 glob:X.env.globals=mainGlobals
 blt:X.env.builtins=builtinsNs
 above:X.s₀.heap.objs.size<=X.env.locals
 inj:∀ x y c,X.env.cells.lookup x=some c->X.env.cells.lookup y=some c->x=y
 has:∀ x,(X.env.kindOf x=some .cell∨X.env.kindOf x=some .free)->∃ c,X.env.cells.lookup x=some c
 cab:∀ x c,X.fn x=true->X.env.cells.lookup x=some c->X.s₀.heap.objs.size<=c
 hd:X.calm=true->X.A.handled=none
 frames:X.A.frames=some X.stack
 stk:X.stack=X.outer∨(X.stack=X.env::X.outer/\X.env.frame=some X.env.locals)
 exf:∀ b∈X.ex,b≠X.env.locals/\∀ x c,X.env.cells.lookup x=some c->c≠b
 bs:∀ b o,X.base.get? b=some o->X.s₀.heap.get? b=some o/\X.H₀ b=none
 bsz:X.base.objs.size<=X.s₀.heap.objs.size
 noex:∀ b o,X.base.get? b=some o->b ∉ X.ex
 exfs:∀ b∈X.ex,b ∉ X.fs
 funs:X.s₀.heap.FunFrames X.base X.outer
 frf:∀ b∈X.fs,X.H₀ b=none
structure Inv (X:Cx) (pins:List (Addr × Obj)) (σ:List (Option V)) (H:Hp) (s:Shared):Prop where
 ok:X.Ok
 os:s.os=X.s₀.os
 bare:AllBare s.gens
 base:Un X.fs X.ex X.H₀ H X.s₀.heap s.heap
 loc:∃ m,s.heap.Ns X.env.locals m/\∀ (i:Nat) (x:Str) (v:V),X.N[i]?=some x->σ[i]?=some (some v)->Vis X.env.scope x->∃ u,RelV v u/\Look X.env s.heap m x u
 cell:∀ x c,X.env.cells.lookup x=some c->∃ v,s.heap.IsCell c v
 free:H X.env.locals=none
 freeC:∀ x c,X.env.cells.lookup x=some c->H c=none
 pin:∀ p∈X.pn++pins,s.heap.get? p.1=some p.2/\H p.1=none/\p.1≠X.env.locals/\p.1 ∉ X.fs/\∀ v,p.2.data≠.cell v
 hok:HOk X.prog X.w H s.heap
 len:σ.length=X.N.length
section
variable {X:Cx} {pins:List (Addr × Obj)} {σ:List (Option V)} {H H':Hp} {s:Shared} {h':Heap}
theorem Cx.Ok.nofr (ok:X.Ok) {b:Addr} {o:Obj} (e:X.base.get? b=some o):b ∉ X.fs:=fun hb=>by
 have:=(ok.funs.mem hb).1
 rw[e]at this;cases this
theorem Inv.bs (I:Inv X pins σ H s):∀ b o,X.base.get? b=some o->s.heap.get? b=some o/\H b=none:=fun b o e =>
 ⟨I.base.keep b o (I.ok.bs b o e).1 (I.ok.bs b o e).2 (I.ok.nofr e) (I.ok.noex b o e),I.base.free b o (I.ok.bs b o e).1 (I.ok.bs b o e).2 (I.ok.noex b o e)⟩
theorem Inv.bk (I:Inv X pins σ H s):∀ b o,X.base.get? b=some o->s.heap.get? b=some o:=fun b o e=>(I.bs b o e).1
theorem Inv.mod (I:Inv X pins σ H s):Mod X.K X.mg X.base:=I.ok.mod
theorem Inv.kIn (I:Inv X pins σ H s):X.K.In s.heap:=I.ok.mod.kin.keeps I.bk
theorem Inv.nolimit (I:Inv X pins σ H s):s.heap.NoLimit:=I.ok.mod.nolimit.keeps I.bk
theorem Inv.fr (I:Inv X pins σ H s):∃ m,Fr X.base X.env.locals s.heap m :=
 let ⟨m,hn,_⟩:=I.loc
 ⟨m,hn,I.bk,Nat.le_trans I.ok.bsz I.ok.above⟩
theorem Inv.lt (I:Inv X pins σ H s):X.env.locals < s.heap.objs.size:=let ⟨_,hn,_⟩:=I.loc;hn.lt
theorem Inv.sz (I:Inv X pins σ H s):X.s₀.heap.objs.size<=s.heap.objs.size:=Nat.le_trans I.ok.above (Nat.le_of_lt I.lt)
theorem Inv.nofs (I:Inv X pins σ H s) {a:Addr} (h:s.heap.objs.size<=a):a ∉ X.fs:=fun hb=>by
 obtain⟨_,o,ho,_⟩:=I.ok.funs.mem hb
 exact absurd (Nat.lt_of_lt_of_le (Heap.lt_size ho) (Nat.le_trans I.sz h)) (Nat.lt_irrefl _)
theorem Inv.cne (I:Inv X pins σ H s):∀ x c,X.env.cells.lookup x=some c->c≠X.env.locals:=fun x c e z=>by
 obtain⟨v,o,ho,hd⟩:=I.cell x c e
 obtain⟨m,⟨o',es,ep,ho',hd',_⟩,_⟩:=I.loc
 rw[z,ho']at ho;cases ho;rw[hd']at hd;cases hd
theorem Inv.funs (I:Inv X pins σ H s):s.heap.FunFrames X.base X.outer:=by
 have all:∀ (l:List Env),(∀ b∈frs l,b∈X.fs)->X.s₀.heap.FunFrames X.base l->s.heap.FunFrames X.base l:=by
  intro l
  induction l with
  | nil=>intro _ _;trivial
  | cons env r ih =>
   intro hs hl
   obtain⟨hk,⟨L,o,hf,hn,ho,hd⟩,hr⟩:=hl
   have hL:L∈X.fs:=hs L (by unfold frs;rw[List.filterMap_cons,hf];exact List.mem_cons_self)
   obtain⟨sl,e⟩:=I.base.slot L o ho (I.ok.frf L hL) hL fun z=>I.ok.exfs L z hL
   exact⟨hk,⟨L,_,hf,hn,e,hd⟩,ih (fun b hb=>hs b (by unfold frs;rw[List.filterMap_cons,hf];exact List.mem_cons_of_mem _ hb)) hr⟩
 exact all X.outer (fun _ hb=>hb) I.ok.funs
theorem Inv.stack (I:Inv X pins σ H s):s.heap.FunFrames X.base X.stack:=by
 rcases I.ok.stk with e | ⟨e,hf⟩
 ·rw[e];exact I.funs
 ·rw[e]
  obtain⟨m,hn,_⟩:=I.loc
  refine .cons (by rw[I.ok.kind];decide) hf hn ?_ I.funs
  exact Heap.get?_none_of_le (Nat.le_trans I.ok.bsz I.ok.above)
theorem Inv.stkSub (I:Inv X pins σ H s):∀ b∈frs X.stack,b∈X.env.locals::X.fs:=fun b hb=>by
 rcases I.ok.stk with e | ⟨e,hf⟩
 ·rw[e]at hb;exact List.mem_cons_of_mem _ hb
 ·rw[e]at hb
  unfold frs at hb
  rw[List.filterMap_cons,hf]at hb
  exact hb
theorem Inv.stkFree (I:Inv X pins σ H s):∀ b∈frs X.stack,H b=none:=fun b hb=>by
 rcases List.mem_cons.mp (I.stkSub b hb) with e | hb
 ·rw[e];exact I.free
 ·obtain⟨_,o,ho,_⟩:=I.ok.funs.mem hb
  exact I.base.free b o ho (I.ok.frf b hb) fun z=>I.ok.exfs b z hb
theorem Inv.step {g':Array GenState} {t':Nat} {d':Drawn} {ch:List Addr} (I:Inv X pins σ H s)
 (hch:∀ b∈ch,(b∈X.ex∨X.s₀.heap.objs.size<=b)/\b≠X.env.locals/\(∀ x c,X.env.cells.lookup x=some c->c≠b)/\∀ p∈X.pn++pins,p.1≠b)
 (keep:∀ b o,b≠X.env.locals->b ∉ X.fs->b ∉ ch->s.heap.get? b=some o->H b=none->h'.get? b=some o)
 (slot:∀ b o,b≠X.env.locals->b∈X.fs->b ∉ ch->s.heap.get? b=some o->H b=none->∃ sl,h'.get? b=some { o with slots:=sl }) (free:∀ b o,b ∉ ch->s.heap.get? b=some o->H b=none->H' b=none)
 (there:∀ b o,b ∉ ch->s.heap.get? b=some o->∃ o',h'.get? b=some o')
 (tups:∀ b xs,H b=some (.tup xs)->H' b=some (.tup xs)) (frzs:∀ b o u,H b=some (.frz o u)->H' b=some (.frz o u)) (tbls:∀ b ps,H b=some (.tbl ps)->∃ more,H' b=some (.tbl (ps++more)))
 (ns:∀ m,s.heap.Ns X.env.locals m->h'.Ns X.env.locals m) (hok:HOk X.prog X.w H' h') (hg:AllBare g') :
 Inv X pins σ H' { s with heap:=h',gens:=g',drawn:=d',toks:=t' }:=by
 have neL:∀ b o,X.s₀.heap.get? b=some o->b≠X.env.locals:=fun b o e=>Nat.ne_of_lt (Nat.lt_of_lt_of_le (Heap.lt_size e) I.ok.above)
 have neC:∀ b o,X.s₀.heap.get? b=some o->b ∉ X.ex->b ∉ ch:=fun b o e hx hb=>by
  rcases (hch b hb).1 with z | z
  ·exact hx z
  ·exact absurd (Nat.lt_of_lt_of_le (Heap.lt_size e) z) (Nat.lt_irrefl _)
 have cellK:∀ x c,X.env.cells.lookup x=some c->∀ v,s.heap.IsCell c v->h'.IsCell c v:=fun x c e v ⟨o,ho,hd⟩=>by
  have nch:c ∉ ch:=fun z=>(hch c z).2.2.1 x c e rfl
  by_cases hc:c∈X.fs
  ·obtain⟨sl,q⟩:=slot c o (I.cne x c e) hc nch ho (I.freeC x c e)
   exact⟨_,q,hd⟩
  ·exact⟨o,keep c o (I.cne x c e) hc nch ho (I.freeC x c e),hd⟩
 refine⟨I.ok,I.os,hg,⟨fun b o e n hb hx=>?_,fun b o e n hb hx=>?_,fun b o e n hx=>?_,fun b o e hx=>?_,fun b xs e=>tups b xs (I.base.tups b xs e),fun b o xs e=>frzs b o xs (I.base.frzs b o xs e),fun b ps e=>?_⟩,?_,fun x c e=>?_,?_,fun x c e=>?_,fun p hp=>?_,hok,I.len⟩
 ·exact keep b o (neL b o e) hb (neC b o e hx) (I.base.keep b o e n hb hx) (I.base.free b o e n hx)
 ·obtain⟨sl,e1⟩:=I.base.slot b o e n hb hx
  obtain⟨sl',e2⟩:=slot b _ (neL b o e) hb (neC b o e hx) e1 (I.base.free b o e n hx)
  exact⟨sl',e2⟩
 ·obtain⟨o',e1⟩:=I.base.there b o e hx
  exact free b o' (neC b o e hx) e1 (I.base.free b o e n hx)
 ·obtain⟨o',e1⟩:=I.base.there b o e hx
  exact there b o' (neC b o e hx) e1
 ·obtain⟨m1,e1⟩:=I.base.tbls b ps e
  obtain⟨m2,e2⟩:=tbls b _ e1
  exact⟨m1++m2,by rw[e2,Array.append_assoc]⟩
 ·obtain⟨m,hn,hl⟩:=I.loc
  refine⟨m,ns m hn,fun i x v e1 e2 e3=>?_⟩
  obtain⟨u,r,l⟩:=hl i x v e1 e2 e3
  refine⟨u,r,?_⟩
  rcases l with l | ⟨k,c,e,z⟩
  ·exact .inl l
  ·exact .inr ⟨k,c,e,cellK x c e _ z⟩
 ·obtain⟨v,z⟩:=I.cell x c e
  exact⟨v,cellK x c e v z⟩
 ·obtain⟨m,⟨o,_,_,ho,_⟩,_⟩:=I.loc
  exact free _ o (fun z=>(hch _ z).2.1 rfl) ho I.free
 ·obtain⟨v,o,ho,hd⟩:=I.cell x c e
  exact free c o (fun z=>(hch c z).2.2.1 x c e rfl) ho (I.freeC x c e)
 ·obtain⟨e,n,ne,nf,d⟩:=I.pin p hp
  have nch:p.1 ∉ ch:=fun z=>(hch p.1 z).2.2.2 p hp rfl
  exact⟨keep p.1 p.2 ne nf nch e n,free p.1 p.2 nch e n,ne,nf,d⟩
theorem Inv.un {t':Nat} (I:Inv X pins σ H s) (u:Un X.fs [] H H' s.heap h') (hok:HOk X.prog X.w H' h'):Inv X pins σ H' { s with heap:=h',toks:=t' }:=by
 obtain⟨m,⟨o,es,ep,ho,r⟩,_⟩:=id I.loc
 obtain⟨sl,hL⟩:=u.any ho I.free (by simp)
 exact I.step (g':=s.gens) (d':=s.drawn) (ch:=[]) (fun _ z=>nomatch z) (fun b o _ hb _ e n=>u.keep b o e n hb (by simp)) (fun b o _ hb _ e n=>u.slot b o e n hb (by simp)) (fun b o _ e n=>u.free b o e n (by simp)) (fun b o _ e=>u.there b o e (by simp)) u.tups u.frzs u.tbls (fun m' hm=>by
  obtain⟨o',es',ep',ho',r'⟩:=hm
  rw[ho]at ho';cases ho'
  exact⟨_,es',ep',hL,r'⟩) hok I.bare
theorem Inv.call {g':Array GenState} {t':Nat} {d':Drawn} {ch:List Addr} (I:Inv X pins σ H s) (u:Un (frs X.stack) ch H H' s.heap h') (hok:HOk X.prog X.w H' h') (hg:AllBare g')
 (hch:∀ b∈ch,(b∈X.ex∨X.s₀.heap.objs.size<=b)/\b≠X.env.locals/\(∀ x c,X.env.cells.lookup x=some c->c≠b)/\∀ p∈X.pn++pins,p.1≠b) :
 Inv X pins σ H' { s with heap:=h',gens:=g',drawn:=d',toks:=t' }:=by
 obtain⟨m,⟨o,es,ep,ho,r⟩,_⟩:=id I.loc
 obtain⟨sl,hL⟩:=u.any ho I.free fun z=>(hch _ z).2.1 rfl
 exact I.step (ch:=ch) hch (fun b o hL hb hc e n=>u.keep b o e n (fun z=>(List.mem_cons.mp (I.stkSub b z)).elim hL hb) hc) (fun b o _ _ hc e n=>u.any e n hc) (fun b o hc e n=>u.free b o e n hc) (fun b o hc e=>u.there b o e hc) u.tups u.frzs u.tbls (fun m' hm=>by
  obtain⟨o',es',ep',ho',r'⟩:=hm
  rw[ho]at ho';cases ho'
  exact⟨_,es',ep',hL,r'⟩) hok hg
theorem Inv.turned {t':Nat} {it:Addr} (I:Inv X pins σ H s) (k:∀ b o,b≠it->s.heap.get? b=some o->h'.get? b=some o) (hn:H it=none) (hL:it≠X.env.locals)
 (h1:it∈X.ex∨X.s₀.heap.objs.size<=it) (h2:∀ x c,X.env.cells.lookup x=some c->c≠it) (h3:∀ p∈X.pn++pins,p.1≠it):Inv X pins σ H { s with heap:=h',toks:=t' }:=by
 have nit:∀ b u,H b=some u->b≠it:=fun b u e z=>by rw[z,hn]at e;cases e
 refine I.step (g':=s.gens) (d':=s.drawn) (ch:=[it]) (fun b hb=>?_) (fun b o _ _ hc e _=>k b o (fun z=>hc (by simp[z])) e) (fun b o _ _ hc e _=>⟨o.slots,k b o (fun z=>hc (by simp[z])) e⟩) (fun _ _ _ _ n=>n)
  (fun b o hc e=>⟨o,k b o (fun z=>hc (by simp[z])) e⟩) (fun _ _ e=>e) (fun _ _ _ e=>e) (fun b ps e=>⟨#[],by rw[e];simp⟩) (fun m hm=>?_) (fun b u e=>?_) I.bare
 ·have e:b=it:=by simpa using hb
  subst e
  exact⟨h1,hL,h2,h3⟩
 ·obtain⟨o,es,ep,ho,r⟩:=hm
  exact⟨o,es,ep,k _ o (Ne.symm hL) ho,r⟩
 ·refine (I.hok b u e).stay (fun c v hc q=>k c v ?_ q) (fun _ q=>q) fun _ _ q=>q
  rcases hc with z | z
  ·rw[z];exact nit b u e
  ·exact nit c _ z
theorem Inv.tok (I:Inv X pins σ H s) (t:Nat):Inv X pins σ H { s with toks:=t }:=I.un (h':=s.heap) (t':=t) Un.refl I.hok
theorem Inv.kept {t':Nat} (I:Inv X pins σ H s) (k:∀ b u,s.heap.get? b=some u->h'.get? b=some u):Inv X pins σ H { s with heap:=h',toks:=t' }:=I.un (Un.kept k) (I.hok.kept k)
theorem Inv.laid {a:Addr} {o:HO} {t':Nat} (I:Inv X pins σ H s) (k:∀ b u,s.heap.get? b=some u->h'.get? b=some u) (hp:s.heap.objs.size<=a) (new:ObjOk X.prog X.w (upd H a o) h' a o) :
 Inv X pins σ (upd H a o) { s with heap:=h',toks:=t' }:=I.un (Un.laid k hp (I.hok.fresh hp)) (I.hok.laid k hp new)
theorem Inv.write {x e:Addr} {o:HO} {t':Nat} (I:Inv X pins σ H s) (mu:Mut (H x)) (he:e=x∨H e=some (.own x)) (k:∀ b u,b≠e->s.heap.get? b=some u->h'.get? b=some u) (heo:∃ u,h'.get? e=some u)
 (new:ObjOk X.prog X.w (upd H x o) h' x o):Inv X pins σ (upd H x o) { s with heap:=h',toks:=t' }:=I.un (Un.write mu he k heo) (I.hok.write mu he k heo new)
theorem Inv.weak {σ':List (Option V)} (I:Inv X pins σ H s) (hl:σ'.length=σ.length) (w:∀ (i:Nat) v,σ'[i]?=some (some v)->σ[i]?=some (some v)):Inv X pins σ' H s :=
 ⟨I.ok,I.os,I.bare,I.base,let ⟨m,hn,hl'⟩:=I.loc;⟨m,hn,fun i x v e1 e2 e3=>hl' i x v e1 (w i v e2) e3⟩,I.cell,I.free,I.freeC,I.pin,I.hok,hl.trans I.len⟩
theorem Inv.pins_of {pins':List (Addr × Obj)} (I:Inv X pins σ H s) (h:∀ p∈pins',s.heap.get? p.1=some p.2/\H p.1=none/\p.1≠X.env.locals/\p.1 ∉ X.fs/\∀ v,p.2.data≠.cell v):Inv X pins' σ H s :=
 ⟨I.ok,I.os,I.bare,I.base,I.loc,I.cell,I.free,I.freeC,fun p hp=>(List.mem_append.mp hp).elim (fun z=>I.pin p (List.mem_append_left _ z)) (h p),I.hok,I.len⟩
theorem x0g {N:List Str} (hN:N.Nodup) {i j:Nat} {x:Str} (a:N[i]?=some x) (b:N[j]?=some x):i=j:=by
 obtain⟨h1,e1⟩:=List.getElem?_eq_some_iff.mp a
 obtain⟨h2,e2⟩:=List.getElem?_eq_some_iff.mp b
 exact (List.getElem_inj hN).mp (e1.trans e2.symm)
theorem y5j {M:Model} {A:Around} {E:Value->Shared->Prop} {i:Nat} {x:Str} {v:V} {u:Value} {Q:Unit->Shared->Prop} (I:Inv X pins σ H s) (hN:X.N.Nodup) (hi:X.N[i]?=some x) (hx:Loc X.env.scope x) (r:RelV v u)
 (h:∀ s',Inv X pins (σ.set i (some v)) H s'->(∃ a,Heap.SameBut a s.heap s'.heap/\(a=X.env.locals∨X.env.cells.lookup x=some a))->Q () s') (hf:X.fn x=true∨X.env.scope.names.lookup x=some .local:=by first | exact .inl rfl | exact .inr rfl | assumption):wpAny M A (storeName X.env x u) Q E s:=by
 obtain⟨m,hn,hl⟩:=id I.loc
 have hcls:(X.env.scope.kind == .class || (X.env.scope.kind == .module && X.env.locals != X.env.globals))=false:=by rw[I.ok.kind];rfl
 have hiσ:i < σ.length:=by rw[I.len];exact (List.getElem?_eq_some_iff.mp hi).1
 have cne:=I.cne
 have tracked:∀ {a:Addr} {h':Heap},(∃ o,s.heap.get? a=some o/\H a=none)->Heap.SameBut a s.heap h'->HOk X.prog X.w H h':=fun {a h'} ha hs b ob e=>by
  obtain⟨_,_,hfree⟩:=ha
  refine (I.hok b ob e).stay (fun c w' hc q=>(hs.2 c ?_).trans q) (fun _ q=>q) fun _ _ q=>q
  rintro rfl
  rcases hc with rfl | hc
  ·rw[hfree]at e;cases e
  ·rw[hfree]at hc;cases hc
 rcases hx with hk | hk
 ·refine wpAny_storeName_local hk hn (fun h' hn' hs=>?_) hcls
  obtain⟨oL,_,_,hoL,_⟩:=id hn
  refine h _ ⟨I.ok,I.os,I.bare,⟨fun b o e n hb hx=>?_,fun b o e n hb hx=>?_,I.base.free,fun b o e hx=>?_,I.base.tups,I.base.frzs,I.base.tbls⟩,⟨_,hn',fun j y v' e1 e2 e3=>?_⟩,fun y c e=>?_,I.free,I.freeC,fun p hp=>?_,tracked ⟨oL,hoL,I.free⟩ hs,by simpa using I.len⟩ ⟨_,hs,.inl rfl⟩
  ·exact (hs.2 b (Nat.ne_of_lt (Nat.lt_of_lt_of_le (Heap.lt_size e) I.ok.above))).trans (I.base.keep b o e n hb hx)
  ·obtain⟨sl,e1⟩:=I.base.slot b o e n hb hx
   exact⟨sl,(hs.2 b (Nat.ne_of_lt (Nat.lt_of_lt_of_le (Heap.lt_size e) I.ok.above))).trans e1⟩
  ·obtain⟨o',e1⟩:=I.base.there b o e hx
   exact⟨o',(hs.2 b (Nat.ne_of_lt (Nat.lt_of_lt_of_le (Heap.lt_size e) I.ok.above))).trans e1⟩
  ·by_cases hj:j=i
   ·subst hj
    rw[hi]at e1;cases e1
    rw[List.getElem?_set_self hiσ]at e2
    cases e2
    exact⟨u,r,.inl ⟨hk,by simp⟩⟩
   ·rw[List.getElem?_set_ne (Ne.symm hj)]at e2
    obtain⟨u',r',q⟩:=hl j y v' e1 e2 e3
    refine⟨u',r',?_⟩
    rcases q with ⟨k,e⟩ | ⟨k,c,e,z⟩
    ·refine .inl ⟨k,?_⟩
     have:y≠x:=fun e=>hj (x0g hN e1 (e ▸ hi))
     simp[this,e]
    ·exact .inr ⟨k,c,e,z.sameBut hs (cne y c e)⟩
  ·obtain⟨w',z⟩:=I.cell y c e
   exact⟨w',z.sameBut hs (cne y c e)⟩
  ·obtain⟨e,n,ne,nf,d⟩:=I.pin p hp
   exact⟨(hs.2 p.1 ne).trans e,n,ne,nf,d⟩
 ·have hfn:X.fn x=true:=by
   rcases hf with z | z
   ·exact z
   ·rw[z]at hk;cases hk
  obtain⟨c,hc⟩:=I.ok.has x (.inl hk)
  obtain⟨w',z⟩:=I.cell x c hc
  refine wpAny_storeName_cell I.ok.kind hk hc z (fun h' hc' hs=>?_)
  obtain⟨oc,hoc,hocd⟩:=id z
  refine h { s with heap:=h' } ⟨I.ok,I.os,I.bare,⟨fun b o e n hb hx=>?_,fun b o e n hb hx=>?_,I.base.free,fun b o e hx=>?_,I.base.tups,I.base.frzs,I.base.tbls⟩,⟨m,hn.sameBut hs (Ne.symm (cne x c hc)),fun j y v' e1 e2 e3=>?_⟩,fun y c' e=>?_,I.free,I.freeC,fun p hp=>?_,tracked ⟨oc,hoc,I.freeC x c hc⟩ hs,by simpa using I.len⟩ ⟨c,hs,.inr hc⟩
  ·exact (hs.2 b (Nat.ne_of_lt (Nat.lt_of_lt_of_le (Heap.lt_size e) (I.ok.cab x c hfn hc)))).trans (I.base.keep b o e n hb hx)
  ·obtain⟨sl,e1⟩:=I.base.slot b o e n hb hx
   exact⟨sl,(hs.2 b (Nat.ne_of_lt (Nat.lt_of_lt_of_le (Heap.lt_size e) (I.ok.cab x c hfn hc)))).trans e1⟩
  ·obtain⟨o',e1⟩:=I.base.there b o e hx
   exact⟨o',(hs.2 b (Nat.ne_of_lt (Nat.lt_of_lt_of_le (Heap.lt_size e) (I.ok.cab x c hfn hc)))).trans e1⟩
  ·by_cases hj:j=i
   ·subst hj
    rw[hi]at e1;cases e1
    rw[List.getElem?_set_self hiσ]at e2
    cases e2
    exact⟨u,r,.inr ⟨.inl hk,c,hc,hc'⟩⟩
   ·rw[List.getElem?_set_ne (Ne.symm hj)]at e2
    obtain⟨u',r',q⟩:=hl j y v' e1 e2 e3
    refine⟨u',r',?_⟩
    rcases q with q | ⟨k,c',e,z'⟩
    ·exact .inl q
    ·refine .inr ⟨k,c',e,z'.sameBut hs ?_⟩
     rintro rfl
     exact hj (x0g hN e1 (I.ok.inj _ _ _ e hc ▸ hi))
  ·by_cases hcc:c'=c
   ·subst hcc;exact⟨_,hc'⟩
   ·obtain⟨w2,z2⟩:=I.cell y c' e
    exact⟨w2,z2.sameBut hs hcc⟩
  ·obtain⟨e,n,ne,nf,d⟩:=I.pin p hp
   refine⟨(hs.2 p.1 ?_).trans e,n,ne,nf,d⟩
   intro q
   rw[q,hoc]at e
   have q':oc=p.2:=Option.some.inj e
   exact d w' (by rw[←q'];exact hocd)
theorem y0m {M:Model} {A:Around} {E:Value->Shared->Prop} {i:Nat} {x:Str} {v:V} {u:Value} {Q:Unit->Shared->Prop} (I:Inv X pins σ H s) (hN:X.N.Nodup) (hi:X.N[i]?=some x) (hx:Loc X.env.scope x) (r:RelV v u)
 (h:∀ s',Inv X pins (σ.set i (some v)) H s'->Q () s') (hf:X.fn x=true∨X.env.scope.names.lookup x=some .local:=by first | exact .inl rfl | exact .inr rfl | assumption):wpAny M A (storeName X.env x u) Q E s :=
 y5j I hN hi hx r (fun s' I' _=>h s' I') hf
theorem Inv.call' {s':Shared} {ch:List Addr} (I:Inv X pins σ H s) (ho:s'.os=s.os) (u:Un (frs X.stack) ch H H' s.heap s'.heap) (hok:HOk X.prog X.w H' s'.heap) (hg:AllBare s'.gens)
 (hch:∀ b∈ch,(b∈X.ex∨X.s₀.heap.objs.size<=b)/\b≠X.env.locals/\(∀ x c,X.env.cells.lookup x=some c->c≠b)/\∀ p∈X.pn++pins,p.1≠b):Inv X pins σ H' s':=by
 obtain⟨h',g',d',t',o'⟩:=s'
 have e:o'=s.os:=ho
 subst e
 exact I.call (g':=g') (t':=t') (d':=d') u hok hg hch
end
abbrev XK:=Value->Option Addr->Hp->Prop
abbrev St:=List (Option V)
abbrev VK:=V->Hp->Prop
abbrev TE:=St->Hp->VK->Prop
abbrev TT:=St->Hp->(Bool->Hp->Prop)->Prop
abbrev TA:=St->Hp->(List V->Hp->Prop)->Prop
structure Ends where
 nx:St->Hp->Prop
 rt:VK
 bk:St->Hp->Prop:=fun _ _=>False
 ct:St->Hp->Prop:=fun _ _=>False
abbrev TS:=Ends->St->Hp->Prop
def EP (X:Cx) (pins:List (Addr × Obj)) (σ:St) (Q:VK) (u:Value) (s':Shared):Prop:=∃ v H',Inv X pins σ H' s'/\RelV v u/\Q v H'
def TP (X:Cx) (pins:List (Addr × Obj)) (σ:St) (Q:Bool->Hp->Prop) (b:Bool) (s':Shared):Prop:=∃ H',Inv X pins σ H' s'/\Q b H'
def AP (X:Cx) (pins:List (Addr × Obj)) (σ:St) (Q:List V->Hp->Prop) (us:List Value) (s':Shared):Prop:=∃ vs H',Inv X pins σ H' s'/\Vals vs us/\Q vs H'
def SP (X:Cx) (pins:List (Addr × Obj)) (D:Ends) (f:Flow) (s':Shared):Prop :=
 match f with
 | .next=>∃ σ' H',Inv X pins σ' H' s'/\D.nx σ' H'
 | .brk=>∃ σ' H',Inv X pins σ' H' s'/\D.bk σ' H'
 | .cont=>∃ σ' H',Inv X pins σ' H' s'/\D.ct σ' H'
 | .ret u=>∃ v σ' H',Inv X pins σ' H' s'/\RelV v u/\D.rt v H'
def PE (X:Cx) (e:Expr) (t:TE):Prop :=
 ∀ (pins:List (Addr × Obj)) (s:Shared) (σ:St) (H:Hp) (Q:VK),Inv X pins σ H s->t σ H Q->wpAny (model X.prog X.w) X.A (eval e X.env) (EP X pins σ Q) X.xe s
def PT (X:Cx) (e:Expr) (t:TT):Prop :=
 ∀ (pins:List (Addr × Obj)) (s:Shared) (σ:St) (H:Hp) (Q:Bool->Hp->Prop),Inv X pins σ H s->t σ H Q->wpAny (model X.prog X.w) X.A (isTrue e X.env (eval e X.env)) (TP X pins σ Q) X.xe s
def PW (X:Cx) (e:Expr) (t:TT):Prop :=
 ∀ (whole:Sem Value) (pins:List (Addr × Obj)) (s:Shared) (σ:St) (H:Hp) (Q:Bool->Hp->Prop),Inv X pins σ H s->t σ H Q->wpAny (model X.prog X.w) X.A (isTrue e X.env whole) (TP X pins σ Q) X.xe s
theorem PW.pt {X:Cx} {e:Expr} {t:TT} (h:PW X e t):PT X e t:=h _
def PA (X:Cx) (es:List Expr) (t:TA):Prop :=
 ∀ (pos:Pos) (pins:List (Addr × Obj)) (s:Shared) (σ:St) (H:Hp) (Q:List V->Hp->Prop),Inv X pins σ H s->t σ H Q->wpAny (model X.prog X.w) X.A (spliced (backTo pos (starEach es X.env))) (AP X pins σ Q) X.xe s
def PS (X:Cx) (st:Stmt) (t:TS):Prop :=
 ∀ (pins:List (Addr × Obj)) (s:Shared) (σ:St) (H:Hp) (D:Ends),Inv X pins σ H s->t D σ H->wpAny (model X.prog X.w) X.A (exec st X.env) (SP X pins D) X.xe s
def PSs (X:Cx) (st:List Stmt) (t:TS):Prop :=
 ∀ (pins:List (Addr × Obj)) (s:Shared) (σ:St) (H:Hp) (D:Ends),Inv X pins σ H s->t D σ H->wpAny (model X.prog X.w) X.A (execs st X.env) (SP X pins D) X.xe s
theorem thn {α:Type} {t:Sem α} {Q Q':α->Shared->Prop} {M:Model} {A:Around} {E:Value->Shared->Prop} {s:Shared} (h:wpAny M A t Q E s) (hQ:∀ a s,Q a s->Q' a s):wpAny M A t Q' E s:=wpAny_mono h hQ fun _ _ x=>x
end L2
namespace L2
open PySem PySem.Spec PyProof.Rows
section
variable {X:Cx}
def tVar (i:Nat):TE:=fun σ H Q=>∃ v,σ[i]?=some (some v)/\Q v H
def tC (v:V):TE:=fun _ H Q=>Q v H
theorem w1p {i:Nat} {x:Str} {pos:Pos} (hN:X.N[i]?=some x) (hv:Vis X.env.scope x) (hd:(x == ("__debug__" : Str))=false:=by decide) (hcd:(x == ("__classdict__" : Str))=false:=by decide):PE X (.Name x pos) (tVar i):=by
 intro pins s σ H Q I h
 obtain⟨v,e,h⟩:=h
 obtain⟨m,hn,hl⟩:=I.loc
 obtain⟨u,r,l⟩:=hl i x v hN e hv
 have fin:EP X pins σ Q u s:=⟨v,H,I,r,h⟩
 rcases l with ⟨hk,hm⟩ | ⟨hk,c,hc,hcell⟩
 ·exact wpAny_Name (wpAny_loadName_local I.ok.kind hk hn hm fin) hd
 ·rcases hk with hk | hk
  ·exact wpAny_Name (wpAny_loadName_cell I.ok.kind hk hc hcell fin) hd
  ·exact wpAny_Name (wpAny_loadName_free I.ok.kind hk hc hcell fin hcd) hd
theorem z0i {i j pos}:PE X (.Constant (.int i) j pos) (tC (.int i)):=fun _ _ _ H _ I h=>wpAny_Constant_int ⟨.int i,H,I.tok _,⟨_,rfl⟩,h⟩
theorem pe_bl {b j pos}:PE X (.Constant (.bool b) j pos) (tC (.bl b)):=fun _ _ _ H _ I h=>Constant_bool ⟨.bl b,H,I,rfl,h⟩
theorem z6g {j pos}:PE X (.Constant .none j pos) (tC .non):=fun _ _ _ H _ I h=>Constant_none ⟨.non,H,I,rfl,h⟩
theorem z1g {x j pos}:PE X (.Constant (.str x) j pos) (tC (.str x)):=fun _ _ _ H _ I h=>Calls.Constant_str ⟨.str x,H,I.tok _,⟨_,rfl⟩,h⟩
def Gl (X:Cx) (x:Str):Prop:=X.env.kindOf x=some .globalImplicit
theorem x5e {E:Value->Shared->Prop} {pins:List (Addr × Obj)} {s:Shared} {σ:St} {H:Hp} {x:Str} {u:Value} {pos:Pos} {Q:Value->Shared->Prop} (I:Inv X pins σ H s) (hg:Gl X x) (hm:X.mg x=some u) (h:Q u s)
 (hd:(x == ("__debug__" : Str))=false:=by decide):wpAny (model X.prog X.w) X.A (eval (.Name x pos) X.env) Q E s :=
 Calls.Name_function_global I.ok.kind hg (Calls.loadGlobal_global (by rw[I.ok.glob];exact I.mod.glob.keeps I.bk) hm h) hd
theorem z7g {E:Value->Shared->Prop} {pins:List (Addr × Obj)} {s:Shared} {σ:St} {H:Hp} {x:Str} {u:Value} {pos:Pos} {Q:Value->Shared->Prop} (I:Inv X pins σ H s) (hg:Gl X x) (hm:X.mg x=none) (hv:bootBuiltins x=some u) (h:Q u s)
 (hn:x≠"__name__":=by decide) (hd:(x == ("__debug__" : Str))=false:=by decide):wpAny (model X.prog X.w) X.A (eval (.Name x pos) X.env) Q E s:=by
 obtain⟨mb,h1,h2⟩:=I.mod.blt
 exact Calls.Name_function_global I.ok.kind hg (Calls.loadGlobal_builtin (by rw[I.ok.glob];exact I.mod.glob.keeps I.bk) hm (by rw[I.ok.blt];exact h1.keeps I.bk) ((h2 x hn).trans hv) h) hd
theorem x9z {x:Str} {v:V} {u:Value} {pos:Pos} (hg:Gl X x) (hm:X.mg x=none) (hv:bootBuiltins x=some u) (r:RelV v u) (hn:x≠"__name__":=by decide) (hd:(x == ("__debug__" : Str))=false:=by decide):PE X (.Name x pos) (tC v) :=
 fun _ _ _ H _ I h=>z7g I hg hm hv ⟨v,H,I,r,h⟩ hn hd
variable {a b:Expr} {ta tb:TE} {pos:Pos}
def PC (X:Cx) (op:CmpOp) (a b:Expr) (t:TE):Prop :=
 ∀ (pins:List (Addr × Obj)) (s:Shared) (σ:St) (H:Hp) (Q:VK),Inv X pins σ H s->t σ H Q ->
  wpAny (model X.prog X.w) X.A (eval a X.env) (fun v s₁=>wpAny (model X.prog X.w) X.A (eval b X.env) (fun u s₂=>wpAny (model X.prog X.w) X.A (compareOp op v u) (EP X pins σ Q) X.xe s₂) X.xe s₁) X.xe s
theorem x0h (b:Expr) {op:CmpOp} (h:op≠.In) (h2:op≠.NotIn):behindInMarks op b=false:=by
 have e1:(op == CmpOp.In)=false:=by cases op<;>first | rfl | exact absurd rfl h
 have e2:(op == CmpOp.NotIn)=false:=by cases op<;>first | rfl | exact absurd rfl h2
 cases b<;>simp[behindInMarks,e1,e2]
def tB (t:TE):TT:=fun σ H Q=>t σ H fun x H1=>∃ c,x=.bl c/\Q c H1
theorem w1q {op:CmpOp} {t:TE} (h:PC X op a b t) (h1:behindInMarks op b=false:=by first | exact x0h _ (by decide) (by decide) | rfl):PE X (.Compare a [op] [b] pos) t:=fun pins s σ H Q I hw=>wpAny_Compare1 (h pins s σ H Q I hw) h1
theorem z8n {op:CmpOp} {t:TE} (h:PC X op a b t) (h1:behindInMarks op b=false:=by first | exact x0h _ (by decide) (by decide) | rfl):PT X (.Compare a [op] [b] pos) (tB t):=by
 intro pins s σ H Q I hw
 refine wpAny_isTrue_Compare1 (thn (h pins s σ H _ I hw) fun v s1 h1=>thn h1 fun u s2 h2=>thn h2 fun c s3 ⟨x,H1,I1,r1,q1⟩=>?_) h1
 obtain⟨d,rfl,q⟩:=q1
 cases r1
 exact wpAny_truthy_bool ⟨H1,I1,q⟩
theorem z3p {e:Expr} {t:TE} (h:PE X e t) (he:∀ whole,isTrue e X.env whole=(do let v ←whole;standAt e.pos;holding [v] (truthy v)):=by intro _;rfl):PT X e (tB t):=by
 intro pins s σ H Q I hw
 refine isTrue_plain (thn (h pins s σ H _ I hw) fun v s1 ⟨x,H1,I1,r1,q1⟩=>?_) (he _)
 obtain⟨d,rfl,q⟩:=q1
 cases r1
 exact wpAny_truthy_bool ⟨H1,I1,q⟩
variable {tA tB':TT} {rest:List Expr}
def tAnd (t u:TT):TT:=fun σ H Q=>t σ H fun c H1=>if c=true then u σ H1 Q else Q false H1
def tOr (t u:TT):TT:=fun σ H Q=>t σ H fun c H1=>if c=true then Q true H1 else u σ H1 Q
def tNot (t:TT):TT:=fun σ H Q=>t σ H fun c H1=>Q (!c) H1
theorem z9l (ha:PT X a tA):PW X (.BoolOp .And [a] pos) tA:=by
 intro wh pins s σ H Q I h
 refine isTrue_and (thn (ha pins s σ H Q I h) fun c s1 e=>?_)
 cases c with
 | true=>exact isTrue_and_nil e
 | false=>exact e
theorem z7z (ha:PT X a tA):PW X (.BoolOp .Or [a] pos) tA:=by
 intro wh pins s σ H Q I h
 refine isTrue_or (thn (ha pins s σ H Q I h) fun c s1 e=>?_)
 cases c with
 | false=>exact isTrue_or_nil e
 | true=>exact e
theorem y2x (ha:PT X a tA) (hb:PW X (.BoolOp .And (b::rest) pos) tB'):PW X (.BoolOp .And (a::b::rest) pos) (tAnd tA tB'):=by
 intro wh pins s σ H Q I h
 refine isTrue_and (thn (ha pins s σ H _ I h) fun c s1 ⟨H1,I1,q1⟩=>?_)
 cases c with
 | true=>exact hb wh pins s1 σ H1 Q I1 q1
 | false=>exact⟨H1,I1,q1⟩
theorem pw_or (ha:PT X a tA) (hb:PW X (.BoolOp .Or (b::rest) pos) tB'):PW X (.BoolOp .Or (a::b::rest) pos) (tOr tA tB'):=by
 intro wh pins s σ H Q I h
 refine isTrue_or (thn (ha pins s σ H _ I h) fun c s1 ⟨H1,I1,q1⟩=>?_)
 cases c with
 | true=>exact⟨H1,I1,q1⟩
 | false=>exact hb wh pins s1 σ H1 Q I1 q1
theorem z4b (ha:PT X a tA):PT X (.UnaryOp .Not a pos) (tNot tA):=by
 intro pins s σ H Q I h
 exact isTrue_not (ha pins s σ H (fun c H1=>Q (!c) H1) I h)
def tAndV (ta tb:TE):TE:=fun σ H Q=>ta σ H fun x H1=>∃ c,x=.bl c/\if c=true then tb σ H1 Q else Q (.bl false) H1
def tOrV (ta tb:TE):TE:=fun σ H Q=>ta σ H fun x H1=>∃ c,x=.bl c/\if c=true then Q (.bl true) H1 else tb σ H1 Q
def tNotV (ta:TE):TE:=fun σ H Q=>ta σ H fun x H1=>∃ c,x=.bl c/\Q (.bl (!c)) H1
theorem z8a {op} {t:TE} (h:PE X a t):PE X (.BoolOp op [a] pos) t:=fun pins s σ H Q I hw=>BoolOp_one (h pins s σ H Q I hw)
theorem y2y (ha:PE X a ta) (hb:PE X (.BoolOp .And (b::rest) pos) tb):PE X (.BoolOp .And (a::b::rest) pos) (tAndV ta tb):=by
 intro pins s σ H Q I h
 refine BoolOp_and (thn (ha pins s σ H _ I h) fun v s1 ⟨x,H1,I1,r1,q1⟩=>?_)
 obtain⟨c,rfl,q1⟩:=q1
 cases r1
 refine wpAny_truthy_bool ?_
 cases c with
 | true=>exact hb pins s1 σ H1 Q I1 q1
 | false=>exact⟨.bl false,H1,I1,rfl,q1⟩
theorem pe_or (ha:PE X a ta) (hb:PE X (.BoolOp .Or (b::rest) pos) tb):PE X (.BoolOp .Or (a::b::rest) pos) (tOrV ta tb):=by
 intro pins s σ H Q I h
 refine BoolOp_or (thn (ha pins s σ H _ I h) fun v s1 ⟨x,H1,I1,r1,q1⟩=>?_)
 obtain⟨c,rfl,q1⟩:=q1
 cases r1
 refine wpAny_truthy_bool ?_
 cases c with
 | false=>exact hb pins s1 σ H1 Q I1 q1
 | true=>exact⟨.bl true,H1,I1,rfl,q1⟩
theorem y6a (ha:PE X a ta):PE X (.UnaryOp .Not a pos) (tNotV ta):=by
 intro pins s σ H Q I h
 refine UnaryOp_ (thn (ha pins s σ H _ I h) fun v s1 ⟨x,H1,I1,r1,q1⟩=>?_)
 obtain⟨c,rfl,q1⟩:=q1
 cases r1
 exact not_of (wpAny_truthy_bool ⟨.bl (!c),H1,I1,rfl,q1⟩)
def tIf (t:TT) (ta tb:TE):TE:=fun σ H Q=>t σ H fun c H1=>if c=true then ta σ H1 Q else tb σ H1 Q
theorem x7j {c:Expr} (hc:PT X c tA) (ha:PE X a ta) (hb:PE X b tb):PE X (.IfExp c a b pos) (tIf tA ta tb):=by
 intro pins s σ H Q I h
 refine wpAny_IfExp (thn (hc pins s σ H _ I h) fun d s1 ⟨H1,I1,q1⟩=>?_)
 cases d with
 | true=>exact ha pins s1 σ H1 Q I1 q1
 | false=>exact hb pins s1 σ H1 Q I1 q1
end
end L2
namespace L2
open PySem PySem.Spec PyProof.Rows
def SqL (K:W.Frag) (H:Hp) (a:Addr) (xs:List V):Prop :=
 Rd H a (.lst xs) ∨
  ∃ (o:Obj) (its:Array Value) (n:Nat),K.lookup a=some o/\o.cls=.type "list"/\o.dict=none/\o.data=.seq its n/\its.size<=sizeLine/\Vals xs its.toList
def SqT (K:W.Frag) (H:Hp) (a:Addr) (xs:List V):Prop :=
 Rd H a (.tup xs) ∨
  ∃ (o:Obj) (its:Array Value) (n:Nat),K.lookup a=some o/\o.cls=.type "tuple"/\o.data=.seq its n/\its.size<=sizeLine/\Vals xs its.toList
def absV:Value->Option V
 | .none=>some .non
 | .bool b=>some (.bl b)
 | .int i _=>some (.int i)
 | .str x _=>some (.str x)
 | .bytes b _=>some (.byt b)
 | .float b _=>some (.flt b)
 | .ref a=>some (.ref a)
 | .type n=>some (.ty n)
 | _=>none
theorem RelV.abs {x:V} {u:Value} (r:RelV x u):absV u=some x:=by
 cases x with
 | non=>cases r;rfl
 | bl _=>cases r;rfl
 | int _=>obtain⟨t,rfl⟩:=r;rfl
 | str _=>obtain⟨t,rfl⟩:=r;rfl
 | byt _=>obtain⟨t,rfl⟩:=r;rfl
 | flt _=>obtain⟨t,rfl⟩:=r;rfl
 | ref _=>cases r;rfl
 | ty _=>cases r;rfl
theorem RelV.inj {x y:V} {u:Value} (r:RelV x u) (q:RelV y u):x=y:=Option.some.inj (r.abs.symm.trans q.abs)
theorem Vals.inj:∀ {xs ys:List V} {us:List Value},Vals xs us->Vals ys us->xs=ys
 | _,_,_,.nil,.nil=>rfl
 | _,_,_,.cons r t,.cons r' t'=>by rw[r.inj r',Vals.inj t t']
section
variable {X:Cx} {pins:List (Addr × Obj)} {σ:St} {H:Hp} {s:Shared} {a:Addr} {xs ys:List V}
theorem qLo {K:W.Frag} (h:H a=some (.lst xs)):SqL K H a xs:=.inl (.inl h)
theorem qTo {K:W.Frag} (h:H a=some (.tup xs)):SqT K H a xs:=.inl (.inl h)
theorem Inv.list (I:Inv X pins σ H s) (h:SqL X.K H a xs):∃ its:List Value,Vals xs its/\PlainL s.heap a its.toArray/\xs.length<=sizeLine:=by
 rcases h with h | ⟨o,its,n,hk,hc,hd,hs,hz,r⟩
 ·obtain⟨z,its,n,r,e⟩:=h.ok I.hok
  exact⟨its,r,⟨_,n,e,rfl,rfl,rfl⟩,z⟩
 ·refine⟨its.toList,r,⟨o,n,I.kIn a o hk,hc,hd,by simpa using hs⟩,?_⟩
  have e:=r.length
  simp only[Array.length_toList]at e
  omega
theorem Inv.tuple (I:Inv X pins σ H s) (h:SqT X.K H a xs):∃ its:List Value,Vals xs its/\IsTup s.heap a its.toArray/\xs.length<=sizeLine:=by
 rcases h with h | ⟨o,its,n,hk,hc,hs,hz,r⟩
 ·obtain⟨z,its,r,p⟩:=h.ok I.hok
  exact⟨its,r,p,z⟩
 ·refine⟨its.toList,r,⟨o,I.kIn a o hk,hc,n,by simpa using hs⟩,?_⟩
  have e:=r.length
  simp only[Array.length_toList]at e
  omega
theorem Inv.list_inj (I:Inv X pins σ H s) (h:SqL X.K H a xs) (h':SqL X.K H a ys):xs=ys:=by
 obtain⟨its,r,⟨o,n,e,_,_,d⟩,_⟩:=I.list h
 obtain⟨its',r',⟨o',n',e',_,_,d'⟩,_⟩:=I.list h'
 rw[e]at e';cases e'
 rw[d]at d'
 injection d' with d1 _
 have:its=its':=by simpa using congrArg Array.toList d1
 subst this
 exact r.inj r'
end
abbrev Cx.wish (X:Cx) (E:Value->Shared->Prop):Cx:={ X with xe:=E }
abbrev Cx.nox (X:Cx):Cx:=X.wish fun _ _=>False
theorem Cx.Ok.wish {X:Cx} (ok:X.Ok) (E:Value->Shared->Prop):(X.wish E).Ok :=
 ⟨ok.mod,ok.kind,ok.glob,ok.blt,ok.above,ok.inj,ok.has,ok.cab,ok.hd,ok.frames,ok.stk,ok.exf,ok.bs,ok.bsz,ok.noex,ok.exfs,ok.funs,ok.frf⟩
theorem Cx.Ok.unwish {X:Cx} {E:Value->Shared->Prop} (ok:(X.wish E).Ok):X.Ok :=
 ⟨ok.mod,ok.kind,ok.glob,ok.blt,ok.above,ok.inj,ok.has,ok.cab,ok.hd,ok.frames,ok.stk,ok.exf,ok.bs,ok.bsz,ok.noex,ok.exfs,ok.funs,ok.frf⟩
section
variable {X:Cx} {pins:List (Addr × Obj)} {σ:St} {H:Hp} {s:Shared} {E:Value->Shared->Prop}
theorem Inv.wish (I:Inv X pins σ H s) (E:Value->Shared->Prop):Inv (X.wish E) pins σ H s:=⟨I.ok.wish E,I.os,I.bare,I.base,I.loc,I.cell,I.free,I.freeC,I.pin,I.hok,I.len⟩
theorem Inv.unwish (I:Inv (X.wish E) pins σ H s):Inv X pins σ H s:=⟨I.ok.unwish,I.os,I.bare,I.base,I.loc,I.cell,I.free,I.freeC,I.pin,I.hok,I.len⟩
theorem SP.unwish {D:Ends} {f:Flow} {s':Shared} (h:SP (X.wish E) pins D f s'):SP X pins D f s':=by
 cases f with
 | next=>obtain⟨σ',H',I,q⟩:=h;exact⟨σ',H',I.unwish,q⟩
 | brk=>obtain⟨σ',H',I,q⟩:=h;exact⟨σ',H',I.unwish,q⟩
 | cont=>obtain⟨σ',H',I,q⟩:=h;exact⟨σ',H',I.unwish,q⟩
 | ret u=>obtain⟨v,σ',H',I,r,q⟩:=h;exact⟨v,σ',H',I.unwish,r,q⟩
theorem PE.nox {e:Expr} {t:TE} (h:PE X.nox e t):PE X e t:=fun pins s σ H Q I hw =>
 wpAny_mono (h pins s σ H Q (I.wish _) hw) (fun _ _ ⟨v,H',I',r,q⟩=>⟨v,H',I'.unwish,r,q⟩) fun _ _ z=>False.elim z
theorem PT.nox {e:Expr} {t:TT} (h:PT X.nox e t):PT X e t:=fun pins s σ H Q I hw =>
 wpAny_mono (h pins s σ H Q (I.wish _) hw) (fun _ _ ⟨H',I',q⟩=>⟨H',I'.unwish,q⟩) fun _ _ z=>False.elim z
theorem PSs.nox {st:List Stmt} {t:TS} (h:PSs X.nox st t):PSs X st t:=fun pins s σ H D I hw =>
 wpAny_mono (h pins s σ H D (I.wish _) hw) (fun _ _ q=>q.unwish) fun _ _ z=>False.elim z
end
section
variable {X:Cx} {st:Stmt} {rest:List Stmt} {t u:TS} {e:Expr} {te:TE} {pos:Pos}
def tNext:TS:=fun D σ H=>D.nx σ H
def tSeq (t u:TS):TS:=fun D σ H=>t { D with nx:=u D } σ H
theorem z0q:PSs X [] tNext:=fun _ _ σ H _ I h=>wpAny_execs_nil ⟨σ,H,I,h⟩
theorem z0b (h1:PS X st t) (h2:PSs X rest u):PSs X (st::rest) (tSeq t u):=by
 intro pins s σ H D I h
 refine wpAny_execs_cons (thn (h1 pins s σ H { D with nx:=u D } I h) fun f s1 q=>?_)
 cases f with
 | next =>
  obtain⟨σ',H',I',q⟩:=q
  exact h2 pins s1 σ' H' D I' q
 | ret v=>exact q
 | brk=>exact q
 | cont=>exact q
theorem z0e (h1:PS X st t):PSs X [st] t:=by
 intro pins s σ H D I h
 refine wpAny_execs_cons (thn (h1 pins s σ H D I h) fun f s1 q=>?_)
 cases f with
 | next=>exact wpAny_execs_nil q
 | ret v=>exact q
 | brk=>exact q
 | cont=>exact q
def w1h:TS:=fun D σ H=>D.bk σ H
theorem x7f:PS X (.Break pos) w1h:=fun _ _ σ H _ I h=>wpAny_Break ⟨σ,H,I,h⟩
theorem Inv.quiet {pins:List (Addr × Obj)} {σ:St} {H:Hp} {s:Shared} (I:Inv X pins σ H s):interactive X.env=false:=by simp[interactive,I.ok.kind]
def tDrop (te:TE):TS:=fun D σ H=>te σ H fun _ H1=>D.nx σ H1
theorem z0r (he:PE X e te) (hs:swapsWith e none pos.line X.env=pure false:=by rfl):PS X (.Expr e pos) (tDrop te):=by
 intro pins s σ H D I h
 exact wpAny_Expr_any (thn (he pins s σ H _ I h) fun v s1 ⟨x,H1,I1,r1,q1⟩=>⟨σ,H1,I1,q1⟩) I.quiet hs
def tRet (te:TE):TS:=fun D σ H=>te σ H D.rt
theorem z0o (he:PE X e te):PS X (.Return (some e) pos) (tRet te):=by
 intro pins s σ H D I h
 exact wpAny_Return_some (thn (he pins s σ H _ I h) fun v s1 ⟨x,H1,I1,r1,q1⟩=>⟨x,σ,H1,I1,r1,q1⟩)
def tIfS (c:TT) (t u:TS):TS:=fun D σ H=>c σ H fun b H1=>if b=true then t D σ H1 else u D σ H1
theorem ps_if {c:Expr} {a b:List Stmt} {tc:TT} (hc:PT X c tc) (ha:PSs X a t) (hb:PSs X b u):PS X (.If c a b pos) (tIfS tc t u):=by
 intro pins s σ H D I h
 refine wpAny_If (thn (hc pins s σ H _ I h) fun d s1 ⟨H1,I1,q1⟩=>?_)
 cases d with
 | true=>exact ha pins s1 σ H1 D I1 q1
 | false=>exact hb pins s1 σ H1 D I1 q1
def w1b:TS:=fun _ _ _=>False
theorem y9z:PS X st w1b:=fun _ _ _ _ _ _ h=>h.elim
end
abbrev TG:=V->St->Hp->(St->Hp->Prop)->Prop
abbrev TGs:=List V->St->Hp->(St->Hp->Prop)->Prop
def PG (X:Cx) (target:Expr) (t:TG):Prop :=
 ∀ (pins:List (Addr × Obj)) (s:Shared) (σ:St) (H:Hp) (v:V) (u:Value) (Q:St->Hp->Prop),Inv X pins σ H s->RelV v u->t v σ H Q ->
  wpAny (model X.prog X.w) X.A (assign target X.env u) (fun _ s'=>∃ σ' H',Inv X pins σ' H' s'/\Q σ' H') X.xe s
def PGs (X:Cx) (ts:List Expr) (t:TGs):Prop :=
 ∀ (pins:List (Addr × Obj)) (s:Shared) (σ:St) (H:Hp) (vs:List V) (us:List Value) (Q:St->Hp->Prop),Inv X pins σ H s->Vals vs us->t vs σ H Q ->
  wpAny (model X.prog X.w) X.A (assignInOrder ((assignEach ts X.env).map (·.2)) us) (fun _ s'=>∃ σ' H',Inv X pins σ' H' s'/\Q σ' H') X.xe s
abbrev TSet:=V->V->V->Hp->(Hp->Prop)->Prop
def PSet (X:Cx) (t:TSet):Prop :=
 ∀ (pins:List (Addr × Obj)) (s:Shared) (σ:St) (H:Hp) (o i v:V) (ov iv u:Value) (Q:Hp->Prop),Inv X pins σ H s->RelV o ov->RelV i iv->RelV v u->t o i v H Q ->
  wpAny (model X.prog X.w) X.A (setItem ov iv u) (fun _ s'=>∃ H',Inv X pins σ H' s'/\Q H') X.xe s
abbrev TIp:=V->V->Hp->VK->Prop
def PIp (X:Cx) (op:Operator) (t:TIp):Prop :=
 ∀ (pins:List (Addr × Obj)) (s:Shared) (σ:St) (H:Hp) (x y:V) (v u:Value) (Q:VK),Inv X pins σ H s->RelV x v->RelV y u->t x y H Q ->
  wpAny (model X.prog X.w) X.A (inplaceOp op v u) (EP X pins σ Q) X.xe s
section
variable {X:Cx} {pos:Pos}
def gName (i:Nat):TG:=fun v σ H Q=>Q (σ.set i (some v)) H
theorem z1l {i:Nat} {x:Str} (hN:X.N.Nodup) (hi:X.N[i]?=some x) (hx:Loc X.env.scope x) (hf:X.fn x=true∨X.env.scope.names.lookup x=some .local:=by first | exact .inl rfl | exact .inr rfl | assumption):PG X (.Name x pos) (gName i):=by
 intro pins s σ H v u Q I r h
 exact wpAny_assign_Name (y0m I hN hi hx r (fun s' I'=>⟨_,H,I',h⟩) hf)
def gNil:TGs:=fun vs σ H Q=>vs=[]/\Q σ H
def gCons (t:TG) (u:TGs):TGs:=fun vs σ H Q=>∃ v r,vs=v::r/\t v σ H fun σ' H'=>u r σ' H' Q
theorem y8e:PGs X [] gNil:=by
 intro pins s σ H vs us Q I r h
 obtain⟨e,h⟩:=h
 subst e
 cases r
 exact assignInOrder_nil ⟨σ,H,I,h⟩
theorem z4z {e:Expr} {es:List Expr} {t:TG} {u:TGs} (h1:PG X e t) (h2:PGs X es u)
 (hs:(assignEach (e::es) X.env).map (·.2)=assign e X.env::(assignEach es X.env).map (·.2):=by rfl):PGs X (e::es) (gCons t u):=by
 intro pins s σ H vs us Q I r h
 obtain⟨v,vr,e1,h⟩:=h
 subst e1
 cases r with
 | cons r rr =>
  rw[hs]
  refine assignInOrder_cons (thn (h1 pins s σ H _ _ _ I r h) fun _ s1 ⟨σ1,H1,I1,q1⟩=>?_)
  exact h2 pins s1 σ1 H1 _ _ Q I1 rr q1
def gTup (K:W.Frag) (n:Nat) (t:TGs):TG:=fun v σ H Q=>∃ a xs,v=.ref a/\SqT K H a xs/\xs.length=n/\t xs σ H Q
theorem x3z {es:List Expr} {k:Nat} {t:TGs} {n:Nat} (hc:X.calm=true) (h:PGs X es t)
 (hn:(assignEach es X.env).length=n:=by rfl) (hst:(assignEach es X.env).findIdx? (·.1)=none:=by rfl):PG X (.Tuple es k pos) (gTup X.K n t):=by
 intro pins s σ H v u Q I r hw
 obtain⟨a,xs,e1,hq,hl,hw⟩:=hw
 subst e1
 cases r
 obtain⟨its,rv,ht,hz⟩:=I.tuple hq
 refine assign_Tuple_tuple (I.ok.hd hc) ht (by simp[hn,←hl,rv.length]) hst fun h' hx=>?_
 have I1:Inv X pins σ H { s with heap:=h' }:=I.kept (t':=s.toks) fun b o e=>hx b o (Nat.ne_of_lt (Heap.lt_size e)) e
 exact h pins _ σ H xs _ Q I1 (by simpa using rv) hw
def tAsg (te:TE) (g:TG):TS:=fun D σ H=>te σ H fun x H1=>g x σ H1 D.nx
theorem x3w {tg e:Expr} {te:TE} {g:TG} (he:PE X e te) (hg:PG X tg g) (hs:swapsWithSole [tg] e pos.line X.env=pure false:=by rfl) (hw:swappedStores [tg] e X.env=pure none:=by rfl)
 (h1:(assignEach [tg] X.env).map (·.2)=[assign tg X.env]:=by rfl):PS X (.Assign [tg] e pos) (tAsg te g):=by
 intro pins s σ H D I h
 refine wpAny_Assign_stores (thn (he pins s σ H _ I h) fun v s1 ⟨x,H1,I1,r1,q1⟩=>?_) hs hw
 rw[h1]
 exact thn (hg pins s1 σ H1 x v _ I1 r1 q1) fun _ s2 q=>q
theorem z0n {i:Nat} {x:Str} {e:Expr} {te:TE} {pos':Pos} (hN:X.N.Nodup) (hi:X.N[i]?=some x) (hx:Loc X.env.scope x) (he:PE X e te) (hs:swapsWith e (some (.Name x pos')) pos.line X.env=pure false:=by rfl) (hf:X.fn x=true∨X.env.scope.names.lookup x=some .local:=by first | exact .inl rfl | exact .inr rfl | assumption) :
 PS X (.Assign [.Name x pos'] e pos) (tAsg te (gName i)):=by
 intro pins s σ H D I h
 refine wpAny_Assign_Name (thn (he pins s σ H _ I h) fun v s1 ⟨y,H1,I1,r1,q1⟩=>?_) hs
 exact y0m I1 hN hi hx r1 (fun s2 I2=>⟨_,H1,I2,q1⟩) hf
def tAug (i:Nat) (te:TE) (ti:TIp):TS:=fun D σ H=>∃ x,σ[i]?=some (some x)/\te σ H fun y H1=>ti x y H1 fun z H2=>D.nx (σ.set i (some z)) H2
theorem w1n {i:Nat} {x:Str} {e:Expr} {te:TE} {op:Operator} {ti:TIp} {pos':Pos} (hN:X.N.Nodup) (hi:X.N[i]?=some x) (hx:Loc X.env.scope x) (he:PE X e te) (ho:PIp X op ti) (hf:X.fn x=true∨X.env.scope.names.lookup x=some .local:=by first | exact .inl rfl | exact .inr rfl | assumption) :
 PS X (.AugAssign (.Name x pos') op e pos) (tAug i te ti):=by
 intro pins s σ H D I h
 obtain⟨v,e1,h⟩:=h
 obtain⟨m,hn,hl⟩:=I.loc
 have vis:Vis X.env.scope x:=by rcases hx with k | k;exact .inl k;exact .inr (.inl k)
 obtain⟨u,r,l⟩:=hl i x v hi e1 vis
 refine wpAny_AugAssign_Name ?_
 have go:wpAny (model X.prog X.w) X.A (eval e X.env) (fun w s₂=>wpAny (model X.prog X.w) X.A (inplaceOp op u w) (fun r s₃=>wpAny (model X.prog X.w) X.A (storeName X.env x r) (fun _=>SP X pins D .next) X.xe s₃) X.xe s₂) X.xe s:=by
  refine thn (he pins s σ H _ I h) fun w s1 ⟨y,H1,I1,r1,q1⟩=>?_
  refine thn (ho pins s1 σ H1 v y u w _ I1 r r1 q1) fun z s2 ⟨zv,H2,I2,r2,q2⟩=>?_
  exact y0m I2 hN hi hx r2 (fun s3 I3=>⟨_,H2,I3,q2⟩) hf
 rcases l with ⟨hk,hm⟩ | ⟨hk,c,hc,hcell⟩
 ·exact wpAny_loadName_local I.ok.kind hk hn hm go
 ·rcases hk with hk | hk
  ·exact wpAny_loadName_cell I.ok.kind hk hc hcell go
  ·rcases hx with k | k
   ·have:X.env.scope.names.lookup x=some .free:=hk
    rw[k]at this;cases this
   ·have:X.env.scope.names.lookup x=some .free:=hk
    rw[k]at this;cases this
def tAugS (to ti te:TE) (tget:V->V->Hp->VK->Prop) (tip:TIp) (tset:TSet):TS:=fun D σ H=>to σ H fun o H1=>ti σ H1 fun i H2=>tget o i H2 fun x H3=>te σ H3 fun y H4=>tip x y H4 fun z H5=>tset o i z H5 fun H6=>D.nx σ H6
def PGet (X:Cx) (t:V->V->Hp->VK->Prop):Prop :=
 ∀ (pins:List (Addr × Obj)) (s:Shared) (σ:St) (H:Hp) (o i:V) (ov iv:Value) (Q:VK),Inv X pins σ H s->RelV o ov->RelV i iv->t o i H Q ->
  wpAny (model X.prog X.w) X.A (getItem ov iv) (EP X pins σ Q) X.xe s
theorem x3v {o i e:Expr} {to ti te:TE} {tget:V->V->Hp->VK->Prop} {tip:TIp} {tset:TSet} {op:Operator} {tpos:Pos} (ho:PE X o to) (hi:PE X i ti) (hg:PGet X tget) (he:PE X e te) (hp:PIp X op tip) (hs:PSet X tset)
 (ha:∀ ov iv new,augStore i ov iv new=(do holding [new,ov,iv] (setItem ov iv new);release [new,ov,iv] [];pure .next):=by intros;rfl):PS X (.AugAssign (.Subscript o i tpos) op e pos) (tAugS to ti te tget tip tset):=by
 intro pins s σ H D I h
 refine wpAny_AugAssign_SubscriptAny (thn (ho pins s σ H _ I h) fun ov s1 ⟨x1,H1,I1,r1,q1⟩=>?_) ha
 refine thn (hi pins s1 σ H1 _ I1 q1) fun iv s2 ⟨x2,H2,I2,r2,q2⟩=>?_
 refine thn (hg pins s2 σ H2 x1 x2 ov iv _ I2 r1 r2 q2) fun old s3 ⟨x3,H3,I3,r3,q3⟩=>?_
 refine thn (he pins s3 σ H3 _ I3 q3) fun v s4 ⟨x4,H4,I4,r4,q4⟩=>?_
 refine thn (hp pins s4 σ H4 x3 x4 old v _ I4 r3 r4 q4) fun new s5 ⟨x5,H5,I5,r5,q5⟩=>?_
 exact thn (hs pins s5 σ H5 x1 x2 x5 ov iv new _ I5 r1 r2 r5 q5) fun _ s6 ⟨H6,I6,q6⟩=>⟨σ,H6,I6,q6⟩
def ipI (f:Int->Int->Int):TIp:=fun x y H Q=>∃ i j,x=.int i/\y=.int j/\Q (.int (f i j)) H
theorem x9c:PIp X .Add (ipI fun i j=>i+j):=by
 intro pins s σ H x y v u Q I r1 r2 h
 obtain⟨i,j,e1,e2,q⟩:=h
 subst e1;subst e2
 obtain⟨t,rfl⟩:=r1
 obtain⟨t',rfl⟩:=r2
 exact iadd_int ⟨.int _,H,I.tok _,⟨_,rfl⟩,q⟩
theorem w2g:PIp X .Sub (ipI fun i j=>i - j):=by
 intro pins s σ H x y v u Q I r1 r2 h
 obtain⟨i,j,e1,e2,q⟩:=h
 subst e1;subst e2
 obtain⟨t,rfl⟩:=r1
 obtain⟨t',rfl⟩:=r2
 exact isub_int ⟨.int _,H,I.tok _,⟨_,rfl⟩,q⟩
end
section
variable {X:Cx} {pos:Pos}
def x8u (c:TT) (tb:TS):TS:=fun D σ H=>∃ W:Nat->St->Hp->Prop,(∃ m,W m σ H)/\∀ m σ H,W m σ H ->
 c σ H fun b H1=>if b=true then ∃ N:St->Hp->Prop,(∀ σ' H',N σ' H'->∃ m',m' < m/\W m' σ' H')/\tb { D with nx:=N,ct:=N,bk:=D.nx } σ H1 else D.nx σ H1
theorem z5z {c:Expr} {body:List Stmt} {tc:TT} {tb:TS} (hp:PassesOwn (model X.prog X.w) X.A X.env X.xe) (hc:PT X c tc) (hb:PSs X body tb):PS X (.While c body [] pos) (x8u tc tb):=by
 intro pins s σ H D I h
 obtain⟨W,⟨m0,w0⟩,turn⟩:=h
 refine wpAny_While (codeAny_whileLoop (fun n s'=>∃ σ' H',Inv X pins σ' H' s'/\W n σ' H') ?_ m0 ⟨σ,H,I,w0⟩)
 rintro n s1 ⟨σ1,H1,I1,w1⟩
 refine wpAny_passesOwn hp (thn (hc pins s1 σ1 H1 _ I1 (turn n σ1 H1 w1)) fun b s2 ⟨H2,I2,q2⟩=>?_)
 cases b with
 | true =>
  obtain⟨N,hN,q2⟩:=q2
  rw[if_pos rfl]
  refine wpAny_passesOwn hp (thn (hb pins s2 σ1 H2 _ I2 q2) fun f s3 q3=>?_)
  cases f with
  | next =>
   obtain⟨σ3,H3,I3,n3⟩:=q3
   obtain⟨m',hm,w3⟩:=hN σ3 H3 n3
   exact⟨m',hm,σ3,H3,I3,w3⟩
  | cont =>
   obtain⟨σ3,H3,I3,n3⟩:=q3
   obtain⟨m',hm,w3⟩:=hN σ3 H3 n3
   exact⟨m',hm,σ3,H3,I3,w3⟩
  | brk=>exact q3
  | ret v=>exact q3
 | false =>
  rw[if_neg Bool.false_ne_true]
  exact wpAny_execs_nil ⟨σ1,H2,I2,q2⟩
end
structure It where
 go:Nat->Hp->Prop
 yld:Nat->Hp->V->Hp->Prop
 stop:Nat->Hp->Prop
def FpOk (X:Cx) (pins:List (Addr × Obj)) (H:Hp) (b:Addr):Prop :=
 H b=none/\b≠X.env.locals/\b ∉ X.fs/\(b∈X.ex∨X.s₀.heap.objs.size<=b)/\(∀ x c,X.env.cells.lookup x=some c->c≠b)/\∀ p∈X.pn++pins,p.1≠b
theorem Inv.fpOk {X:Cx} {pins:List (Addr × Obj)} {σ:St} {H H':Hp} {s:Shared} {b:Addr} (I:Inv X pins σ H s) (hb:s.heap.objs.size<=b) (hn:H' b=none):FpOk X pins H' b:=by
 refine⟨hn,Nat.ne_of_gt (Nat.lt_of_lt_of_le I.lt hb),I.nofs hb,.inr (Nat.le_trans I.sz hb),fun x c e z=>?_,fun p hp z=>?_⟩
 ·obtain⟨v,q⟩:=I.cell x c e
  exact absurd (Nat.lt_of_lt_of_le q.lt (by rw[z];exact hb)) (Nat.lt_irrefl _)
 ·exact absurd (Nat.lt_of_lt_of_le (Heap.lt_size (I.pin p hp).1) (by rw[z];exact hb)) (Nat.lt_irrefl _)
structure Turn (P:Program) (w:World) (K:W.Frag) (tg:Expr) (J:It) (fp:List Addr) (it:Addr) (tn:Nat->Heap->Prop):Prop where
 mem:it∈fp
 obj:∀ i h,tn i h->∀ b∈fp,∃ o,h.get? b=some o/\∀ v,o.data≠.cell v
 keep:∀ i h h',tn i h->(∀ b∈fp,∀ o,h.get? b=some o->h'.get? b=some o)->tn i h'
 item:∀ (X:Cx),X.prog=P->X.w=w->X.K=K->X.calm=true->∀ (i:Nat) (pins:List (Addr × Obj)) (s:Shared) (σ:St) (H:Hp) (E:Value->Shared->Prop),Inv X pins σ H s->(∀ b∈fp,FpOk X pins H b)->tn i s.heap->J.go i H ->
  wpAny (model P w) X.A (pyNext (.ref it)) (fun r s1=>∃ u,r=some u /\
   wpAny (model P w) X.A (letOwnedTupleGo tg (.ref it) u) (fun _ s2=>∃ x H',Inv X pins σ H' s2/\RelV x u/\J.yld i H x H'/\tn (i+1) s2.heap/\∀ b∈fp,H' b=none) E s1) E s
 done:∀ (X:Cx),X.prog=P->X.w=w->X.K=K->X.calm=true->∀ (i:Nat) (pins:List (Addr × Obj)) (s:Shared) (σ:St) (H:Hp) (E:Value->Shared->Prop),Inv X pins σ H s->(∀ b∈fp,FpOk X pins H b)->tn i s.heap->J.stop i H ->
  wpAny (model P w) X.A (pyNext (.ref it)) (fun r s1=>r=none/\Inv X pins σ H s1) E s
 self:∀ (A:Around) (i:Nat) (s:Shared) (Q:Value->Shared->Prop) (E:Value->Shared->Prop),tn i s.heap->Q (.ref it) s->wpAny (model P w) A (pyIter (.ref it)) Q E s
abbrev TI:=St->Hp->(It->Hp->Prop)->Prop
def PIE (X:Cx) (pins:List (Addr × Obj)) (σ:St) (tg:Expr) (R:It->Hp->Prop) (itv:Value) (s2:Shared):Prop :=
 ∃ (it:Addr) (fp:List Addr) (tn:Nat->Heap->Prop) (J:It) (H':Hp),itv=.ref it/\Inv X pins σ H' s2/\Turn X.prog X.w X.K tg J fp it tn/\tn 0 s2.heap/\(∀ b∈fp,FpOk X pins H' b)/\R J H'
def PI (X:Cx) (tg iter:Expr) (wi:TI):Prop :=
 ∀ (pins:List (Addr × Obj)) (s:Shared) (σ:St) (H:Hp) (R:It->Hp->Prop),Inv X pins σ H s->wi σ H R ->
  wpAny (model X.prog X.w) X.A (eval iter X.env) (fun v s1=>wpAny (model X.prog X.w) X.A (pyIter v) (PIE X pins σ tg R) X.xe s1) X.xe s
theorem go_of {M:Model} {A:Around} {E:Value->Shared->Prop} {s:Shared} {tg:Expr} {it:Addr} {u:Value} {o:Obj} {n:String} {vs:Array Value} {Q:Unit->Shared->Prop} (ho:s.heap.get? it=some o) (hc:o.cls=.type n) (hd:o.data=.fields vs)
 (hn:["enumerate","zip","dict_itemiterator","dict_reverseitemiterator","odict_iterator","itertools.zip_longest","itertools.pairwise"].contains n=false) (hQ:Q () s):wpAny M A (letOwnedTupleGo tg (.ref it) u) Q E s:=by
 unfold letOwnedTupleGo
 cases tg<;>first
  | exact wpAny_pure hQ
  | (cases u<;>first
   | exact wpAny_pure hQ
   | (refine wpAny_bind (wpAny_load ho ?_)
      rw[hc,hd]
      show wpAny M A (if (["enumerate","zip","dict_itemiterator","dict_reverseitemiterator","odict_iterator","itertools.zip_longest","itertools.pairwise"].contains n && vs[0]? == some (rawInt _))=true then _ else _) Q E s
      rw[if_neg (by intro h;rw[hn,Bool.false_and]at h;cases h)]
      exact wpAny_pure hQ))
def Itl (K:W.Frag) (a:Addr):It :=
 ⟨fun i H=>∃ xs x,SqL K H a xs/\xs[i]?=some x,fun i H x H'=>H'=H/\∀ xs,SqL K H a xs->xs[i]?=some x,fun i H=>∃ xs,SqL K H a xs/\xs.length<=i⟩
def Itr (lo:Int) (n:Nat):It:=⟨fun i _=>i < n,fun i H x H'=>H'=H/\x=.int (lo+i),fun i _=>n<=i⟩
theorem x2v {P:Program} {w:World} {K:W.Frag} {tg:Expr} (a it:Addr):Turn P w K tg (Itl K a) [it] it (fun i h=>h.IsListIter it a i) where
 mem:=by simp
 obj:=fun i h st b hb=>by
  have e:b=it:=by simpa using hb
  subst e
  obtain⟨o,e,c,d⟩:=st
  exact⟨o,e,fun v z=>by rw[d]at z;cases z⟩
 keep:=fun i h h' st k=>st.at fun o e=>k it (by simp) o e
 item:=by
  intro X hP hw hK hc i pins s σ H E I hf st hg
  subst hP hw hK
  obtain⟨xs,x,hq,hx⟩:=hg
  obtain⟨its,rv,p,hz⟩:=I.list hq
  obtain⟨u,hu,ru⟩:=rv.get hx
  obtain⟨f0,f1,f2,f3,f4,f5⟩:=hf it (by simp)
  refine wpAny_pyNext_list_item st p.isList (x:=u) (by simpa using hu) fun h' st' sb=>?_
  have I1:Inv X pins σ H { s with heap:=h' }:=I.turned (t':=s.toks) (fun b o hb e=>(sb.2 b hb).trans e) f0 f1 f3 f4 f5
  obtain⟨o,e,c,d⟩:=id st'
  exact⟨u,rfl,go_of (s:={ s with heap:=h' }) e c d (by decide) ⟨x,H,I1,ru,⟨rfl,fun ys hy=>by rw[I.list_inj hy hq];exact hx⟩,st',fun b hb=>(hf b hb).1⟩⟩
 done:=by
  intro X hP hw hK hc i pins s σ H E I hf st hg
  subst hP hw hK
  obtain⟨xs,hq,hx⟩:=hg
  obtain⟨its,rv,p,hz⟩:=I.list hq
  obtain⟨f0,f1,f2,f3,f4,f5⟩:=hf it (by simp)
  have hl:=rv.length
  exact wpAny_pyNext_list_end (I.ok.hd hc) st p.isList (by simp;omega) fun h' eb=>⟨rfl,I.turned (t':=s.toks) (fun b o hb e=>eb b o hb e) f0 f1 f3 f4 f5⟩
 self:=fun _ _ _ _ _ st h=>wpAny_pyIter_listiter st h
theorem x1d {P:Program} {w:World} {K:W.Frag} {tg:Expr} (it:Addr) (lo:Int) (n:Nat):Turn P w K tg (Itr lo n) [it] it (fun i h=>IsRangeIter h it (lo+(i:Nat) * 1) ((n:Int) - (i:Nat)) 1) where
 mem:=by simp
 obj:=fun i h st b hb=>by
  have e:b=it:=by simpa using hb
  subst e
  exact⟨_,st,fun v z=>by
   have z':Data.fields _=Data.cell v:=z
   cases z'⟩
 keep:=fun i h h' st k=>k it (by simp) _ st
 item:=by
  intro X hP hw hK hc i pins s σ H E I hf st hg
  subst hP hw hK
  obtain⟨f0,f1,f2,f3,f4,f5⟩:=hf it (by simp)
  have W:=Walks.range (prog:=X.prog) (w:=X.w) (I.ok.hd hc) it lo 1 n
  refine W.item i s _ _ hg st fun v h' tk hv st' kk=>?_
  obtain⟨t,rfl⟩:=hv
  have I1:Inv X pins σ H { s with heap:=h',toks:=tk }:=I.turned (fun b o hb e=>kk b o (by simpa using hb) e) f0 f1 f3 f4 f5
  refine⟨_,rfl,go_of (s:={ s with heap:=h',toks:=tk }) (n:="range_iterator") st' rfl rfl (by decide) ⟨.int (lo+i),H,I1,⟨t,?_⟩,⟨rfl,rfl⟩,st',fun b hb=>(hf b hb).1⟩⟩
  rw[Int.mul_one]
 done:=by
  intro X hP hw hK hc i pins s σ H E I hf st hg
  subst hP hw hK
  obtain⟨f0,f1,f2,f3,f4,f5⟩:=hf it (by simp)
  exact wpAny_pyNext_range_end (I.ok.hd hc) st (by have:n<=i:=hg;omega) fun h' eb=>⟨rfl,I.turned (t':=s.toks) (fun b o hb e=>eb b o hb e) f0 f1 f3 f4 f5⟩
 self:=fun _ _ _ _ _ st h=>wpAny_pyIter_rangeiter st h
end L2
namespace L2
open PySem PySem.Spec PyProof.Rows
section
variable {X:Cx} {tg:Expr}
def iList (K:W.Frag) (tl:TE):TI:=fun σ H R=>tl σ H fun x H1=>∃ a,x=.ref a/\(∃ xs,SqL K H1 a xs)/\R (Itl K a) H1
theorem z1u {l:Expr} {tl:TE} (hl:PE X l tl):PI X tg l (iList X.K tl):=by
 intro pins s σ H R I h
 refine thn (hl pins s σ H _ I h) fun v s1 ⟨x,H1,I1,r1,q1⟩=>?_
 obtain⟨a,e,⟨xs,hq⟩,q⟩:=q1
 subst e
 cases r1
 obtain⟨its,rv,p,hz⟩:=I1.list hq
 refine wpAny_pyIter_list p.isList ?_
 refine⟨s1.heap.objs.size,[s1.heap.objs.size],_,_,H1,rfl,I1.kept (t':=s1.toks) fun b o e=>Heap.get?_push_of_some _ e,x2v a _,⟨_,Heap.get?_push_size _ rfl,rfl,rfl⟩,fun b hb=>?_,q⟩
 have e:b=s1.heap.objs.size:=by simpa using hb
 subst e
 exact I1.fpOk (Nat.le_refl _) (I1.hok.fresh (Nat.le_refl _))
theorem y9x {pins:List (Addr × Obj)} {σ:St} {H:Hp} {s:Shared} {R:It->Hp->Prop} {E:Value->Shared->Prop} {lo hi:Int} {t u v:Tok} {tk:Nat} (I:Inv X pins σ H s) (h1:-(2 ^ 62)<=lo) (h2:lo < 2 ^ 62) (h3:-(2 ^ 62)<=hi) (h4:hi < 2 ^ 62)
 (q:R (Itr lo (hi - lo).toNat) H):wpAny (model X.prog X.w) X.A (pyIter (.ref s.heap.objs.size)) (PIE X pins σ tg R) E { s with heap:=s.heap.push { cls:=.type "range",data:=.fields #[.int lo t,.int hi u,.int 1 v] },toks:=tk }:=by
 refine wpAny_pyIter_range (IsRange.new ..) (small_one h1 h2 h3 h4) ?_
 have I1:Inv X pins σ H { s with heap:=s.heap.push { cls:=.type "range",data:=.fields #[.int lo t,.int hi u,.int 1 v] },toks:=tk }:=I.kept fun b o e=>Heap.get?_push_of_some _ e
 refine⟨(s.heap.push { cls:=.type "range",data:=.fields #[.int lo t,.int hi u,.int 1 v] }).objs.size,[(s.heap.push { cls:=.type "range",data:=.fields #[.int lo t,.int hi u,.int 1 v] }).objs.size],_,_,H,rfl,
  I1.kept (t':=tk) fun b o e=>Heap.get?_push_of_some _ e,x1d _ lo (hi - lo).toNat,?_,fun b hb=>?_,q⟩
 ·have e1:lo+((0:Nat):Int) * 1=lo:=by simp
  have e2:(((hi - lo).toNat:Nat):Int) - ((0:Nat):Int)=Builtin.Range.rangeSize lo hi 1:=by rw[rangeSize_one];split<;>omega
  show IsRangeIter _ _ (lo+((0:Nat):Int) * 1) ((((hi - lo).toNat:Nat):Int) - ((0:Nat):Int)) 1
  rw[e1,e2]
  exact Heap.get?_push_size _ rfl
 ·have e:b=(s.heap.push { cls:=.type "range",data:=.fields #[.int lo t,.int hi u,.int 1 v] }).objs.size:=by simpa using hb
  subst e
  exact I1.fpOk (Nat.le_refl _) (I1.hok.fresh (Nat.le_refl _))
def iRng1 (ta:TA):TI:=fun σ H R=>ta σ H fun vs H1=>∃ j:Int,vs=[.int j]/\-(2 ^ 62)<=j/\j < 2 ^ 62/\R (Itr 0 j.toNat) H1
def iRng2 (ta:TA):TI:=fun σ H R=>ta σ H fun vs H1=>∃ i j:Int,vs=[.int i,.int j]/\(-(2 ^ 62)<=i/\i < 2 ^ 62/\-(2 ^ 62)<=j/\j < 2 ^ 62)/\R (Itr i (j - i).toNat) H1
theorem y5y {a:Expr} {ta:TA} {p pos:Pos} (hg:Gl X "range") (hm:X.mg "range" = none) (ha:PA X [a] ta) (hs:starEach [a] X.env=[(false,eval a X.env)]:=by rfl):PI X tg (.Call (.Name "range" p) [a] [] pos) (iRng1 ta):=by
 intro pins s σ H R I h
 refine Call_ (z7g I hg hm boot_range (PyProof.Rows.callWith_type1 (thn (ha pos pins s σ H _ I h) fun us s1 ⟨vs,H1,I1,r1,q1⟩=>?_) hs rfl))
 obtain⟨j,e,q1,q2,q⟩:=q1
 subst e
 cases r1 with
 | cons r rr =>
  cases rr
  obtain⟨t,rfl⟩:=r
  exact call_range_1 (y9x I1 (by omega) (by omega) q1 q2 (by simpa using q))
theorem y1l {a b:Expr} {ta:TA} {p pos:Pos} (hg:Gl X "range") (hm:X.mg "range" = none) (ha:PA X [a,b] ta) (hs:starEach [a,b] X.env=[(false,eval a X.env),(false,eval b X.env)]:=by rfl) (hs2:starEach [b] X.env=[(false,eval b X.env)]:=by rfl) :
 PI X tg (.Call (.Name "range" p) [a,b] [] pos) (iRng2 ta):=by
 intro pins s σ H R I h
 refine Call_ (z7g I hg hm boot_range (PyProof.Rows.callWith_type1 (thn (ha pos pins s σ H _ I h) fun us s1 ⟨vs,H1,I1,r1,q1⟩=>?_) (by rw[hs,hs2]) (by rw[hs2];rfl)))
 obtain⟨i,j,e,⟨q1,q2,q3,q4⟩,q⟩:=q1
 subst e
 cases r1 with
 | cons r rr =>
  cases rr with
  | cons r' rr =>
   cases rr
   obtain⟨t,rfl⟩:=r
   obtain⟨t',rfl⟩:=r'
   exact call_range_2 (y9x I1 q1 q2 q3 q4 q)
def tFor (wi:TI) (g:TG) (tb:TS):TS:=fun D σ H=>wi σ H fun J H1=>∃ W:Nat->Nat->St->Hp->Prop,(∃ m,W 0 m σ H1)/\∀ i m σ H,W i m σ H ->
 (J.stop i H/\D.nx σ H)∨(J.go i H/\∃ N:St->Hp->Prop,(∀ σ' H',N σ' H'->∃ m',m' < m/\W (i+1) m' σ' H')/\∀ x H',J.yld i H x H'->g x σ H' fun σ2 H2=>tb { D with nx:=N,ct:=N,bk:=D.nx } σ2 H2)
def y5w (fp:List Addr) (h:Heap):List (Addr × Obj):=fp.filterMap fun b=>(h.get? b).map fun o=>(b,o)
theorem z7p {fp:List Addr} {h:Heap} {b:Addr} {o:Obj} (hb:b∈fp) (e:h.get? b=some o):(b,o)∈y5w fp h:=List.mem_filterMap.mpr ⟨b,hb,by rw[e];rfl⟩
theorem x4o {fp:List Addr} {h:Heap} {p:Addr × Obj} (hp:p∈y5w fp h):p.1∈fp/\h.get? p.1=some p.2:=by
 obtain⟨b,hb,e⟩:=List.mem_filterMap.mp hp
 cases q:h.get? b with
 | none=>rw[q]at e;cases e
 | some o =>
  rw[q]at e
  have e':(b,o)=p:=Option.some.inj e
  subst e'
  exact⟨hb,q⟩
theorem Inv.pinned {pins:List (Addr × Obj)} {σ:St} {H:Hp} {s:Shared} {fp:List Addr} (I:Inv X pins σ H s) (hf:∀ b∈fp,FpOk X pins H b) (ho:∀ b∈fp,∃ o,s.heap.get? b=some o/\∀ v,o.data≠.cell v):Inv X (pins++y5w fp s.heap) σ H s :=
 I.pins_of fun p hp=>(List.mem_append.mp hp).elim (fun z=>I.pin p (List.mem_append_right _ z)) fun z=>by
  obtain⟨hb,e⟩:=x4o z
  obtain⟨f0,f1,f2,_⟩:=hf p.1 hb
  obtain⟨o,e',d⟩:=ho p.1 hb
  rw[e]at e';cases e'
  exact⟨e,f0,f1,f2,d⟩
theorem Inv.unpinned {pins pl:List (Addr × Obj)} {σ:St} {H:Hp} {s:Shared} (I:Inv X (pins++pl) σ H s):Inv X pins σ H s:=I.pins_of fun p hp=>I.pin p (List.mem_append_right _ (List.mem_append_left _ hp))
theorem z4c {iter:Expr} {body:List Stmt} {wi:TI} {g:TG} {tb:TS} {pos:Pos} (hp:PassesOwn (model X.prog X.w) X.A X.env X.xe) (hc:X.calm=true) (hi:PI X tg iter wi) (hg:PG X tg g) (hb:PSs X body tb)
 (hs:∀ x,foldedSetIterable iter X.env x=pure x:=by intro _;rfl):PS X (.For tg iter body [] pos) (tFor wi g tb):=by
 intro pins s σ H D I h
 refine wpAny_For (thn (hi pins s σ H _ I h) fun v s1 h1=>thn h1 fun itv s2 h2=>?_) hs
 obtain⟨it,fp,tn,J,H2,e,I2,T,st2,f2,W,⟨m0,w0⟩,turn⟩:=h2
 subst e
 have stat:∀ {H':Hp},(∀ b∈fp,H' b=none)->∀ b∈fp,FpOk X pins H' b:=fun hn b hb=>⟨hn b hb,(f2 b hb).2⟩
 refine codeAny_forLoop_any (fun n s'=>∃ i σ' H',Inv X pins σ' H' s'/\tn i s'.heap/\(∀ b∈fp,H' b=none)/\W i n σ' H') ?_ m0 ⟨0,σ,H2,I2,st2,fun b hb=>(f2 b hb).1,w0⟩
 rintro n s3 ⟨i,σ3,H3,I3,st3,fr3,w3⟩
 rcases turn i n σ3 H3 w3 with ⟨stop,qn⟩ | ⟨go,N,hN,step⟩
 ·refine wpAny_passesOwn hp (thn (T.done X rfl rfl rfl hc i pins s3 σ3 H3 X.xe I3 (stat fr3) st3 stop) fun r s4 ⟨hr,I4⟩=>?_)
  subst hr
  exact wpAny_execs_nil ⟨σ3,H3,I4,qn⟩
 ·refine wpAny_passesOwn hp (thn (T.item X rfl rfl rfl hc i pins s3 σ3 H3 X.xe I3 (stat fr3) st3 go) fun r s4 ⟨u,hr,h4⟩=>?_)
  subst hr
  refine wpAny_passesOwn hp (thn h4 fun _ s5 ⟨x,H5,I5,r5,y5,st5,fr5⟩=>?_)
  have I5':=I5.pinned (stat fr5) (T.obj _ _ st5)
  refine wpAny_passesOwn hp (thn (hg _ s5 σ3 H5 x u _ I5' r5 (step x H5 y5)) fun _ s6 ⟨σ6,H6,I6,q6⟩=>?_)
  refine wpAny_passesOwn hp (thn (hb _ s6 σ6 H6 _ I6 q6) fun f s7 q7=>?_)
  have again:∀ {σ7:St} {H7:Hp},Inv X (pins++y5w fp s5.heap) σ7 H7 s7->N σ7 H7->∃ m,m < n/\∃ i σ' H',Inv X pins σ' H' s7/\tn i s7.heap/\(∀ b∈fp,H' b=none)/\W i m σ' H':=fun {σ7 H7} I7 n7=>by
   obtain⟨m',hm,w7⟩:=hN σ7 H7 n7
   refine⟨m',hm,i+1,σ7,H7,I7.unpinned,T.keep _ _ _ st5 fun b hb o e=>(I7.pin (b,o) (List.mem_append_right _ (List.mem_append_right _ (z7p hb e)))).1,fun b hb=>?_,w7⟩
   obtain⟨o,e,d⟩:=T.obj _ _ st5 b hb
   exact (I7.pin (b,o) (List.mem_append_right _ (List.mem_append_right _ (z7p hb e)))).2.1
  cases f with
  | next=>obtain⟨σ7,H7,I7,n7⟩:=q7;exact again I7 n7
  | cont=>obtain⟨σ7,H7,I7,n7⟩:=q7;exact again I7 n7
  | brk=>obtain⟨σ7,H7,I7,q7⟩:=q7;exact⟨σ7,H7,I7.unpinned,q7⟩
  | ret v=>obtain⟨x7,σ7,H7,I7,r7,q7⟩:=q7;exact⟨x7,σ7,H7,I7.unpinned,r7,q7⟩
end
theorem z4o {K:W.Frag} {a:Addr} {xs:List V} {g:TG} {tb:TS} {D:Ends} {σ:St} {H:Hp} (Pv:Nat->St->Hp->Prop) (h0:Pv 0 σ H) (hl:∀ i σ H,i<=xs.length->Pv i σ H->SqL K H a xs)
 (hs:∀ i x σ H,xs[i]?=some x->Pv i σ H->g x σ H fun σ2 H2=>tb { D with nx:=Pv (i+1),ct:=Pv (i+1),bk:=D.nx } σ2 H2) (hd:∀ σ H,Pv xs.length σ H->D.nx σ H) :
 ∃ W:Nat->Nat->St->Hp->Prop,(∃ m,W 0 m σ H)/\∀ i m σ H,W i m σ H ->
  ((Itl K a).stop i H/\D.nx σ H)∨((Itl K a).go i H/\∃ N:St->Hp->Prop,(∀ σ' H',N σ' H'->∃ m',m' < m/\W (i+1) m' σ' H')/\∀ x H',(Itl K a).yld i H x H'->g x σ H' fun σ2 H2=>tb { D with nx:=N,ct:=N,bk:=D.nx } σ2 H2):=by
 refine⟨fun i m σ H=>m=xs.length - i/\i<=xs.length/\Pv i σ H,⟨xs.length,by simp,Nat.zero_le _,h0⟩,?_⟩
 rintro i m σ H ⟨rfl,hi,p⟩
 have q:=hl i σ H hi p
 by_cases hlt:i < xs.length
 ·refine .inr ⟨⟨xs,xs[i],q,by simp[hlt]⟩,Pv (i+1),fun σ' H' p'=>⟨xs.length - (i+1),by omega,rfl,hlt,p'⟩,fun x H' y=>?_⟩
  obtain⟨e,y⟩:=y
  subst e
  exact hs i x σ _ (y xs q) p
 ·have e:i=xs.length:=by omega
  subst e
  exact .inl ⟨⟨xs,q,Nat.le_refl _⟩,hd σ H p⟩
theorem y1z {lo:Int} {n:Nat} {g:TG} {tb:TS} {D:Ends} {σ:St} {H:Hp} (Pv:Nat->St->Hp->Prop) (h0:Pv 0 σ H)
 (hs:∀ i σ H,i < n->Pv i σ H->g (.int (lo+i)) σ H fun σ2 H2=>tb { D with nx:=Pv (i+1),ct:=Pv (i+1),bk:=D.nx } σ2 H2) (hd:∀ σ H,Pv n σ H->D.nx σ H) :
 ∃ W:Nat->Nat->St->Hp->Prop,(∃ m,W 0 m σ H)/\∀ i m σ H,W i m σ H ->
  ((Itr lo n).stop i H/\D.nx σ H)∨((Itr lo n).go i H/\∃ N:St->Hp->Prop,(∀ σ' H',N σ' H'->∃ m',m' < m/\W (i+1) m' σ' H')/\∀ x H',(Itr lo n).yld i H x H'->g x σ H' fun σ2 H2=>tb { D with nx:=N,ct:=N,bk:=D.nx } σ2 H2):=by
 refine⟨fun i m σ H=>m=n - i/\i<=n/\Pv i σ H,⟨n,by simp,Nat.zero_le _,h0⟩,?_⟩
 rintro i m σ H ⟨rfl,hi,p⟩
 by_cases hlt:i < n
 ·refine .inr ⟨hlt,Pv (i+1),fun σ' H' p'=>⟨n - (i+1),by omega,rfl,hlt,p'⟩,fun x H' y=>?_⟩
  obtain⟨e,y⟩:=y
  subst e y
  exact hs i σ _ hlt p
 ·have e:i=n:=by omega
  subst e
  exact .inl ⟨Nat.le_refl _,hd σ H p⟩
end L2
namespace L2
open PySem PySem.Spec PyProof.Rows
abbrev R2:=V->V->Hp->VK->Prop
def OpR (X:Cx) (f:Value->Value->Sem Value) (r:R2):Prop :=
 ∀ (pins:List (Addr × Obj)) (s:Shared) (σ:St) (H:Hp) (x y:V) (v u:Value) (Q:VK),Inv X pins σ H s->RelV x v->RelV y u->r x y H Q ->
  wpAny (model X.prog X.w) X.A (f v u) (EP X pins σ Q) X.xe s
def UnR (X:Cx) (f:Value->Sem Value) (r:V->Hp->VK->Prop):Prop :=
 ∀ (pins:List (Addr × Obj)) (s:Shared) (σ:St) (H:Hp) (x:V) (v:Value) (Q:VK),Inv X pins σ H s->RelV x v->r x H Q ->
  wpAny (model X.prog X.w) X.A (f v) (EP X pins σ Q) X.xe s
def CallR (X:Cx) (f:Value) (r:List V->Hp->VK->Prop):Prop :=
 ∀ (pins:List (Addr × Obj)) (s:Shared) (σ:St) (H:Hp) (xs:List V) (us:List Value) (Q:VK),Inv X pins σ H s->Vals xs us->r xs H Q ->
  wpAny (model X.prog X.w) X.A (call f us) (EP X pins σ Q) X.xe s
def TruR (X:Cx) (r:V->Hp->(Bool->Hp->Prop)->Prop):Prop :=
 ∀ (pins:List (Addr × Obj)) (s:Shared) (σ:St) (H:Hp) (x:V) (v:Value) (Q:Bool->Hp->Prop),Inv X pins σ H s->RelV x v->r x H Q ->
  wpAny (model X.prog X.w) X.A (truthy v) (TP X pins σ Q) X.xe s
def tOp (r:R2) (ta tb:TE):TE:=fun σ H Q=>ta σ H fun x H1=>tb σ H1 fun y H2=>r x y H2 Q
def tUn (r:V->Hp->VK->Prop) (ta:TE):TE:=fun σ H Q=>ta σ H fun x H1=>r x H1 Q
def rI (C:Int->Int->Prop) (g:Int->Int->V):R2:=fun x y H Q=>∃ i j,x=.int i/\y=.int j/\C i j/\Q (g i j) H
def rI0 (g:Int->Int->V):R2:=fun x y H Q=>∃ i j,x=.int i/\y=.int j/\Q (g i j) H
def rU (g:Int->V):V->Hp->VK->Prop:=fun x H Q=>∃ i,x=.int i/\Q (g i) H
section
variable {X:Cx} {a b c:Expr} {ta tb tc:TE} {pos:Pos}
theorem binT (ha:PE X a ta) (hb:PE X b tb) {pins:List (Addr × Obj)} {s:Shared} {σ:St} {H:Hp} {R:V->V->Hp->Prop} (I:Inv X pins σ H s)
 (h:ta σ H fun x H1=>tb σ H1 fun y H2=>R x y H2) {Q:Value->Shared->Prop} {f:Value->Value->Sem Value}
 (hf:∀ v u s2 x y H2,Inv X pins σ H2 s2->RelV x v->RelV y u->R x y H2->wpAny (model X.prog X.w) X.A (f v u) Q X.xe s2) :
 wpAny (model X.prog X.w) X.A (eval a X.env) (fun v s₁=>wpAny (model X.prog X.w) X.A (eval b X.env) (fun u s₂=>wpAny (model X.prog X.w) X.A (f v u) Q X.xe s₂) X.xe s₁) X.xe s:=by
 refine thn (ha pins s σ H _ I h) fun v s1 ⟨x,H1,I1,r1,q1⟩=>?_
 refine thn (hb pins s1 σ H1 _ I1 q1) fun u s2 ⟨y,H2,I2,r2,q2⟩=>?_
 exact hf v u s2 x y H2 I2 r1 r2 q2
theorem pe_op {op:Operator} {r:R2} (ho:OpR X (binaryOp op) r) (ha:PE X a ta) (hb:PE X b tb):PE X (.BinOp a op b pos) (tOp r ta tb):=by
 intro pins s σ H Q I h
 exact wpAny_BinOp (binT ha hb I h fun v u s2 x y H2 I2 rx ry q=>ho pins s2 σ H2 x y v u Q I2 rx ry q)
theorem pe_un {op:UnaryOp} {r:V->Hp->VK->Prop} (ho:UnR X (unaryOp op) r) (ha:PE X a ta):PE X (.UnaryOp op a pos) (tUn r ta):=by
 intro pins s σ H Q I h
 exact UnaryOp_ (thn (ha pins s σ H _ I h) fun v s1 ⟨x,H1,I1,r1,q1⟩=>ho pins s1 σ H1 x v Q I1 r1 q1)
theorem opI {f:Value->Value->Sem Value} {C:Int->Int->Prop} {g:Int->Int->Int}
 (rule:∀ (i j:Int) (t u:Tok) (s:Shared) (Q:Value->Shared->Prop) (E:Value->Shared->Prop),C i j->Q (.int (g i j) s.toks) { s with toks:=s.toks+1 }->wpAny (model X.prog X.w) X.A (f (.int i t) (.int j u)) Q E s) :
 OpR X f (rI C fun i j=>.int (g i j)):=by
 intro pins s σ H x y v u Q I rx ry h
 obtain⟨i,j,rfl,rfl,hc,q⟩:=h
 obtain⟨t,rfl⟩:=rx
 obtain⟨t',rfl⟩:=ry
 exact rule i j t t' s _ _ hc ⟨.int (g i j),H,I.tok _,⟨_,rfl⟩,q⟩
theorem opI0 {f:Value->Value->Sem Value} {g:Int->Int->Int}
 (rule:∀ (i j:Int) (t u:Tok) (s:Shared) (Q:Value->Shared->Prop) (E:Value->Shared->Prop),Q (.int (g i j) s.toks) { s with toks:=s.toks+1 }->wpAny (model X.prog X.w) X.A (f (.int i t) (.int j u)) Q E s) :
 OpR X f (rI0 fun i j=>.int (g i j)):=by
 intro pins s σ H x y v u Q I rx ry h
 obtain⟨i,j,rfl,rfl,q⟩:=h
 obtain⟨t,rfl⟩:=rx
 obtain⟨t',rfl⟩:=ry
 exact rule i j t t' s _ _ ⟨.int (g i j),H,I.tok _,⟨_,rfl⟩,q⟩
theorem opB0 {f:Value->Value->Sem Value} {g:Int->Int->Bool}
 (rule:∀ (i j:Int) (t u:Tok) (s:Shared) (Q:Value->Shared->Prop) (E:Value->Shared->Prop),Q (.bool (g i j)) s->wpAny (model X.prog X.w) X.A (f (.int i t) (.int j u)) Q E s) :
 OpR X f (rI0 fun i j=>.bl (g i j)):=by
 intro pins s σ H x y v u Q I rx ry h
 obtain⟨i,j,rfl,rfl,q⟩:=h
 obtain⟨t,rfl⟩:=rx
 obtain⟨t',rfl⟩:=ry
 exact rule i j t t' s _ _ ⟨.bl (g i j),H,I,rfl,q⟩
def CDiv (i j:Int):Prop:=0 < j/\j < 1073741824
def CMul (i j:Int):Prop:=(-(2 ^ 64) < i/\i < 2 ^ 64)∨(-(2 ^ 64) < j/\j < 2 ^ 64)
theorem CMul.ok {i j:Int} (h:CMul i j):IntMulOk i j:=by
 rcases h with ⟨h1,h2⟩ | ⟨h1,h2⟩
 ·exact .of_left (intBits_le_64 h1 h2)
 ·exact .of_right (intBits_le_64 h1 h2)
theorem z9z:OpR X (binaryOp .Add) (rI0 fun i j=>.int (i+j)):=opI0 fun _ _ _ _ _ _ _ q=>add_int q
theorem y6d:OpR X (binaryOp .Sub) (rI0 fun i j=>.int (i - j)):=opI0 fun _ _ _ _ _ _ _ q=>sub_int q
theorem x8y:OpR X (binaryOp .Mult) (rI CMul fun i j=>.int (i * j)):=opI fun _ _ _ _ _ _ _ hc q=>mul_int q hc.ok
theorem y4j:OpR X (binaryOp .FloorDiv) (rI CDiv fun i j=>.int (i / j)):=opI fun i j _ _ _ _ _ hc q=>by
 have h1:(0:Int) < j:=hc.1
 have h2:j < 1073741824:=hc.2
 exact floordiv_int (by omega) (by rw[Int.fdiv_eq_ediv_of_nonneg i (by omega)];exact q) (.inl (PyProof.noPylong_small (by omega)))
theorem z8s:OpR X (binaryOp .Mod) (rI (fun _ j=>0 < j) fun i j=>.int (i % j)):=opI fun i j _ _ _ _ _ hc q=>by
 have h1:(0:Int) < j:=hc
 exact mod_int' (by omega) (by rw[Int.fmod_eq_emod_of_nonneg i (by omega)];exact q)
theorem unI {f:Value->Sem Value} {g:Int->Int}
 (rule:∀ (i:Int) (t:Tok) (s:Shared) (Q:Value->Shared->Prop) (E:Value->Shared->Prop),Q (.int (g i) s.toks) { s with toks:=s.toks+1 }->wpAny (model X.prog X.w) X.A (f (.int i t)) Q E s) :
 UnR X f (rU fun i=>.int (g i)):=by
 intro pins s σ H x v Q I rx h
 obtain⟨i,rfl,q⟩:=h
 obtain⟨t,rfl⟩:=rx
 exact rule i t s _ _ ⟨.int (g i),H,I.tok _,⟨_,rfl⟩,q⟩
theorem z1c:UnR X (unaryOp .USub) (rU fun i=>.int (-i)):=unI fun _ _ _ _ _ q=>neg_int q
end
def scal:V->V->Bool
 | .non,.non=>true | .non,.int _=>true | .int _,.non=>true | .non,.bl _=>true | .bl _,.non=>true | .non,.str _=>true | .str _,.non=>true
 | .int _,.int _=>true | .bl _,.bl _=>true | .str _,.str _=>true | .byt _,.byt _=>true
 | .int _,.str _=>true | .str _,.int _=>true | .bl _,.str _=>true | .str _,.bl _=>true
 | _,_=>false
def rEq:R2:=fun x y H Q=>scal x y=true/\Q (.bl (decide (x=y))) H
def rNe:R2:=fun x y H Q=>scal x y=true/\Q (.bl (!decide (x=y))) H
theorem x6h {i j:Int}:decide (V.int i=V.int j)=(i == j):=by
 rw[Bool.eq_iff_iff]
 simp
theorem x9i {i j:Bool}:decide (V.bl i=V.bl j)=(i == j):=by
 rw[Bool.eq_iff_iff]
 simp
theorem x6g {i j:Str}:decide (V.str i=V.str j)=(i == j):=by
 rw[Bool.eq_iff_iff]
 simp
theorem x6i {i j:Array UInt8}:decide (V.byt i=V.byt j)=(i.toList == j.toList):=by
 rw[Bool.eq_iff_iff]
 cases i
 cases j
 simp
section
variable {X:Cx} {a b c:Expr} {ta tb tc:TE} {pos:Pos}
theorem z1y {pins:List (Addr × Obj)} {σ:St} {H:Hp} {s:Shared} {Q:VK} {k k':Bool} (I:Inv X pins σ H s) (q:Q (.bl k) H) (e:k=k'):EP X pins σ Q (.bool k') s:=by
 subst e
 exact⟨.bl k,H,I,rfl,q⟩
theorem op_eq:OpR X (compareOp .Eq) rEq:=by
 intro pins s σ H x y v u Q I rx ry h
 obtain⟨hs,q⟩:=h
 cases x with
 | non =>
  cases rx
  cases y with
  | non=>cases ry;exact PySem.EqNone.eq_none_none (z1y I q (by simp))
  | bl j=>cases ry;exact PySem.EqNone.eq_none_bool (z1y I q (by simp))
  | int j=>obtain⟨t',rfl⟩:=ry;exact PySem.EqNone.eq_none_int (z1y I q (by simp))
  | str j=>obtain⟨t',rfl⟩:=ry;exact PySem.EqNone.eq_none_str (z1y I q (by simp))
  | _=>exact absurd (show false=true from hs) Bool.false_ne_true
 | bl i =>
  cases rx
  cases y with
  | non=>cases ry;exact PySem.EqNone.eq_bool_none (z1y I q (by simp))
  | bl j=>cases ry;exact eq_bool (z1y I q x9i)
  | str j=>obtain⟨t',rfl⟩:=ry;exact PySem.EqMixed.eq_bool_str (z1y I q (by simp))
  | _=>exact absurd (show false=true from hs) Bool.false_ne_true
 | int i =>
  obtain⟨t,rfl⟩:=rx
  cases y with
  | non=>cases ry;exact PySem.EqNone.eq_int_none (z1y I q (by simp))
  | int j=>obtain⟨t',rfl⟩:=ry;exact eq_int (z1y I q x6h)
  | str j=>obtain⟨t',rfl⟩:=ry;exact PySem.EqMixed.eq_int_str (z1y I q (by simp))
  | _=>exact absurd (show false=true from hs) Bool.false_ne_true
 | str i =>
  obtain⟨t,rfl⟩:=rx
  cases y with
  | non=>cases ry;exact PySem.EqNone.eq_str_none (z1y I q (by simp))
  | bl j=>cases ry;exact PySem.EqMixed.eq_str_bool (z1y I q (by simp))
  | int j=>obtain⟨t',rfl⟩:=ry;exact PySem.EqMixed.eq_str_int (z1y I q (by simp))
  | str j=>obtain⟨t',rfl⟩:=ry;exact eq_str (z1y I q x6g)
  | _=>exact absurd (show false=true from hs) Bool.false_ne_true
 | byt i =>
  obtain⟨t,rfl⟩:=rx
  cases y with
  | byt j=>obtain⟨t',rfl⟩:=ry;exact PySem.W.eq_bytes (z1y I q x6i)
  | _=>exact absurd (show false=true from hs) Bool.false_ne_true
 | _=>cases y<;>exact absurd (show false=true from hs) Bool.false_ne_true
theorem op_ne:OpR X (compareOp .NotEq) rNe:=by
 intro pins s σ H x y v u Q I rx ry h
 obtain⟨hs,q⟩:=h
 cases x with
 | non =>
  cases rx
  cases y with
  | non=>cases ry;exact PySem.EqNone.ne_none_none (z1y I q (by simp))
  | bl j=>cases ry;exact PySem.EqNone.ne_none_bool (z1y I q (by simp))
  | int j=>obtain⟨t',rfl⟩:=ry;exact PySem.EqNone.ne_none_int (z1y I q (by simp))
  | str j=>obtain⟨t',rfl⟩:=ry;exact PySem.EqNone.ne_none_str (z1y I q (by simp))
  | _=>exact absurd (show false=true from hs) Bool.false_ne_true
 | bl i =>
  cases rx
  cases y with
  | non=>cases ry;exact PySem.EqNone.ne_bool_none (z1y I q (by simp))
  | bl j=>cases ry;exact ne_bool (z1y I q (congrArg not x9i))
  | str j=>obtain⟨t',rfl⟩:=ry;exact PySem.EqMixed.ne_bool_str (z1y I q (by simp))
  | _=>exact absurd (show false=true from hs) Bool.false_ne_true
 | int i =>
  obtain⟨t,rfl⟩:=rx
  cases y with
  | non=>cases ry;exact PySem.EqNone.ne_int_none (z1y I q (by simp))
  | int j=>obtain⟨t',rfl⟩:=ry;exact ne_int (z1y I q (congrArg not x6h))
  | str j=>obtain⟨t',rfl⟩:=ry;exact PySem.EqMixed.ne_int_str (z1y I q (by simp))
  | _=>exact absurd (show false=true from hs) Bool.false_ne_true
 | str i =>
  obtain⟨t,rfl⟩:=rx
  cases y with
  | non=>cases ry;exact PySem.EqNone.ne_str_none (z1y I q (by simp))
  | bl j=>cases ry;exact PySem.EqMixed.ne_str_bool (z1y I q (by simp))
  | int j=>obtain⟨t',rfl⟩:=ry;exact PySem.EqMixed.ne_str_int (z1y I q (by simp))
  | str j=>obtain⟨t',rfl⟩:=ry;exact ne_str (z1y I q (congrArg not x6g))
  | _=>exact absurd (show false=true from hs) Bool.false_ne_true
 | byt i =>
  obtain⟨t,rfl⟩:=rx
  cases y with
  | byt j=>obtain⟨t',rfl⟩:=ry;exact PySem.W.ne_bytes (z1y I q (congrArg not x6i))
  | _=>exact absurd (show false=true from hs) Bool.false_ne_true
 | _=>cases y<;>exact absurd (show false=true from hs) Bool.false_ne_true
theorem op_lt:OpR X (compareOp .Lt) (rI0 fun i j=>.bl (decide (i < j))):=opB0 fun _ _ _ _ _ _ _ q=>lt_int q
theorem op_le:OpR X (compareOp .LtE) (rI0 fun i j=>.bl (decide (i<=j))):=opB0 fun _ _ _ _ _ _ _ q=>le_int q
theorem op_gt:OpR X (compareOp .Gt) (rI0 fun i j=>.bl (decide (j < i))):=opB0 fun _ _ _ _ _ _ _ q=>gt_int q
theorem op_ge:OpR X (compareOp .GtE) (rI0 fun i j=>.bl (decide (j<=i))):=opB0 fun _ _ _ _ _ _ _ q=>ge_int q
theorem x0d:OpR X (compareOp .Is) (fun x y H Q=>y=.non/\Q (.bl (decide (x=.non))) H):=by
 intro pins s σ H x y v u Q I rx ry h
 obtain⟨rfl,q⟩:=h
 cases ry
 refine is_none_gen (z1y I q ?_)
 cases x<;>first
  | (cases rx;rfl)
  | (obtain⟨t,rfl⟩:=rx;rfl)
theorem x4c:OpR X (compareOp .IsNot) (fun x y H Q=>y=.non/\Q (.bl (!decide (x=.non))) H):=by
 intro pins s σ H x y v u Q I rx ry h
 obtain⟨rfl,q⟩:=h
 cases ry
 refine isnot_none_gen (z1y I q ?_)
 cases x<;>first
  | (cases rx;rfl)
  | (obtain⟨t,rfl⟩:=rx;rfl)
theorem z0p (b:Expr) {op:CmpOp} (h:op≠.In:=by decide) (h2:op≠.NotIn:=by decide):behindInMarks op b=false:=by
 have e1:(op == CmpOp.In)=false:=by cases op<;>first | rfl | exact absurd rfl h
 have e2:(op == CmpOp.NotIn)=false:=by cases op<;>first | rfl | exact absurd rfl h2
 cases b<;>simp[behindInMarks,e1,e2]
theorem z6e {op:CmpOp} {r:R2} (ho:OpR X (compareOp op) r) (ha:PE X a ta) (hb:PE X b tb) (hm:behindInMarks op b=false):PE X (.Compare a [op] [b] pos) (tOp r ta tb):=by
 intro pins s σ H Q I h
 exact wpAny_Compare1 (binT ha hb I h fun v u s2 x y H2 I2 rx ry q=>ho pins s2 σ H2 x y v u Q I2 rx ry q) hm
def tTest (t:TE):TT:=fun σ H Q=>t σ H fun x H'=>∃ k,x=.bl k/\Q k H'
theorem z0k {op:CmpOp} {r:R2} (ho:OpR X (compareOp op) r) (ha:PE X a ta) (hb:PE X b tb) (hm:behindInMarks op b=false):PT X (.Compare a [op] [b] pos) (tTest (tOp r ta tb)):=by
 intro pins s σ H Q I h
 refine wpAny_isTrue_Compare1 (thn (ha pins s σ H _ I h) fun v s1 ⟨x,H1,I1,r1,q1⟩=>thn (hb pins s1 σ H1 _ I1 q1) fun u s2 ⟨y,H2,I2,r2,q2⟩ =>
  thn (ho pins s2 σ H2 x y v u _ I2 r1 r2 q2) fun c s3 ⟨z,H3,I3,r3,k,e,q3⟩=>?_) hm
 subst e
 cases r3
 exact wpAny_truthy_bool ⟨H3,I3,q3⟩
def TruV (K:W.Frag) (x:V) (H:Hp) (k:Bool):Prop :=
 match x with
 | .non=>k=false
 | .bl b=>k=b
 | .int i=>k=(i != 0)
 | .str y=>y.length<=sizeLine/\k=((y.length:Int) != 0)
 | .byt y=>y.size<=sizeLine/\k=((y.size:Int) != 0)
 | .ref p=>(∃ xs,SqL K H p xs/\k=!xs.isEmpty)∨(∃ xs,SqT K H p xs/\k=!xs.isEmpty)∨∃ kvs,H p=some (.dK kvs)/\k=!kvs.isEmpty
 | _=>False
theorem x2l {κ:Type} {kvs:List (κ × V)} {vs:List (κ × Value)} (r:KV kvs vs):(!vs.isEmpty)=!kvs.isEmpty:=by
 cases r<;>rfl
theorem y3f {xs:List V} {its:List Value} (r:Vals xs its):(!its.toArray.isEmpty)=!xs.isEmpty:=by
 cases r<;>simp
theorem y1t:(sizeLine:Nat) < 2 ^ 63:=by rw[sizeLine_eq];decide
theorem w1a:TruR X (fun x H Q=>∃ k,TruV X.K x H k/\Q k H):=by
 intro pins s σ H x v Q I rx h
 obtain⟨k,e,q⟩:=h
 have hl:=y1t
 have hs:sizeLine=16777216:=sizeLine_eq
 cases x with
 | non =>
  cases rx
  have e':k=false:=e
  subst e'
  exact truthy_none ⟨H,I,q⟩
 | bl b =>
  cases rx
  have e':k=b:=e
  subst e'
  exact wpAny_truthy_bool ⟨H,I,q⟩
 | int i =>
  obtain⟨t,rfl⟩:=rx
  have e':k=(i != 0):=e
  subst e'
  exact PySem.P.truthy_int ⟨H,I,q⟩
 | str y =>
  obtain⟨t,rfl⟩:=rx
  obtain⟨hy,e'⟩:y.length<=sizeLine/\k=((y.length:Int) != 0):=e
  subst e'
  exact PySem.P.truthy_str (by omega) ⟨H,I.tok _,q⟩
 | byt y =>
  obtain⟨t,rfl⟩:=rx
  obtain⟨hy,e'⟩:y.size<=sizeLine/\k=((y.size:Int) != 0):=e
  subst e'
  exact PySem.W.truthy_bytes (by omega) ⟨H,I.tok _,q⟩
 | ref p =>
  cases rx
  have e':(∃ xs,SqL X.K H p xs/\k=!xs.isEmpty)∨(∃ xs,SqT X.K H p xs/\k=!xs.isEmpty)∨∃ kvs,H p=some (.dK kvs)/\k=!kvs.isEmpty:=e
  rcases e' with ⟨xs,hx,e'⟩ | ⟨xs,hx,e'⟩ | ⟨kvs,hx,e'⟩
  ·subst e'
   obtain⟨its,r,pl,hz⟩:=I.list hx
   have hlen:=r.length
   exact wpAny_truthy_list pl.isList (by simp only[List.size_toArray];omega) ⟨H,I.tok _,by rw[y3f r];exact q⟩
  ·subst e'
   obtain⟨its,r,pl,hz⟩:=I.tuple hx
   have hlen:=r.length
   exact truthy_tuple pl (by simp only[List.size_toArray];omega) ⟨H,I.tok _,by rw[y3f r];exact q⟩
  ·subst e'
   obtain⟨hz,hS,vs,r,m⟩:kvs.length<=sizeLine/\(p == sysModules)=false/\∃ vs,KV kvs vs/\s.heap.DictOf (z1q X.prog X.w) p vs:=I.hok p _ hx
   have hlen:kvs.length=vs.length:=Paired.length r
   exact wpAny_truthy_dict hS m (by omega) ⟨H,I.tok _,by rw[x2l r];exact q⟩
 | _=>exact (show False from e).elim
theorem z5y (ha:PE X a ta) (he:∀ whole,isTrue a X.env whole=(do let v ←whole;standAt a.pos;holding [v] (truthy v))) :
 PT X a (fun σ H Q=>ta σ H fun x H'=>∃ k,TruV X.K x H' k/\Q k H'):=by
 intro pins s σ H Q I h
 exact isTrue_plain (thn (ha pins s σ H _ I h) fun v s1 ⟨x,H1,I1,r1,q1⟩=>w1a pins s1 σ H1 x v Q I1 r1 q1) (he _)
theorem vals1 {x:V} {us:List Value} (r:Vals [x] us):∃ u,us=[u]/\RelV x u:=by
 cases r with
 | cons r1 r2=>cases r2;exact⟨_,rfl,r1⟩
theorem vals2 {x y:V} {us:List Value} (r:Vals [x,y] us):∃ u w',us=[u,w']/\RelV x u/\RelV y w':=by
 cases r with
 | cons r1 r2 =>
  cases r2 with
  | cons r3 r4=>cases r4;exact⟨_,_,rfl,r1,r3⟩
theorem x8m:CallR X (.builtin "abs") (fun xs H Q=>∃ i,xs=[.int i]/\Q (.int (if i < 0 then -i else i)) H):=by
 intro pins s σ H xs us Q I r h
 obtain⟨i,rfl,q⟩:=h
 obtain⟨u,rfl,t,rfl⟩:=vals1 r
 exact call_abs_int fun u tk=>⟨.int (if i < 0 then -i else i),H,I.tok _,⟨_,rfl⟩,q⟩
theorem x6o (hc:X.calm=true):CallR X (.builtin "max") (fun xs H Q=>∃ i j,xs=[.int i,.int j]/\Q (.int (if j > i then j else i)) H):=by
 intro pins s σ H xs us Q I r h
 obtain⟨i,j,rfl,q⟩:=h
 obtain⟨u,w',rfl,⟨t,rfl⟩,⟨t',rfl⟩⟩:=vals2 r
 refine max_two_ints (I.ok.hd hc) fun h' tk k=>⟨_,H,I.kept k,?_,q⟩
 by_cases hj:j > i
 ·rw[if_pos hj,if_pos hj];exact⟨_,rfl⟩
 ·rw[if_neg hj,if_neg hj];exact⟨_,rfl⟩
theorem x6q:CallR X (.type "int") (fun xs H Q=>(∃ i,xs=[.int i]/\Q (.int i) H)∨∃ k,xs=[.bl k]/\Q (.int (if k then 1 else 0)) H):=by
 intro pins s σ H xs us Q I r h
 rcases h with ⟨i,rfl,q⟩ | ⟨k,rfl,q⟩
 ·obtain⟨u,rfl,t,rfl⟩:=vals1 r
  exact call_int_int ⟨.int i,H,I,⟨_,rfl⟩,q⟩
 ·obtain⟨u,rfl,r1⟩:=vals1 r
  cases r1
  exact call_int_bool ⟨.int (if k then 1 else 0),H,I.tok _,⟨_,rfl⟩,q⟩
end
end L2
namespace L2
open PySem PySem.Spec PyProof.Rows
structure ObjM (h:Heap) (x dx C:Addr) (mA:Str->Option Value):Prop where
 obj:h.get? x=some (PySem.W.instObj C dx)
 ns:h.Ns1 dx mA
 ne:dx≠x
theorem x5d {h:Heap} {dx:Addr} {mA:Str->Option Value} (n:h.Ns1 dx mA):∃ od,h.get? dx=some od/\∀ name,PySem.W.lookIn name od=some (mA name):=by
 obtain⟨o,es,ep,ho,hd,hk,_,hm⟩:=n
 refine⟨o,ho,fun name=>?_⟩
 have e:=hm name
 unfold nsFind findBy at e
 rw[←Array.find?_toList]at e
 unfold PySem.W.lookIn
 rw[hd]
 dsimp only
 split
 ·rename_i y q
  rw[q]at e
  exact congrArg some e
 ·rename_i q
  rw[q]at e
  have a:es.toList.any (·.refKey)=false:=by
   rw[List.any_eq_false]
   intro y hy
   obtain⟨z,t,hkey⟩:=hk y (Array.mem_toList_iff.mp hy)
   simp[DictEntry.refKey,hkey]
  have a':¬ es.toList.any (·.refKey)=true:=by rw[a];exact Bool.false_ne_true
  rw[if_neg a']
  exact congrArg some e
theorem ObjM.look {h:Heap} {x dx C:Addr} {mA:Str->Option Value} (I:ObjM h x dx C mA):∃ od,PySem.W.InstAt h x (PySem.W.instObj C dx) C (some od)/\∀ name,PySem.W.lookIn name od=some (mA name) :=
 let ⟨od,ho,hl⟩:=x5d I.ns
 ⟨od,⟨I.obj,rfl,rfl,ho⟩,hl⟩
section
variable {prog:Program} {w:World} {A:Around} {E:Value->Shared->Prop} {s:Shared} {K:W.Frag} {x dx C f:Addr} {mA:Str->Option Value} {name:Str} {v:Value}
theorem w0m {expr:Bool} {Q:Value->Shared->Prop} (X:K.In s.heap) (I:ObjM s.heap x dx C mA) (hg:PySem.W.plainGet K C name=true) (hh:PySem.W.hasDictIn K C=true)
 (ha:PySem.W.findIn K (.ref C) name=some none) (hv:mA name=some v) (hv':PySem.W.handedIn v=true) (h:Q v { s with toks:=s.toks+1 }) :
 wpAny (model prog w) A (getAttr (.ref x) name expr) Q E s:=by
 obtain⟨od,J,hl⟩:=I.look
 exact PySem.W.get_value X J (PySem.W.plainGet_of hg).1 (PySem.W.findObj_own hh ha rfl (by rw[hl,hv])) hv' h
theorem x8b {pl:Sem Bool} {Q:Value × List Value->Shared->Prop} (X:K.In s.heap) (I:ObjM s.heap x dx C mA) (hg:PySem.W.plainGet K C name=true)
 (hf:PySem.W.findIn K (.ref C) name=some (some (.ref f))) (ht:PySem.W.isFn K (.ref f)=true) (hv:mA name=none) (h:Q (.ref f,[.ref x]) s) :
 wpAny (model prog w) A (getMethod (.ref x) name pl) Q E s:=by
 obtain⟨od,J,hl⟩:=I.look
 exact PySem.W.method_fn X J (PySem.W.plainGet_of hg).1 (PySem.W.plainGet_of hg).2 hf (beq_iff_eq.mp ht) (by show (PySem.W.lookIn name od).map (·.isSome)=some false;rw[hl,hv];rfl) h
theorem x9q {ns:List Str} {Q:Unit->Shared->Prop} (X:K.In s.heap) (I:ObjM s.heap x dx C mA)
 (hs:PySem.W.findIn K (.ref C) "__setattr__" = some (some (.builtin "object.__setattr__"))) (hp:PySem.W.plainOver K C=true) (ht:PySem.W.takerIn K C name=some none) (hh:PySem.W.hasDictIn K C=true)
 (hw:PySem.Within mA ns) (hsz:ns.length<=sizeLine)
 (h:∀ h',ObjM h' x dx C (fun y=>if y=name then some v else mA y)->Heap.SameBut dx s.heap h'->Q () { s with heap:=h',toks:=s.toks+2 }) :
 wpAny (model prog w) A (setAttr (.ref x) name v) Q E s:=by
 obtain⟨od,J,hl⟩:=I.look
 refine PySem.W.set_plain X J hs (PySem.W.osa_open (s:={ s with toks:=s.toks+1 }) (r:=none) X J hp ht fun b=>?_)
 obtain⟨cd,hc,hd'⟩:=PySem.W.any_some hh
 have hx:s.heap.get? x=some ⟨.ref C,some dx,.plain,#[]⟩:=I.obj
 refine wpAny_bind (wpAny_pure (wpAny_bind (wpAny_bind (wpAny_loadPart hx (wpAny_bind (PySem.W.Looks.here (s:={ s with toks:=s.toks+1 }) (PySem.W.looks_clsIn X hc) ?_))))))
 rw[hd']
 refine wpAny_pure (a:=some dx) (wpAny_bind (wpAny_pure (wpAny_bind ?_)))
 refine wpAny_nsSet1 (s:={ s with toks:=s.toks+1 }) I.ns fun h' hn2 hs2=>?_
 obtain⟨oD,esD,epD,hoD,hdD,hcD⟩:=hn2.count (PySem.Within.cons name v hw)
 refine wpAny_bind (wpAny_lookBehind hoD (by rw[hdD];exact pastItsLine_dict (Nat.le_trans hcD (by rw[List.length_cons];omega))) ?_)
 exact wpAny_pure (h _ ⟨(hs2.2 _ (Ne.symm I.ne)).trans I.obj,hn2,I.ne⟩ hs2)
theorem x7w {R:Result->Shared->Prop} {vs:List Value} {kw:List (Str × Value)} (X:K.In s.heap) (hm:PySem.W.makesIn K C=true)
 (hi:PySem.W.findIn K (.ref C) "__init__" = some (some (.ref f))) (hf:PySem.W.typeIn K (.ref f)=some (.type "function"))
 (h:codeAny (model prog w) (A.under (.builtin "type.__call__" ⟨.ref C::vs,kw⟩)) (.call (.ref f) ⟨.ref (s.heap.objs.size+1)::vs,kw⟩) (PySem.W.InitBack (s.heap.objs.size+1) R)
  { s with heap:=(s.heap.push PySem.W.emptyDict).push (PySem.W.instObj C s.heap.objs.size) }) :
 codeAny (model prog w) A (.call (.ref C) ⟨vs,kw⟩) R s:=by
 obtain⟨hh,g,d,t,os⟩:=s
 exact PySem.W.make_core (PySem.W.makes_of X hm) (PySem.W.looks_findIn X hi) (fun self=>PySem.W.bind_fn X self hf) (.inl rfl) h
end
def putF (f:Str) (v:V):List (Str × V)->List (Str × V)
 | []=>[(f,v)]
 | (g,x)::r=>if g=f then (g,v)::r else (g,x)::putF f v r
theorem z0j (f g:Str) (v:V):∀ fs:List (Str × V),(putF f v fs).lookup g=if g=f then some v else fs.lookup g
 | []=>by
  show List.lookup g [(f,v)]=_
  by_cases h:g=f
  ·have hb:(g == f)=true:=beq_iff_eq.mpr h
   simp only[List.lookup,hb,if_pos h]
  ·have hb:(g == f)=false:=beq_eq_false_iff_ne.mpr h
   simp only[List.lookup,hb,if_neg h]
 | (k,x)::r=>by
  have ih:=z0j f g v r
  rw[show putF f v ((k,x)::r)=(if k=f then (k,v)::r else (k,x)::putF f v r) from rfl]
  by_cases hk:k=f
  ·rw[if_pos hk]
   by_cases h:g=k
   ·have hb:(g == k)=true:=beq_iff_eq.mpr h
    simp only[List.lookup,hb,if_pos (h.trans hk)]
   ·have hb:(g == k)=false:=beq_eq_false_iff_ne.mpr h
    simp only[List.lookup,hb,if_neg (fun e:g=f=>h (e.trans hk.symm))]
  ·rw[if_neg hk]
   by_cases h:g=k
   ·have hb:(g == k)=true:=beq_iff_eq.mpr h
    simp only[List.lookup,hb,if_neg (fun e:g=f=>hk (h.symm.trans e))]
   ·have hb:(g == k)=false:=beq_eq_false_iff_ne.mpr h
    simp only[List.lookup,hb]
    exact ih
theorem y1u (f:Str) (v:V):∀ fs:List (Str × V),f∈(putF f v fs).map (·.1)/\∀ g,g∈fs.map (·.1)->g∈(putF f v fs).map (·.1)
 | []=>⟨by simp[putF],fun g h=>by simp at h⟩
 | (k,x)::r=>by
  obtain⟨i1,i2⟩:=y1u f v r
  rw[show putF f v ((k,x)::r)=(if k=f then (k,v)::r else (k,x)::putF f v r) from rfl]
  by_cases hk:k=f
  ·rw[if_pos hk]
   subst hk
   exact⟨by simp,fun g h=>by simpa using h⟩
  ·rw[if_neg hk]
   refine⟨?_,fun g h=>?_⟩
   ·rw[List.map_cons]
    exact List.mem_cons_of_mem _ i1
   ·rw[List.map_cons]at h ⊢
    rcases List.mem_cons.mp h with e | e
    ·exact List.mem_cons.mpr (.inl e)
    ·exact List.mem_cons_of_mem _ (i2 g e)
theorem z8h (f:Str) (v:V):∀ fs:List (Str × V),(putF f v fs).length<=fs.length+1
 | []=>by simp[putF]
 | (k,x)::r=>by
  have ih:=z8h f v r
  rw[show putF f v ((k,x)::r)=(if k=f then (k,v)::r else (k,x)::putF f v r) from rfl]
  by_cases hk:k=f
  ·rw[if_pos hk,List.length_cons,List.length_cons];omega
  ·rw[if_neg hk,List.length_cons,List.length_cons];omega
theorem RelO.some_of {v:V} {o:Option Value} (r:RelO (some v) o):∃ u,o=some u/\RelV v u:=by
 cases o with
 | none=>exact (show False from r).elim
 | some u=>exact⟨u,rfl,r⟩
theorem RelO.none_of {o:Option Value} (r:RelO none o):o=none:=by
 cases o with
 | none=>rfl
 | some u=>exact (show False from r).elim
theorem x5q {v:V} {u:Value} (r:RelV v u):PySem.W.handedIn u=true:=by
 cases v with
 | non=>cases (show u=Value.none from r);rfl
 | bl b=>cases (show u=Value.bool b from r);rfl
 | int i=>obtain⟨t,e⟩:=(show ∃ t,u=Value.int i t from r);cases e;rfl
 | str x=>obtain⟨t,e⟩:=(show ∃ t,u=Value.str x t from r);cases e;rfl
 | byt b=>obtain⟨t,e⟩:=(show ∃ t,u=Value.bytes b t from r);cases e;rfl
 | flt b=>obtain⟨t,e⟩:=(show ∃ t,u=Value.float b t from r);cases e;rfl
 | ref a=>cases (show u=Value.ref a from r);rfl
 | ty n=>cases (show u=Value.type n from r);rfl
section
variable {P:Program} {w:World} {H H':Hp} {h h':Heap} {a C dx:Addr} {fs fs':List (Str × V)}
theorem y9b (hok:HOk P w H h) (e:H a=some (.ins C dx fs)):∃ mA,ObjM h a dx C mA/\(∀ f,RelO (fs.lookup f) (mA f))/\PySem.Within mA (fs.map (·.1))/\fs.length<=1000/\H dx=some (.own a):=by
 obtain⟨d,z,ne,ob,mA,n,r,q⟩:=(show ObjOk P w H h a (.ins C dx fs) from hok a _ e)
 exact⟨mA,⟨ob,n,ne⟩,r,q,z,d⟩
end
structure Cls (K:W.Frag) (C:Addr):Prop where
 pg:PySem.W.plainGet K C Str.empty=true
 hd:PySem.W.hasDictIn K C=true
 po:PySem.W.plainOver K C=true
 sa:PySem.W.findIn K (.ref C) "__setattr__" = some (some (.builtin "object.__setattr__"))
theorem Cls.get {K:W.Frag} {C:Addr} (c:Cls K C) (f:Str):PySem.W.plainGet K C f=true:=c.pg
def NoAttr (K:W.Frag) (C:Addr) (f:Str):Prop:=PySem.W.findIn K (.ref C) f=some none
theorem NoAttr.taker {K:W.Frag} {C:Addr} {f:Str} (n:NoAttr K C f):PySem.W.takerIn K C f=some none:=by
 unfold PySem.W.takerIn
 rw[show PySem.W.findIn K (.ref C) f=some none from n]
 rfl
structure Con (K:W.Frag) (C:Addr) (f:Str) (v:V) (u:Value):Prop where
 at_:PySem.W.findIn K (.ref C) f=some (some u)
 rel:RelV v u
 get:PySem.W.specialIn K u "__get__" = some none
 cp:PySem.W.copiedNames.contains f=false
structure Meth (K:W.Frag) (C:Addr) (m:Str) (f:Addr):Prop where
 at_:PySem.W.findIn K (.ref C) m=some (some (.ref f))
 fn:PySem.W.isFn K (.ref f)=true
 kp:PySem.W.keepIn K (.ref f)=true
section
variable {X:Cx} {pins:List (Addr × Obj)} {σ:St} {H:Hp} {s:Shared} {a C dx:Addr} {fs:List (Str × V)} {f:Str} {v:V} {A:Around} {E:Value->Shared->Prop}
theorem x2n {b:Bool} {Q:Value->Shared->Prop} (I:Inv X pins σ H s) (e:H a=some (.ins C dx fs)) (c:Cls X.K C) (n:NoAttr X.K C f) (l:fs.lookup f=some v)
 (h:∀ u s',Inv X pins σ H s'->RelV v u->Q u s'):wpAny (model X.prog X.w) A (getAttr (.ref a) f b) Q E s:=by
 obtain⟨mA,O,r,_,_,_⟩:=y9b I.hok e
 obtain⟨u,hu,ru⟩:=RelO.some_of (v:=v) (o:=mA f) (by rw[←l];exact r f)
 exact w0m I.kIn O (c.get f) c.hd n hu (x5q ru) (h u _ (I.tok _) ru)
theorem y3g {m:Str} {g:Addr} {pl:Sem Bool} {Q:Value × List Value->Shared->Prop} (I:Inv X pins σ H s) (e:H a=some (.ins C dx fs)) (c:Cls X.K C) (k:Meth X.K C m g) (l:fs.lookup m=none)
 (h:Q (.ref g,[.ref a]) s):wpAny (model X.prog X.w) A (getMethod (.ref a) m pl) Q E s:=by
 obtain⟨mA,O,r,_,_,_⟩:=y9b I.hok e
 have hn:mA m=none:=RelO.none_of (by rw[←l];exact r m)
 exact x8b I.kIn O (c.get m) k.at_ k.fn hn h
theorem x1k {y:V} {u:Value} {Q:Unit->Shared->Prop} (I:Inv X pins σ H s) (e:H a=some (.ins C dx fs)) (c:Cls X.K C) (n:NoAttr X.K C f) (hl:fs.length < 1000) (ry:RelV y u)
 (h:∀ s',Inv X pins σ (upd H a (.ins C dx (putF f y fs))) s'->Q () s'):wpAny (model X.prog X.w) A (setAttr (.ref a) f u) Q E s:=by
 obtain⟨mA,O,r,wi,_,ho⟩:=y9b I.hok e
 have hz:(fs.map (·.1)).length<=sizeLine:=by rw[List.length_map,sizeLine_eq];omega
 refine x9q I.kIn O c.sa c.po n.taker c.hd wi hz fun h' O' sb=>h _ ?_
 have hd:∃ o,h'.get? dx=some o:=let ⟨o,_,_,e',_⟩:=O'.ns;⟨o,e'⟩
 refine I.write (x:=a) (e:=dx) (by rw[e];exact True.intro) (.inr ho) (fun b q hb z=>(sb.2 b hb).trans z) hd ?_
 refine⟨by rw[z0g O.ne];exact ho,?_,O.ne,O'.obj,_,O'.ns,fun g=>?_,fun g hg=>?_⟩
 ·have:=z8h f y fs;omega
 ·show RelO ((putF f y fs).lookup g) (if g=f then some u else mA g)
  rw[z0j]
  by_cases q:g=f
  ·rw[if_pos q,if_pos q];exact ry
  ·rw[if_neg q,if_neg q];exact r g
 ·by_cases q:g=f
  ·rw[q];exact (y1u f y fs).1
  ·refine (y1u f y fs).2 g (wi g fun z=>hg ?_)
   show (if g=f then some u else mA g)=none
   rw[if_neg q];exact z
theorem Inv.made (I:Inv X pins σ H s):Inv X pins σ (upd (upd H s.heap.objs.size (.own (s.heap.objs.size+1))) (s.heap.objs.size+1) (.ins C s.heap.objs.size []))
 { s with heap:=(s.heap.push PySem.W.emptyDict).push (PySem.W.instObj C s.heap.objs.size) }:=by
 have e1:(s.heap.push PySem.W.emptyDict).get? s.heap.objs.size=some PySem.W.emptyDict:=Heap.get?_push_size s.heap rfl
 have e2:((s.heap.push PySem.W.emptyDict).push (PySem.W.instObj C s.heap.objs.size)).get? (s.heap.objs.size+1)=some (PySem.W.instObj C s.heap.objs.size):=by
  have:=Heap.get?_push_size (s.heap.push PySem.W.emptyDict) (o:=PySem.W.instObj C s.heap.objs.size) rfl
  rwa [Heap.size_push]at this
 have e3:(s.heap.push PySem.W.emptyDict).Ns s.heap.objs.size (fun _=>none):=⟨PySem.W.emptyDict,#[],_,e1,rfl,(fun e he=>absurd he (by simp)),fun _=>rfl⟩
 have I1:=I.laid (a:=s.heap.objs.size) (o:=.own (s.heap.objs.size+1)) (h':=s.heap.push PySem.W.emptyDict) (t':=s.toks) (fun b u q=>Heap.get?_push_of_some _ q) (Nat.le_refl _) ⟨_,e1⟩
 refine I1.laid (a:=s.heap.objs.size+1) (o:=.ins C s.heap.objs.size []) (t':=s.toks) (fun b u q=>Heap.get?_push_of_some _ q) (Nat.le_of_eq (Heap.size_push _ _)) ?_
 have ne:s.heap.objs.size≠s.heap.objs.size+1:=Nat.ne_of_lt (Nat.lt_succ_self _)
 refine⟨by rw[z0g ne,z0c],Nat.zero_le _,ne,e2,fun _=>none,(Heap.Ns1.of_empty e3).at fun o q=>Heap.get?_push_of_some _ q,fun _=>True.intro,fun y hy=>absurd rfl hy⟩
theorem w0t {prog:Program} {w:World} {env:Env} {e:Expr} {f:Str} {pos:Pos} {s:Shared} {Q:Value->Shared->Prop} (hb:attributeBase e f env (eval e env)=eval e env)
 (h:wpAny (model prog w) A (eval e env) (fun o s₁=>wpAny (model prog w) A (getAttr o f true) Q E s₁) E s):wpAny (model prog w) A (eval (.Attribute e f pos) env) Q E s :=
 Attribute_any_ h (by rw[arm_eval_Attribute,hb])
end
def tFld (K:W.Frag) (ta:TE) (f:Str):TE:=fun σ H Q=>ta σ H fun x H1=>∃ a C dx fs v,x=.ref a/\H1 a=some (.ins C dx fs)/\Cls K C/\NoAttr K C f/\fs.lookup f=some v/\Q v H1
def sFld (K:W.Frag) (ta tv:TE) (f:Str):TS:=fun D σ H=>tv σ H fun y H1=>ta σ H1 fun x H2=>∃ a C dx fs,x=.ref a/\H2 a=some (.ins C dx fs)/\Cls K C/\NoAttr K C f/\fs.length < 1000 /\
 D.nx σ (upd H2 a (.ins C dx (putF f y fs)))
section
variable {X:Cx} {o e value:Expr} {f:Str} {pos pos' tpos:Pos} {ta tv:TE}
theorem z1m (he:PE X e ta) (hb:attributeBase e f X.env (eval e X.env)=eval e X.env):PE X (.Attribute e f pos) (tFld X.K ta f):=by
 intro pins s σ H Q I h
 refine w0t hb (thn (he pins s σ H _ I h) fun u s1 ⟨x,H1,I1,rx,a,C,dx,fs,v,ex,ea,c,n,l,q⟩=>?_)
 subst ex
 obtain rfl:u=Value.ref a:=rx
 exact x2n I1 ea c n l fun u' s2 I2 ru=>⟨v,H1,I2,ru,q⟩
theorem z9y (ha:PE X o ta) (hv:PE X value tv) (hs:swapsWith value (some (.Attribute o f pos')) pos.line X.env=pure false):PS X (.Assign [.Attribute o f pos'] value pos) (sFld X.K ta tv f):=by
 intro pins s σ H D I h
 refine plainObj_wpAny_Assign_Attribute (thn (hv pins s σ H _ I h) fun u s1 ⟨y,H1,I1,ry,q⟩=>thn (ha pins s1 σ H1 _ I1 q) fun ov s2 ⟨x,H2,I2,rx,a,C,dx,fs,ex,ea,c,n,l,q2⟩=>?_) hs
 subst ex
 obtain rfl:ov=Value.ref a:=rx
 exact x1k I2 ea c n l ry fun s3 I3=>⟨σ,_,I3,q2⟩
end
section
variable {X:Cx} {pins:List (Addr × Obj)} {σ:St} {H:Hp} {s:Shared} {A:Around} {E:Value->Shared->Prop} {Q:Value->Shared->Prop} {c:Value} {b:Bool}
inductive TyOf (K:W.Frag) (H:Hp):V->Value->Prop where
 | non:TyOf K H .non (.type "NoneType")
 | bl (x:Bool):TyOf K H (.bl x) (.type "bool")
 | int (i:Int):TyOf K H (.int i) (.type "int")
 | str (x:Str):TyOf K H (.str x) (.type "str")
 | flt (x:UInt64):TyOf K H (.flt x) (.type "float")
 | lst {a:Addr} {xs:List V} (e:H a=some (.lst xs)):TyOf K H (.ref a) (.type "list")
 | frz {a:Addr} {o:Obj} {xs:List V} (e:H a=some (.frz o (.lst xs))):TyOf K H (.ref a) (.type "list")
 | tup {a:Addr} {xs:List V} (e:H a=some (.tup xs)):TyOf K H (.ref a) (.type "tuple")
 | dK {a:Addr} {kvs:List (Key × V)} (e:H a=some (.dK kvs)):TyOf K H (.ref a) (.type "dict")
 | dT {a:Addr} {kvs:List (List Key × V)} (e:H a=some (.dT kvs)):TyOf K H (.ref a) (.type "dict")
 | ins {a C dx:Addr} {fs:List (Str × V)} (e:H a=some (.ins C dx fs)) (cl:Cls K C) (ha:PySem.W.findIn K (.ref C) "__class__" = some (some (.builtin "object.__class__")))
  (hn:PySem.W.specialIn K (.builtin "object.__class__") "__get__" = some (some (.builtin "getset_descriptor.__get__"))) (htk:PySem.W.takesIn K (.builtin "object.__class__")=some true)
  (hm:PySem.W.mroIn K C (.type "object")=some true):TyOf K H (.ref a) (.ref C)
end
end L2
namespace L2
open PySem PySem.Spec PyProof.Rows
structure Room (k:Nat) (A:Around):Prop where
 hd:A.handled=none
 dp:A.depth+3 * k+5 < recursionLimit
 un:A.units+16 * k+200 < cLine
theorem Room.mono {j k:Nat} {A:Around} (r:Room k A) (h:j<=k):Room j A:=⟨r.hd,by have:=r.dp;omega,by have:=r.un;omega⟩
theorem Room.deeper {k:Nat} {A:Around} (r:Room (k+1) A) (env:Env):Room k (A.deeper env) :=
 ⟨r.hd,by have:=r.dp;show A.depth+1+3 * k+5 < _;omega,by have:=r.un;show A.units+3+16 * k+200 < _;omega⟩
theorem Room.in1 {k:Nat} {A:Around} (r:Room (k+1) A):Room k A.in1 :=
 ⟨r.hd,by have:=r.dp;show A.depth+3 * k+5 < _;omega,by have:=r.un;show A.units+1+16 * k+200 < _;omega⟩
theorem x2j {A:Around} {C:Addr} {us:List Value} {kw:List (Str × Value)}:(A.under (.builtin "type.__call__" ⟨.ref C::us,kw⟩)).depth=A.depth+1:=by
 first | rfl | simp[Around.under,Code.weight,Code.isCreation,Code.isGuard,Code.isCaller,Code.frames,Code.isFrame,guardIds]
theorem x2i {A:Around} {C:Addr} {us:List Value} {kw:List (Str × Value)}:(A.under (.builtin "type.__call__" ⟨.ref C::us,kw⟩)).units=A.units+1:=by
 first | rfl | simp[Around.under,Code.cUnits,Code.frames,Code.isFrame]
theorem Room.make {k:Nat} {A:Around} (r:Room (k+1) A) (C:Addr) (us:List Value) (kw:List (Str × Value)):Room k (A.under (.builtin "type.__call__" ⟨.ref C::us,kw⟩)) :=
 ⟨r.hd,by have:=r.dp;rw[x2j];omega,by have:=r.un;rw[x2i];omega⟩
theorem Room.depth {k:Nat} {A:Around} (r:Room k A):A.depth < recursionLimit:=by have:=r.dp;omega
theorem Room.units {k:Nat} {A:Around} (r:Room k A):A.units+64 < cLine:=by have:=r.un;omega
theorem Room.units0 {k:Nat} {A:Around} (r:Room k A):A.units < cLine:=by have:=r.un;omega
def tNil:TA:=fun _ H Q=>Q [] H
def tCons (ta:TE) (tr:TA):TA:=fun σ H Q=>ta σ H fun x H1=>tr σ H1 fun xs H2=>Q (x::xs) H2
section
variable {X:Cx} {e:Expr} {es:List Expr} {te:TE} {t:TA} {pos:Pos}
theorem z0d:PA X [] tNil:=fun _ _ _ _ H Q I h=>Calls.spliced_nil ⟨[],H,I,.nil,h⟩
theorem z0a (ha:PE X e te) (hr:PA X es t) (hs:starEach (e::es) X.env=(false,eval e X.env)::starEach es X.env:=by rfl):PA X (e::es) (tCons te t):=by
 intro pos pins s σ H Q I h
 rw[hs]
 show wpAny _ _ (spliced ((false,eval e X.env)::backTo pos (starEach es X.env))) _ _ s
 refine Calls.spliced_cons (thn (ha pins s σ H _ I h) fun u s1 ⟨x,H1,I1,r1,q1⟩=>?_)
 exact thn (hr pos pins s1 σ H1 _ I1 q1) fun us s2 ⟨xs,H2,I2,r2,q2⟩=>⟨x::xs,H2,I2,.cons r1 r2,q2⟩
def tTup (t:TA):TE:=fun σ H Q=>t σ H fun xs H1=>xs.length<=sizeLine/\∀ p,H1 p=none->Q (.ref p) (upd H1 p (.tup xs))
def tLst (t:TA):TE:=fun σ H Q=>t σ H fun xs H1=>xs.length<=sizeLine/\∀ p,H1 p=none->Q (.ref p) (upd H1 p (.lst xs))
theorem z2m {x1} (h:PA X es t):PE X (.Tuple es x1 pos) (tTup t):=by
 intro pins s σ H Q I hq
 refine wpAny_Tuple_spliced (thn (h pos pins s σ H _ I hq) fun us s1 ⟨xs,H1,I1,r,z,q⟩=>⟨by rw[←r.length];exact z,?_⟩)
 have hf:H1 s1.heap.objs.size=none:=I1.hok.fresh (Nat.le_refl _)
 refine⟨.ref s1.heap.objs.size,upd H1 s1.heap.objs.size (.tup xs),I1.laid (t':=s1.toks) (fun b u e=>Heap.get?_push_of_some _ e) (Nat.le_refl _) ?_,rfl,q _ hf⟩
 exact⟨z,us,r,⟨_,Heap.get?_push_size _ rfl,rfl,_,rfl⟩⟩
theorem z0u (h:PA X es t):PE X (.List es pos) (tLst t):=by
 intro pins s σ H Q I hq
 refine wpAny_List_spliced (thn (h pos pins s σ H _ I hq) fun us s1 ⟨xs,H1,I1,r,z,q⟩=>⟨by rw[←r.length];exact z,?_⟩)
 have hf:H1 s1.heap.objs.size=none:=I1.hok.fresh (Nat.le_refl _)
 refine⟨.ref s1.heap.objs.size,upd H1 s1.heap.objs.size (.lst xs),I1.laid (t':=s1.toks) (fun b u e=>Heap.get?_push_of_some _ e) (Nat.le_refl _) ?_,rfl,q _ hf⟩
 exact⟨z,us,0,r,Heap.get?_push_size _ rfl⟩
end
abbrev Sp:=List V->Hp->VK->XK->Prop
abbrev CXT:=List Env->Hp->Shared->XK->Value->Shared->Prop
structure Env0 (P:Program) (w:World) (K:W.Frag) (mg:Str->Option Value) (base:Heap) (A:Around) (outer:List Env) (s:Shared) (H:Hp):Prop where
 frames:A.frames=some outer
 mod:Mod K mg base
 bs:∀ b o,base.get? b=some o->s.heap.get? b=some o/\H b=none
 bsz:base.objs.size<=s.heap.objs.size
 funs:s.heap.FunFrames base outer
 frf:∀ b∈frs outer,H b=none
 hok:HOk P w H s.heap
 bare:AllBare s.gens
def CE (outer:List Env) (P:Program) (w:World) (H:Hp) (s:Shared) (Q:VK) (u:Value) (s':Shared):Prop :=
 ∃ v H',s'.os=s.os/\AllBare s'.gens/\Un (frs outer) [] H H' s.heap s'.heap/\HOk P w H' s'.heap/\RelV v u/\Q v H'
def CR (CX:CXT) (outer:List Env) (P:Program) (w:World) (H:Hp) (s:Shared) (Q:VK) (E:XK) (r:Result) (s':Shared):Prop :=
 match r with
 | .ok (.ret u)=>CE outer P w H s Q u s'
 | .ok _=>False
 | .error e=>CX outer H s E e s'
structure FnOk (P:Program) (w:World) (K:W.Frag) (mg:Str->Option Value) (base:Heap) (CX:CXT) (k:Nat) (f:Addr) (fd:FuncData) (ps:List Str) (sp:Sp):Prop where
 len:∀ vs H Q E,sp vs H Q E->vs.length=ps.length
 run:∀ (A:Around) (outer:List Env) (s:Shared) (H:Hp) (args:Args) (us:List Value) (vs:List V) (Q:VK) (E:XK),Room k A->Env0 P w K mg base A outer s H->BindsTo s fd args (ps.zip us)->Vals vs us->sp vs H Q E ->
  codeAny (model P w) A (.call (.ref f) args) (CR CX outer P w H s Q E) s
theorem FnOk.mono {P:Program} {w:World} {K:W.Frag} {mg:Str->Option Value} {base:Heap} {CX:CXT} {j k:Nat} {f:Addr} {fd:FuncData} {ps:List Str} {sp:Sp} (F:FnOk P w K mg base CX j f fd ps sp) (h:j<=k) :
 FnOk P w K mg base CX k f fd ps sp:=⟨F.len,fun A outer s H args us vs Q E hr=>F.run A outer s H args us vs Q E (hr.mono h)⟩
theorem FnOk.imp {P:Program} {w:World} {K:W.Frag} {mg:Str->Option Value} {base:Heap} {CX:CXT} {k:Nat} {f:Addr} {fd:FuncData} {ps:List Str} {sp sp':Sp} (F:FnOk P w K mg base CX k f fd ps sp)
 (h:∀ vs H Q E,sp' vs H Q E->sp vs H Q E):FnOk P w K mg base CX k f fd ps sp' :=
 ⟨fun vs H Q E q=>F.len vs H Q E (h _ _ _ _ q),fun A outer s H args us vs Q E hr he hb hv hs=>F.run A outer s H args us vs Q E hr he hb hv (h _ _ _ _ hs)⟩
theorem Env0.make {P:Program} {w:World} {K:W.Frag} {mg:Str->Option Value} {base:Heap} {A:Around} {outer:List Env} {s:Shared} {H:Hp} (e:Env0 P w K mg base A outer s H) (C:Addr) (us:List Value) (kw:List (Str × Value)) :
 Env0 P w K mg base (A.under (.builtin "type.__call__" ⟨.ref C::us,kw⟩)) outer s H:=⟨by first | exact e.frames | (simpa[Around.under,Code.envs,Code.isFrame,pushEnvs] using e.frames),e.mod,e.bs,e.bsz,e.funs,e.frf,e.hok,e.bare⟩
theorem Env0.in1 {P:Program} {w:World} {K:W.Frag} {mg:Str->Option Value} {base:Heap} {A:Around} {outer:List Env} {s:Shared} {H:Hp} (e:Env0 P w K mg base A outer s H) :
 Env0 P w K mg base A.in1 outer s H:=⟨e.frames,e.mod,e.bs,e.bsz,e.funs,e.frf,e.hok,e.bare⟩
section
variable {X:Cx} {pins:List (Addr × Obj)} {σ:St} {H:Hp} {s s':Shared}
theorem Inv.env0 (I:Inv X pins σ H s):Env0 X.prog X.w X.K X.mg X.base X.A X.stack s H :=
 ⟨I.ok.frames,I.ok.mod,I.bs,Nat.le_trans I.ok.bsz I.sz,I.stack,I.stkFree,I.hok,I.bare⟩
theorem Inv.after {Q:VK} {u:Value} (I:Inv X pins σ H s) (h:CE X.stack X.prog X.w H s Q u s'):EP X pins σ Q u s':=by
 obtain⟨v,H',os,bare,un,hok,r,q⟩:=h
 obtain⟨hh,g,d,t,os'⟩:=s'
 obtain rfl:os'=s.os:=os
 exact⟨v,H',I.call (h':=hh) (g':=g) (d':=d) (t':=t) (ch:=[]) un hok bare (fun b z=>absurd z (by simp)),r,q⟩
end
def tCall (sp:Sp) (dvs:List V) (E:XK) (t:TA):TE:=fun σ H Q=>t σ H fun vs H1=>sp (vs++dvs) H1 Q E
def tMeth (C:Addr) (m:Str) (sp:Sp) (dvs:List V) (E:XK) (ta:TE) (t:TA):TE:=fun σ H Q=>ta σ H fun x H1=>∃ a dx fs,x=.ref a/\H1 a=some (.ins C dx fs)/\fs.lookup m=none /\
 t σ H1 fun vs H2=>sp (x::(vs++dvs)) H2 Q E
def tMake (C:Addr) (sp:Sp) (dvs:List V) (E:XK) (t:TA):TE:=fun σ H Q=>t σ H fun vs H1=>∀ x dx,H1 x=none->H1 dx=none->dx≠x ->
 sp (.ref x::(vs++dvs)) (upd (upd H1 dx (.own x)) x (.ins C dx [])) (fun v H2=>v=.non/\Q (.ref x) H2) E
def Binds (K:W.Frag) (fd:FuncData) (ps:List Str) (ds:List Value):Prop :=
 ∀ (s:Shared) (us:List Value),K.In s.heap->(us++ds).length=ps.length->BindsTo s fd ⟨us,[]⟩ (ps.zip (us++ds))
theorem Binds.all {K:W.Frag} {fd:FuncData} {ps:List Str} (h:∀ us:List Value,us.length=ps.length->bindArgs fd ⟨us,[]⟩=pure (ps.zip us)):Binds K fd ps []:=fun s us _ hl=>by
 rw[List.append_nil]at hl ⊢
 exact .of_eq (h us hl)
def y2m (CX:CXT) (X:Cx) (E:XK):Prop:=∀ (pins:List (Addr × Obj)) (σ:St) (H:Hp) (s:Shared) (e:Value) (s':Shared),Inv X pins σ H s->CX X.stack H s E e s'->X.xe e s'
section
variable {X:Cx} {CX:CXT} {k:Nat} {f C:Addr} {fd:FuncData} {ps:List Str} {sp:Sp} {dvs:List V} {ds:List Value} {E:XK} {x m:Str} {p pos apos:Pos} {e o:Expr} {es:List Expr} {ta:TE} {t:TA}
theorem x3o {pins:List (Addr × Obj)} {σ:St} {H:Hp} {s:Shared} {Q:VK} {us:List Value} {vs:List V} (F:FnOk X.prog X.w X.K X.mg X.base CX k f fd ps sp) (hr:Room k X.A) (hb:Binds X.K fd ps ds) (hd:Vals dvs ds) (hx:y2m CX X E)
 (I:Inv X pins σ H s) (r:Vals vs us) (h:sp (vs++dvs) H Q E):wpAny (model X.prog X.w) X.A (call (.ref f) us) (EP X pins σ Q) X.xe s:=by
 have r2:Vals (vs++dvs) (us++ds):=r.append hd
 have hl:(us++ds).length=ps.length:=by rw[←r2.length];exact F.len _ _ _ _ h
 refine wpAny_call (codeAny_mono (F.run X.A X.stack s H ⟨us,[]⟩ (us++ds) (vs++dvs) Q E hr I.env0 (hb s us I.kIn hl) r2 h) fun r s' hq=>?_)
 cases r with
 | error e=>exact hx pins σ H s e s' I hq
 | ok fl =>
  cases fl with
  | ret u=>exact I.after hq
  | next=>exact False.elim hq
  | brk=>exact False.elim hq
  | cont=>exact False.elim hq
theorem x9y (F:FnOk X.prog X.w X.K X.mg X.base CX k f fd ps sp) (hr:Room k X.A) (hg:Gl X x) (hm:X.mg x=some (.ref f)) (hk:PySem.W.keepIn X.K (.ref f)=true) (hb:Binds X.K fd ps ds) (hd:Vals dvs ds) (hx:y2m CX X E)
 (ha:PA X (e::es) t) (hdb:(x == ("__debug__" : Str))=false:=by decide) (he:starEach (e::es) X.env=(false,eval e X.env)::starEach es X.env:=by rfl) (hpl:(backTo pos (starEach es X.env)).any (·.1)=false:=by rfl) :
 PE X (.Call (.Name x p) (e::es) [] pos) (tCall sp dvs E t):=by
 intro pins s σ H Q I h
 refine wpAny_Call_Name_kw (x5e I hg hm ?_ hdb)
 refine PySem.W.callWith_K (h₀:=X.base) I.ok.mod.kin hk (thn (ha pos pins s σ H _ I h) fun us s1 ⟨vs,H1,I1,r,q⟩=>⟨I1.kIn,?_⟩) he hpl
 exact x3o F hr hb hd hx I1 r q
theorem x9v {pl:Sem Bool} (he:PE X o ta) (c:Cls X.K C) (hm:Meth X.K C m f) (F:FnOk X.prog X.w X.K X.mg X.base CX k f fd ps sp) (hr:Room k X.A) (hb:Binds X.K fd ps ds) (hd:Vals dvs ds) (hx:y2m CX X E) (ha:PA X (e::es) t)
 (hst:starEach (e::es) X.env=(false,eval e X.env)::starEach es X.env:=by rfl) (hpl:(backTo pos (starEach es X.env)).any (·.1)=false:=by rfl)
 (ht:eval (.Call (.Attribute o m apos) (e::es) [] pos) X.env=(do
  let ov ←eval o X.env
  standAt apos.atName
  let (f,first) ←holding [ov] (getMethod ov m pl)
  callWith pos f first (backTo pos (starEach (e::es) X.env)) (backToKw pos (keywordEach [] X.env))):=by rfl) :
 PE X (.Call (.Attribute o m apos) (e::es) [] pos) (tMeth C m sp dvs E ta t):=by
 intro pins s σ H Q I h
 refine PySem.W.methodCall_KW (pl:=pl) (thn (he pins s σ H _ I h) fun u s1 ⟨x,H1,I1,rx,a,dx,fs,ex,ea,l,q⟩=>?_) ht
 subst ex
 obtain rfl:u=Value.ref a:=rx
 refine y3g I1 ea c hm l ?_
 refine PySem.W.callWith_K (first:=[.ref a]) (h₀:=X.base) I.ok.mod.kin hm.kp (thn (ha pos pins s1 σ H1 _ I1 q) fun us s2 ⟨vs,H2,I2,r,q2⟩=>⟨I2.kIn,?_⟩) hst hpl
 exact x3o (us:=.ref a::us) (vs:=.ref a::vs) F hr hb hd hx I2 (.cons rfl r) q2
theorem x7i {pl:Sem Bool} (he:PE X o ta) (c:Cls X.K C) (hm:Meth X.K C m f) (F:FnOk X.prog X.w X.K X.mg X.base CX k f fd ps sp) (hr:Room k X.A) (hb:Binds X.K fd ps ds) (hd:Vals dvs ds) (hx:y2m CX X E)
 (ht:eval (.Call (.Attribute o m apos) [] [] pos) X.env=(do
  let ov ←eval o X.env
  standAt apos.atName
  let (f,first) ←holding [ov] (getMethod ov m pl)
  callWith pos f first (backTo pos (starEach [] X.env)) (backToKw pos (keywordEach [] X.env))):=by rfl) :
 PE X (.Call (.Attribute o m apos) [] [] pos) (tMeth C m sp dvs E ta tNil):=by
 intro pins s σ H Q I h
 refine PySem.W.methodCall_KW (pl:=pl) (thn (he pins s σ H _ I h) fun u s1 ⟨x,H1,I1,rx,a,dx,fs,ex,ea,l,q⟩=>?_) ht
 subst ex
 obtain rfl:u=Value.ref a:=rx
 refine y3g I1 ea c hm l ?_
 exact PySem.W.callWith_K0 (first:=[.ref a]) I1.kIn hm.kp (x3o (us:=[.ref a]) (vs:=[.ref a]) F hr hb hd hx I1 (.cons rfl .nil) q)
structure Mk (K:W.Frag) (C f:Addr):Prop where
 makes:PySem.W.makesIn K C=true
 init:PySem.W.findIn K (.ref C) "__init__" = some (some (.ref f))
 fn:PySem.W.isFn K (.ref f)=true
 kp:PySem.W.keepIn K (.ref C)=true
theorem x7c {pins:List (Addr × Obj)} {σ:St} {H:Hp} {s:Shared} {Q:VK} {us:List Value} {vs:List V} (M:Mk X.K C f) (F:FnOk X.prog X.w X.K X.mg X.base CX k f fd ps sp) (hr:Room (k+1) X.A) (hb:Binds X.K fd ps ds) (hd:Vals dvs ds)
 (hx:y2m CX X E) (I:Inv X pins σ H s) (r:Vals vs us)
 (h:∀ x dx,H x=none->H dx=none->dx≠x->sp (.ref x::(vs++dvs)) (upd (upd H dx (.own x)) x (.ins C dx [])) (fun v H2=>v=.non/\Q (.ref x) H2) E) :
 wpAny (model X.prog X.w) X.A (call (.ref C) us) (EP X pins σ Q) X.xe s:=by
 have hq:=h (s.heap.objs.size+1) s.heap.objs.size (I.hok.fresh (Nat.le_succ _)) (I.hok.fresh (Nat.le_refl _)) (Nat.ne_of_lt (Nat.lt_succ_self _))
 have I2:=Inv.made (C:=C) I
 have r2:Vals (V.ref (s.heap.objs.size+1)::(vs++dvs)) (Value.ref (s.heap.objs.size+1)::(us++ds)):=.cons rfl (r.append hd)
 have hl:(Value.ref (s.heap.objs.size+1)::us++ds).length=ps.length:=by
  have e:=r2.length
  rw[F.len _ _ _ _ hq]at e
  exact e.symm
 refine wpAny_call (x7w (f:=f) I.kIn M.makes M.init (beq_iff_eq.mp M.fn) (codeAny_mono (F.run _ X.stack _ _ ⟨Value.ref (s.heap.objs.size+1)::us,[]⟩ (Value.ref (s.heap.objs.size+1)::(us++ds)) _ _ E (hr.make C us [])
  (I2.env0.make C us []) (hb _ (Value.ref (s.heap.objs.size+1)::us) I2.kIn hl) r2 hq) fun r s' hq'=>?_))
 cases r with
 | error e=>exact hx pins σ _ _ e s' I2 hq'
 | ok fl =>
  cases fl with
  | ret u =>
   obtain⟨v,H',I3,rv,ev,q3⟩:=I2.after hq'
   subst ev
   exact⟨rv,⟨V.ref (s.heap.objs.size+1),H',I3,rfl,q3⟩⟩
  | next=>exact False.elim hq'
  | brk=>exact False.elim hq'
  | cont=>exact False.elim hq'
theorem x9w (M:Mk X.K C f) (F:FnOk X.prog X.w X.K X.mg X.base CX k f fd ps sp) (hr:Room (k+1) X.A) (hg:Gl X x) (hm:X.mg x=some (.ref C)) (hb:Binds X.K fd ps ds) (hd:Vals dvs ds) (hx:y2m CX X E)
 (ha:PA X (e::es) t) (hdb:(x == ("__debug__" : Str))=false:=by decide) (he:starEach (e::es) X.env=(false,eval e X.env)::starEach es X.env:=by rfl) (hpl:(backTo pos (starEach es X.env)).any (·.1)=false:=by rfl) :
 PE X (.Call (.Name x p) (e::es) [] pos) (tMake C sp dvs E t):=by
 intro pins s σ H Q I h
 refine wpAny_Call_Name_kw (x5e I hg hm ?_ hdb)
 refine PySem.W.callWith_K (h₀:=X.base) I.ok.mod.kin M.kp (thn (ha pos pins s σ H _ I h) fun us s1 ⟨vs,H1,I1,r,q⟩=>⟨I1.kIn,?_⟩) he hpl
 exact x7c M F hr hb hd hx I1 r q
end
section
variable {X:Cx} {CX:CXT} {k:Nat} {f C:Addr} {fd:FuncData} {ps ks:List Str} {sp:Sp} {E:XK} {x m:Str} {p pos apos kpos:Pos} {e o:Expr} {es:List Expr} {kws:List Keyword} {te ta:TE} {t tk:TA} {nm:Option Str}
structure KBinds (K:W.Frag) (fd:FuncData) (ps ks:List Str) (g:List Value->List Value->List Value) (gV:List V->List V->List V):Prop where
 to:∀ (s:Shared) (us ws:List Value),K.In s.heap->(g us ws).length=ps.length->BindsTo s fd ⟨us,ks.zip ws⟩ (ps.zip (g us ws))
 rel:∀ {vs:List V} {us:List Value} {zs:List V} {ws:List Value},Vals vs us->Vals zs ws->Vals (gV vs zs) (g us ws)
variable {g:List Value->List Value->List Value} {gV:List V->List V->List V}
end
structure FnScope (N P:List Str) (sc:Scope):Prop where
 kind:sc.kind=.function
 co:sc.isCoroutine=false
 gen:sc.isGenerator=false
 nd:N.Nodup
 pre:N.take P.length=P
 par:∀ x∈P,sc.names.lookup x=some .local∨sc.names.lookup x=some .cell
 nofree:∀ y∈sc.names,y.2≠.free
theorem y7i {kindOf:Str->Option NameKind} {x:Str}:∀ {binds:List (Str × Value)} {m:Str->Option Value},(∀ v,(x,v) ∉ binds)->bindL kindOf binds m x=m x
 | [],_,_=>rfl
 | (n,v)::r,m,h=>by
  unfold bindL
  rw[y7i fun w hw=>h w (List.mem_cons_of_mem _ hw)]
  split
  ·have:x≠n:=by rintro rfl;exact h v List.mem_cons_self
   simp[this]
  ·rfl
theorem y7k {kindOf:Str->Option NameKind} {x:Str}:∀ {binds:List (Str × Value)} {m:Str->Option Value},(∀ v,(x,v) ∉ binds)->bindC kindOf binds m x=m x
 | [],_,_=>rfl
 | (n,v)::r,m,h=>by
  unfold bindC
  rw[y7k fun w hw=>h w (List.mem_cons_of_mem _ hw)]
  split
  ·rfl
  ·have:x≠n:=by rintro rfl;exact h v List.mem_cons_self
   simp[this]
theorem y7j {kindOf:Str->Option NameKind} {x:Str} {v:Value}:∀ {P:List Str} {vs:List Value} {i:Nat} {m:Str->Option Value},P.Nodup->P[i]?=some x->vs[i]?=some v->kindOf x=some .local ->
 bindL kindOf (P.zip vs) m x=some v
 | [],_,_,_,_,h,_,_=>by simp at h
 | _::_,[],_,_,_,_,h,_=>by simp at h
 | p::P,w::vs,0,m,nd,h1,h2,hk=>by
  simp at h1 h2;subst h1;subst h2
  show bindL kindOf ((p,w)::P.zip vs) m p=_
  unfold bindL
  rw[y7i fun v hv=>(List.nodup_cons.mp nd).1 (List.of_mem_zip hv).1,if_pos hk]
  simp
 | p::P,w::vs,i+1,m,nd,h1,h2,hk=>by
  show bindL kindOf ((p,w)::P.zip vs) m x=_
  unfold bindL
  exact y7j (i:=i) (List.nodup_cons.mp nd).2 (by simpa using h1) (by simpa using h2) hk
theorem y7l {kindOf:Str->Option NameKind} {x:Str} {v:Value}:∀ {P:List Str} {vs:List Value} {i:Nat} {m:Str->Option Value},P.Nodup->P[i]?=some x->vs[i]?=some v->kindOf x≠some .local ->
 bindC kindOf (P.zip vs) m x=some v
 | [],_,_,_,_,h,_,_=>by simp at h
 | _::_,[],_,_,_,_,h,_=>by simp at h
 | p::P,w::vs,0,m,nd,h1,h2,hk=>by
  simp at h1 h2;subst h1;subst h2
  show bindC kindOf ((p,w)::P.zip vs) m p=_
  unfold bindC
  rw[y7k fun v hv=>(List.nodup_cons.mp nd).1 (List.of_mem_zip hv).1,if_neg hk]
  simp
 | p::P,w::vs,i+1,m,nd,h1,h2,hk=>by
  show bindC kindOf ((p,w)::P.zip vs) m x=_
  unfold bindC
  exact y7l (i:=i) (List.nodup_cons.mp nd).2 (by simpa using h1) (by simpa using h2) hk
def start (N:List Str) (vs:List V):St:=vs.map some++List.replicate (N.length - vs.length) none
def cxOf (CX:CXT) (P:Program) (w:World) (K:W.Frag) (mg:Str->Option Value) (base:Heap) (N:List Str) (qual:Str) (scope:Scope) (f:Addr) (cd:Value) (A:Around) (outer:List Env) (s:Shared) (H:Hp) (E:XK):Cx where
 prog:=P
 w:=w
 K:=K
 mg:=mg
 base:=base
 A:=A.deeper (envOfC qual scope s.heap.objs.size f cd)
 N:=N
 s₀:=s
 H₀:=H
 env:=envOfC qual scope s.heap.objs.size f cd
 outer:=outer
 stack:=envOfC qual scope s.heap.objs.size f cd::outer
 ex:=[]
 calm:=true
 fn:=fun _=>true
 pn:=[]
 xe:=fun e s'=>wpAny (model P w) (A.deeper (envOfC qual scope s.heap.objs.size f cd)) (leaving (envOfC qual scope s.heap.objs.size f cd) e) (fun _ s''=>CX outer H s E e s'') (fun e' s''=>CX outer H s E e' s'') s'
theorem x1b {sc:Scope} {n:Nat} {x:Str} (h:sc.names.lookup x=some .cell):∃ c,(cellsFrom n sc.names []).lookup x=some c:=by
 have q:=PySem.W.cellsFrom_some sc.names n [] (.inl h)
 exact Option.isSome_iff_exists.mp q
theorem x5l {CX:CXT} {P:Program} {w:World} {K:W.Frag} {mg:Str->Option Value} {base:Heap} {N ps:List Str} {qual:Str} {scope:Scope} {f:Addr} {cd:Value} {A:Around} {outer:List Env} {s s1:Shared} {H:Hp} {E:XK} {us:List Value} {vs:List V}
 (S:FnScope N ps scope) (hd:A.handled=none) (e0:Env0 P w K mg base A outer s H) (hl:vs.length=ps.length) (r:Vals vs us)
 (x:InCallC s s.heap.objs.size (bindL (envOfC qual scope s.heap.objs.size f cd).kindOf (ps.zip us) fun _=>none) (cellsFrom (s.heap.objs.size+1) scope.names []) (bindC (envOfC qual scope s.heap.objs.size f cd).kindOf (ps.zip us) fun _=>none) s1) :
 Inv (cxOf CX P w K mg base N qual scope f cd A outer s H E) [] (start N vs) H s1:=by
 have hpl:ps.length<=N.length:=by have:=congrArg List.length S.pre;rw[List.length_take]at this;omega
 obtain⟨h1,tk,rfl,hk⟩:=x.done
 have noA:∀ b:Addr,b ∉ (cxOf CX P w K mg base N qual scope f cd A outer s H E).ex:=fun b z=>absurd (show b∈([]:List Addr) from z) (by simp)
 refine⟨⟨e0.mod,S.kind,rfl,rfl,Nat.le_refl _,fun y z c h1 h2=>?_,fun y hy=>?_,fun y c _ h=>?_,fun _=>hd,Around.frames_deeper e0.frames,.inr ⟨rfl,rfl⟩,fun b z=>absurd z (noA b),e0.bs,e0.bsz,fun b _ _=>noA b,fun b z=>absurd z (noA b),e0.funs,e0.frf⟩,
  rfl,e0.bare,Un.kept hk,⟨_,x.toInCall.ns,fun i y v h1 h2 h3=>?_⟩,fun y c h=>⟨_,x.cell y c h⟩,e0.hok.fresh (Nat.le_refl _),fun y c h=>?_,fun p hp=>absurd (show p∈([]:List (Addr × Obj)) from hp) (by simp),e0.hok.kept hk,?_⟩
 ·exact name_of_addr x.apart (PySem.mem_of_lookup h1) (PySem.mem_of_lookup h2)
 ·have hy:scope.names.lookup y=some .cell∨scope.names.lookup y=some .free:=hy
  rcases hy with hy | hy
  ·exact x1b hy
  ·exact absurd rfl (S.nofree _ (PySem.mem_of_lookup hy))
 ·exact Nat.le_of_lt (x.above y c (PySem.mem_of_lookup h))
 ·have hi:i < vs.length:=by
   unfold start at h2
   by_cases hi:i < vs.length
   ·exact hi
   ·rw[List.getElem?_append_right (by simpa using hi)]at h2
    rw[List.getElem?_replicate]at h2
    split at h2<;>cases h2
  have ha:vs[i]?=some v:=by
   unfold start at h2
   rw[List.getElem?_append_left (by simpa using hi),List.getElem?_map]at h2
   cases e:vs[i]? with
   | none=>rw[e]at h2;cases h2
   | some a=>rw[e]at h2;cases h2;rfl
  obtain⟨u,hu,rv⟩:=r.get ha
  have hp:ps[i]?=some y:=by
   rw[←S.pre,List.getElem?_take_of_lt (by omega)];exact h1
  have ndP:ps.Nodup:=by rw[←S.pre];exact S.nd.sublist (List.take_sublist _ _)
  refine⟨u,rv,?_⟩
  rcases S.par y (List.mem_of_getElem? hp) with k | k
  ·exact .inl ⟨k,y7j ndP hp hu k⟩
  ·obtain⟨c,e⟩:=x1b (n:=s.heap.objs.size+1) k
   refine .inr ⟨.inl k,c,e,?_⟩
   have q:=x.cell y c e
   rw[y7l ndP hp hu (by show scope.names.lookup y≠_;rw[k];decide)]at q
   exact q
 ·exact e0.hok.fresh (Nat.le_of_lt (x.above y c (PySem.mem_of_lookup h)))
 ·unfold start
  show _=N.length
  rw[List.length_append,List.length_map,List.length_replicate]
  omega
theorem fn_of {CX:CXT} {P:Program} {w:World} {K:W.Frag} {mg:Str->Option Value} {base:Heap} {k:Nat} {f:Addr} {name qual:Str} {params:Arguments} {body:List Stmt} {scope:Scope} {dV kV doc pm cdv ct oc:Value} {an od:Option Addr}
 {osl:Array (Option Value)} {N ps:List Str} {sp:Sp} (lk:K.lookup f=some ⟨oc,od,.func (PySem.W.fnOf name qual params body scope dV kV doc pm an cdv ct),osl⟩) (hcd:PySem.W.codeIn K cdv qual=true) (S:FnScope N ps scope)
 (len:∀ vs H Q E,sp vs H Q E->vs.length=ps.length)
 (hbody:∀ (A:Around) (outer:List Env) (s:Shared) (H:Hp) (vs:List V) (Q:VK) (E:XK),Room k (A.deeper (envOfC qual scope s.heap.objs.size f cdv))->sp vs H Q E ->
  ∃ t,PSs (cxOf CX P w K mg base N qual scope f cdv A outer s H E) body t/\t { nx:=fun _ H'=>Q .non H',rt:=Q } (start N vs) H) :
 FnOk P w K mg base CX (k+1) f (PySem.W.fnOf name qual params body scope dV kV doc pm an cdv ct) ps sp:=by
 refine⟨len,fun A outer s H args us vs Q E hr e0 hb r hsp=>?_⟩
 have hl:=len _ _ _ _ hsp
 have KX:K.In s.heap:=e0.mod.kin.keeps fun b o e=>(e0.bs b o e).1
 have lim:s.heap.NoLimit:=e0.mod.nolimit.keeps fun b o e=>(e0.bs b o e).1
 have hkind:∀ y∈ps.zip us,scope.names.lookup y.1=some .local∨(scope.names.lookup y.1=some .cell/\((cellsFrom (s.heap.objs.size+1) scope.names []).lookup y.1).isSome=true):=fun ⟨n,v⟩ hy=>by
  rcases S.par n (List.of_mem_zip hy).1 with q | q
  ·exact .inl q
  ·exact .inr ⟨q,PySem.W.cellsFrom_some _ _ _ (.inl q)⟩
 refine codeAny_call_function hr.depth (KX _ _ lk) rfl S.co S.gen rfl (PySem.W.codeRec_of KX hcd) (hb _ _ _ _ ?_)
 refine wpAny_newFunctionEnv_cells S.kind hkind fun env he s1 x=>?_
 subst he
 refine⟨lim.keeps x.toInCall.keep,codeAny_func ?_⟩
 obtain⟨t,ht,hq⟩:=hbody A outer s H vs Q E (hr.deeper _) hsp
 have I:Inv (cxOf CX P w K mg base N qual scope f cdv A outer s H E) [] (start N vs) H s1:=x5l S hr.hd e0 hl r x
 refine wpAny_mono (ht [] s1 (start N vs) H _ I hq) (fun fl s' hs=>?_) fun e s' hs=>hs
 have fin:∀ {σ':St} {H':Hp} {v:V} {u:Value},Inv (cxOf CX P w K mg base N qual scope f cdv A outer s H E) [] σ' H' s'->RelV v u->Q v H'->CE outer P w H s Q u s' :=
  fun {σ' H' v u} J rv q=>⟨v,H',J.os,J.bare,J.base,J.hok,rv,q⟩
 cases fl with
 | ret u =>
  obtain⟨v,σ',H',J,rv,q⟩:=hs
  exact fin J rv q
 | next =>
  obtain⟨σ',H',J,q⟩:=hs
  exact fin (v:=V.non) (u:=Value.none) J rfl q
 | brk =>
  obtain⟨_,_,_,q⟩:=hs
  exact False.elim q
 | cont =>
  obtain⟨_,_,_,q⟩:=hs
  exact False.elim q
end L2
namespace L2
open PySem PySem.Spec PyProof.Rows
section
variable {X:Cx} {x:Str} {p pos:Pos} {e:Expr} {es:List Expr} {t:TA} {id T:String} {r:List V->Hp->VK->Prop}
def tCB (r:List V->Hp->VK->Prop) (t:TA):TE:=fun σ H Q=>t σ H fun vs H1=>r vs H1 Q
theorem z0t (hc:CallR X (.builtin id) r) (hg:Gl X x) (hm:X.mg x=none) (hv:bootBuiltins x=some (.builtin id)) (ha:PA X (e::es) t) (hn:x≠"__name__":=by decide) (hdb:(x == ("__debug__" : Str))=false:=by decide)
 (he:starEach (e::es) X.env=(false,eval e X.env)::starEach es X.env:=by rfl) (hpl:(backTo pos (starEach es X.env)).any (·.1)=false:=by rfl):PE X (.Call (.Name x p) (e::es) [] pos) (tCB r t):=by
 intro pins s σ H Q I h
 refine wpAny_Call_Name_kw (z7g I hg hm hv ?_ hn hdb)
 exact PyProof.Rows.callWith_builtin1 (thn (ha pos pins s σ H _ I h) fun us s1 ⟨vs,H1,I1,r1,q1⟩=>hc pins s1 σ H1 vs us Q I1 r1 q1) he hpl
theorem z7e (hc:CallR X (.type T) r) (hg:Gl X x) (hm:X.mg x=none) (hv:bootBuiltins x=some (.type T)) (ha:PA X (e::es) t) (hn:x≠"__name__":=by decide) (hdb:(x == ("__debug__" : Str))=false:=by decide)
 (he:starEach (e::es) X.env=(false,eval e X.env)::starEach es X.env:=by rfl) (hpl:(backTo pos (starEach es X.env)).any (·.1)=false:=by rfl):PE X (.Call (.Name x p) (e::es) [] pos) (tCB r t):=by
 intro pins s σ H Q I h
 refine wpAny_Call_Name_kw (z7g I hg hm hv ?_ hn hdb)
 exact PyProof.Rows.callWith_type1 (thn (ha pos pins s σ H _ I h) fun us s1 ⟨vs,H1,I1,r1,q1⟩=>hc pins s1 σ H1 vs us Q I1 r1 q1) he hpl
end
end L2
namespace HT
open PySem PyProof.Rows
section
open PySem.SeqAt
open PySem.AutoSeq1 (wpAny_loadPart')
open PySem.MeetsSeq PySem.MeetsSeq2 PySem.MeetsSeq3
end
section
variable {prog:Program} {w:World} {A:Around} {E:Value->Shared->Prop} {s:Shared}
def sIx (n d:Nat):Option Int->Nat
 | none=>d
 | some v=>if v < 0 then (v+(n:Int)).toNat else min v.toNat n
theorem sIx_none (n d:Nat):sIx n d none=d:=rfl
theorem sIx_nat (n d k:Nat):sIx n d (some (k:Int))=min k n:=by
 show (if (k:Int) < 0 then ((k:Int)+(n:Int)).toNat else min (k:Int).toNat n)=min k n
 rw[if_neg (by omega),Int.toNat_natCast]
theorem w1k (n d:Nat) (hd:d<=n) (o:Option Int):sIx n d o<=n:=by
 cases o with
 | none=>exact hd
 | some v =>
  show (if v < 0 then (v+(n:Int)).toNat else min v.toNat n)<=n
  by_cases hv:v < 0
  ·rw[if_pos hv];omega
  ·rw[if_neg hv];exact Nat.min_le_right _ _
theorem x6m (v:Int) (n d:Nat):(if v < 0 then max (v+(n:Int)) 0 else min v (n:Int))=((sIx n d (some v):Nat):Int):=by
 show (if v < 0 then max (v+(n:Int)) 0 else min v (n:Int))=(((if v < 0 then (v+(n:Int)).toNat else min v.toNat n):Nat):Int)
 by_cases hv:v < 0
 ·simp only[if_pos hv];omega
 ·simp only[if_neg hv];omega
theorem x2t (lo hi:Option Int) (n:Nat):Builtin.Slice.sliceAdjust lo hi 1 (n:Int)=(((sIx n 0 lo:Nat):Int),((sIx n n hi:Nat):Int)):=by
 have h1:¬ ((1:Int) < 0):=by omega
 unfold Builtin.Slice.sliceAdjust
 simp only[h1,if_false]
 refine Prod.ext ?_ ?_
 ·cases lo with
  | none=>rfl
  | some v=>exact x6m v n 0
 ·cases hi with
  | none=>rfl
  | some v=>exact x6m v n n
theorem x1o (i j:Nat):Builtin.Slice.slicePlaces (i:Int) (j:Int) 1=j - i:=by
 unfold Builtin.Slice.slicePlaces
 have h1:(1:Int) > 0:=by omega
 simp only[h1,if_true,Int.ediv_one]
 split<;>omega
theorem y2u {v:Value} {o:Option Int} {Q:Option Int->Shared->Prop} (p:IsPart v o) (h:Q o s):wpAny (model prog w) A (Builtin.Slice.slicePartIndex v) Q E s:=by
 cases p with
 | none=>exact slicePart_none h
 | int i t=>exact slicePart_int h
theorem y0f {sl:Addr} {vl vu:Value} {lo hi:Option Int} {n:Nat} {Q:Int × Int × Nat->Shared->Prop} (hs:s.heap.IsSliceOf sl vl vu .none) (pl:IsPart vl lo) (pu:IsPart vu hi)
 (h:Q (((sIx n 0 lo:Nat):Int),1,sIx n n hi - sIx n 0 lo) s):wpAny (model prog w) A (Builtin.Slice.sliceApplied (.ref sl) (pure (n:Int))) Q E s:=by
 obtain⟨os,hos,hcs,hds⟩:=id hs
 unfold Builtin.Slice.sliceApplied Builtin.Slice.sliceFields
 refine wpAny_bind (wpAny_bind (wpAny_field hos hds (x:=vl) rfl (wpAny_bind (wpAny_field hos hds (x:=vu) rfl (wpAny_bind (wpAny_field hos hds (x:=.none) rfl (wpAny_pure ?_)))))))
 refine wpAny_bind (slicePart_none ?_)
 show wpAny _ _ (if ((1:Int) == 0)=true then _ else _) _ _ s
 rw[if_neg (by decide)]
 refine wpAny_bind (y2u pl (wpAny_bind (y2u pu (wpAny_bind (wpAny_pure ?_)))))
 show wpAny _ _ (match Builtin.Slice.sliceAdjust lo hi 1 (n:Int) with | (lo,hi)=>pure (lo,(1:Int),Builtin.Slice.slicePlaces lo hi 1)) _ _ s
 rw[x2t lo hi n]
 show wpAny _ _ (pure (((sIx n 0 lo:Nat):Int),(1:Int),Builtin.Slice.slicePlaces ((sIx n 0 lo:Nat):Int) ((sIx n n hi:Nat):Int) 1)) _ _ s
 rw[x1o]
 exact wpAny_pure h
theorem x7g (xs:Array Value) (i k:Nat):((List.range k).filterMap fun (m:Nat)=>xs[((i:Int)+(m:Int) * 1).toNat]?).toArray=((xs.toList.drop i).take k).toArray:=by
 have e:(fun (m:Nat)=>xs[((i:Int)+(m:Int) * 1).toNat]?)=fun m=>xs[i+m]?:=by
  funext m
  have:((i:Int)+(m:Int) * 1).toNat=i+m:=by omega
  rw[this]
 rw[e]
 have:=pick_run xs i k
 rw[List.filterMap_map]at this
 have e2:((fun x=>xs[x]?) ∘ fun x=>i+x)=fun m=>xs[i+m]?:=rfl
 rw[e2]at this
 rw[this]
theorem getItem_tuple_cut {t sl:Addr} {items:Array Value} {vl vu:Value} {lo hi:Option Int} {Q:Value->Shared->Prop} (ht:IsTup s.heap t items) (hs:s.heap.IsSliceOf sl vl vu .none) (pl:IsPart vl lo) (pu:IsPart vu hi)
 (hw:¬ (sIx items.size 0 lo=0/\sIx items.size items.size hi=items.size))
 (h:Q (.ref s.heap.objs.size) { s with heap:=s.heap.push { cls:=.type "tuple",data:=.seq ((items.toList.drop (sIx items.size 0 lo)).take (sIx items.size items.size hi - sIx items.size 0 lo)).toArray } })
 (hsz:items.size<=sizeLine):wpAny (model prog w) A (getItem (.ref t) (.ref sl)) Q E s:=by
 have htake:sizeOk (.seq ((items.toList.drop (sIx items.size 0 lo)).take (sIx items.size items.size hi - sIx items.size 0 lo)).toArray):=by
  show ((items.toList.drop (sIx items.size 0 lo)).take (sIx items.size items.size hi - sIx items.size 0 lo)).toArray.size<=sizeLine
  rw[List.size_toArray,List.length_take,List.length_drop,Array.length_toList]
  omega
 have hj:sIx items.size items.size hi<=items.size:=w1k _ _ (Nat.le_refl _) hi
 obtain⟨os,hos,hcs,hds⟩:=id hs
 have hTs:s.TypeIs (.ref sl) "slice":=⟨os,hos,hcs⟩
 unfold getItem
 try with_reducible refine wpAny_holding ?_
 first | refine wpAny_bind (wpAny_pure ?_) | skip
 refine wpAny_bind (wpAny_sequenceKey ht.typeIs (by decide) ?_)
 refine wpAny_bind (wpAny_callSpecial?_slot (name:=Str.ofString "__getitem__") ht.typeIs PyProof.Rows.slot_tuple_getitem
  (wpAny_call_entry PyProof.Rows.slot_tuple_getitem ht.typeIs entry_tuple_getitem ?_ (args_tuple_getitem _ _)))
 show wpAny _ _ (Builtin.Tuple.tupleItemsOf (.ref t) >>= _) _ _ s
 refine wpAny_bind (tupleItemsOf_ ht ?_)
 refine wpAny_bind (wpAny_typeOf hTs ?_)
 rw[if_pos (by decide)]
 refine wpAny_bind (y0f hs pl pu ?_)
 have hno:¬ ((((sIx items.size 0 lo:Nat):Int) == 0 && (1:Int) == 1 && (sIx items.size items.size hi - sIx items.size 0 lo) == items.size)=true):=by
  intro q
  rw[Bool.and_eq_true,Bool.and_eq_true]at q
  have q1:((sIx items.size 0 lo:Nat):Int)=0:=eq_of_beq q.1.1
  have q2:sIx items.size items.size hi - sIx items.size 0 lo=items.size:=eq_of_beq q.2
  exact hw ⟨by omega,by omega⟩
 show wpAny _ _ (if (((sIx items.size 0 lo:Nat):Int) == 0 && (1:Int) == 1 && (sIx items.size items.size hi - sIx items.size 0 lo) == items.size)=true then _ else _) _ _ s
 rw[if_neg hno,x7g]
 first
  | exact wpAny_bind (m:=Builtin.Tuple.tupleExact _) (wpAny_newObj_type (wpAny_pure ⟨_,rfl,wpAny_pure h⟩) htake)
  | exact wpAny_bind (m:=Builtin.Tuple.tupleExact _) (wpAny_newObj_type (wpAny_bind (wpAny_pure (wpAny_pure ⟨_,rfl,wpAny_pure h⟩))) htake)
  | exact wpAny_bind (wpAny_bind (m:=Builtin.Tuple.tupleExact _) (wpAny_newObj_type (wpAny_pure (wpAny_pure ⟨_,rfl,wpAny_pure h⟩)) htake))
  | exact wpAny_bind (wpAny_bind (m:=Builtin.Tuple.tupleExact _) (wpAny_newObj_type (wpAny_pure ⟨_,rfl,wpAny_pure h⟩) htake))
end
end HT
namespace L2
open PySem PySem.Spec PyProof.Rows
abbrev TO:=St->Hp->(Option Int->Hp->Prop)->Prop
def PO (X:Cx) (e:Option Expr) (t:TO):Prop :=
 ∀ (pins:List (Addr × Obj)) (s:Shared) (σ:St) (H:Hp) (Q:Option Int->Hp->Prop),Inv X pins σ H s->t σ H Q ->
  wpAny (model X.prog X.w) X.A (evalPart e X.env) (fun u s'=>∃ o H',Inv X pins σ H' s'/\IsPart u o/\Q o H') X.xe s
def x9n:TO:=fun _ H Q=>Q none H
def tPart (t:TE):TO:=fun σ H Q=>t σ H fun x H1=>∃ i,x=.int i/\Q (some i) H1
theorem x2m {ns:List Int}:∀ {us:List Value},Vals (ns.map V.int) us->IntsAre us ns:=by
 induction ns with
 | nil=>intro us r;rw[List.map_nil]at r;cases r;exact .nil
 | cons n ns ih =>
  intro us r
  rw[List.map_cons]at r
  cases r with
  | cons r1 r2 =>
   obtain⟨t,e⟩:=r1
   subst e
   exact .cons n t (ih r2)
section
variable {X:Cx} {e:Expr} {te:TE} {lo hi:Option Expr} {tl th:TO} {pos p2:Pos}
theorem y8c:PO X none x9n:=by
 intro pins s σ H Q I h
 rw[evalPart_none]
 exact wpAny_pure ⟨none,H,I,.none,h⟩
theorem y1k (h:PE X e te):PO X (some e) (tPart te):=by
 intro pins s σ H Q I hw
 rw[evalPart_some]
 refine thn (h pins s σ H _ I hw) fun u s1 ⟨x,H1,I1,r1,q1⟩=>?_
 obtain⟨i,rfl,q⟩:=q1
 obtain⟨t,rfl⟩:=r1
 exact⟨some i,H1,I1,.int i t,q⟩
def SlR (X:Cx) (r:V->Option Int->Option Int->Hp->VK->Prop):Prop :=
 ∀ (pins:List (Addr × Obj)) (s:Shared) (σ:St) (H:Hp) (x:V) (v vl vu:Value) (lo hi:Option Int) (sl:Addr) (Q:VK),Inv X pins σ H s->RelV x v->s.heap.IsSliceOf sl vl vu .none->IsPart vl lo->IsPart vu hi->r x lo hi H Q ->
  ∃ T id,typeLookup (.type T) "__getitem__" = pure (some (.builtin id))/\s.TypeIs v T/\wpAny (model X.prog X.w) X.A (getItem v (.ref sl)) (EP X pins σ Q) X.xe s
def tSl (r:V->Option Int->Option Int->Hp->VK->Prop) (te:TE) (tl th:TO):TE:=fun σ H Q=>te σ H fun x H1=>tl σ H1 fun l H2=>th σ H2 fun u H3=>r x l u H3 Q
theorem y0q {r:V->Option Int->Option Int->Hp->VK->Prop} (hr:SlR X r) (he:PE X e te) (hl:PO X lo tl) (hu:PO X hi th):PE X (.Subscript e (.Slice lo hi none p2) pos) (tSl r te tl th):=by
 intro pins s σ H Q I h
 refine Subscript_ (thn (he pins s σ H _ I h) fun v s1 ⟨x,H1,I1,r1,q1⟩=>?_)
 refine wpAny_Slice (thn (hl pins s1 σ H1 _ I1 q1) fun vl s2 ⟨l,H2,I2,pl,q2⟩=>thn (hu pins s2 σ H2 _ I2 q2) fun vu s3 ⟨u,H3,I3,pu,q3⟩=>?_)
 rw[evalPart_none]
 refine wpAny_pure ?_
 have I4:Inv X pins σ H3 { s3 with heap:=s3.heap.push { cls:=.type "slice",data:=.fields #[vl,vu,.none] } }:=I3.kept (t':=s3.toks) fun b ob q=>Heap.get?_push_of_some _ q
 obtain⟨T,id,hT,ht,hg⟩:=hr pins { s3 with heap:=s3.heap.push { cls:=.type "slice",data:=.fields #[vl,vu,.none] } } σ H3 x v vl vu l u s3.heap.objs.size Q I4 r1 (Heap.IsSliceOf.new ..) pl pu q3
 show wpAny (model X.prog X.w) X.A (subscriptTail e (.Slice lo hi none p2) v (.ref s3.heap.objs.size)) (EP X pins σ Q) X.xe { s3 with heap:=s3.heap.push { cls:=.type "slice",data:=.fields #[vl,vu,.none] } }
 exact tail_any (ops:=[.ref s3.heap.objs.size,v]) ht hT hg (by with_unfolding_all rfl)
def cutV (xs:List V) (lo hi:Option Int):List V:=(xs.drop (HT.sIx xs.length 0 lo)).take (HT.sIx xs.length xs.length hi - HT.sIx xs.length 0 lo)
theorem y2e (xs:List V) (lo hi:Option Int):(cutV xs lo hi).length<=xs.length:=by
 unfold cutV
 rw[List.length_take,List.length_drop]
 omega
def rSlT (K:W.Frag):V->Option Int->Option Int->Hp->VK->Prop:=fun x lo hi H Q=>∃ a xs,x=.ref a/\SqT K H a xs /\
 ¬ (HT.sIx xs.length 0 lo=0/\HT.sIx xs.length xs.length hi=xs.length)/\∀ p,H p=none->Q (.ref p) (upd H p (.tup (cutV xs lo hi)))
theorem x8x:SlR X (rSlT X.K):=by
 intro pins s σ H x v vl vu lo hi sl Q I rx hs pl pu h
 obtain⟨a,xs,rfl,hx,hw,q⟩:=h
 cases rx
 obtain⟨its,r,ht,hz⟩:=I.tuple hx
 have hlen:its.toArray.size=xs.length:=by rw[List.size_toArray];exact r.length.symm
 refine⟨"tuple",_,PyProof.Rows.slot_tuple_getitem.lookup,ht.typeIs,?_⟩
 refine HT.getItem_tuple_cut ht hs pl pu (by rw[hlen];exact hw) ?_ (by rw[hlen];exact hz)
 rw[hlen]
 refine⟨.ref s.heap.objs.size,_,I.laid (t':=s.toks) (o:=.tup (cutV xs lo hi)) (fun b ob q=>Heap.get?_push_of_some _ q) (Nat.le_refl _) ?_,rfl,q _ (I.hok.fresh (Nat.le_refl _))⟩
 exact⟨Nat.le_trans (y2e xs lo hi) hz,_,(r.drop (HT.sIx xs.length 0 lo)).take (HT.sIx xs.length xs.length hi - HT.sIx xs.length 0 lo),IsTup.new _ _⟩
end
end L2
namespace L2
open PySem PySem.Spec PyProof.Rows
def ixN (n:Nat) (i:Int):Option Nat:=if 0<=i then (if i < n then some i.toNat else none) else if -(n:Int)<=i then some (i+n).toNat else none
def atI {α:Type} (xs:List α) (i:Int):Option α:=(ixN xs.length i).bind fun j=>xs[j]?
theorem x5j {n:Nat} {i:Int} {j:Nat} (h:ixN n i=some j):seqIndex? i n=some j/\j < n/\-(n:Int)<=i/\i < n:=by
 unfold ixN at h
 by_cases h0:0<=i
 ·rw[if_pos h0]at h
  by_cases h1:i < n
  ·rw[if_pos h1]at h
   have e:i.toNat=j:=Option.some.inj h
   exact⟨by rw[seqIndex_of h0 h1,e],by omega,by omega,h1⟩
  ·rw[if_neg h1]at h;cases h
 ·rw[if_neg h0]at h
  by_cases h1:-(n:Int)<=i
  ·rw[if_pos h1]at h
   have e:(i+n).toNat=j:=Option.some.inj h
   exact⟨by rw[seqIndex_neg (by omega) h1,e],by omega,h1,by omega⟩
  ·rw[if_neg h1]at h;cases h
theorem y9e {α:Type} {xs:List α} {i:Int} {v:α} (h:atI xs i=some v):∃ j,seqIndex? i xs.length=some j/\xs[j]?=some v/\j < xs.length/\-(xs.length:Int)<=i/\i < xs.length:=by
 unfold atI at h
 cases e:ixN xs.length i with
 | none=>rw[e]at h;cases h
 | some j =>
  rw[e]at h
  obtain⟨h1,h2,h3,h4⟩:=x5j e
  exact⟨j,h1,h,h2,h3,h4⟩
theorem z4f {α:Type} {xs:List α} {j:Nat} {v:α} (h:xs[j]?=some v):atI xs (j:Int)=some v:=by
 have hj:j < xs.length:=(List.getElem?_eq_some_iff.mp h).1
 have e:ixN xs.length (j:Int)=some j:=by
  unfold ixN
  rw[if_pos (by omega),if_pos (by omega)];simp
 unfold atI;rw[e];exact h
theorem z7v {α:Type} (xs:List α) (v:α):atI (xs++[v]) (-1)=some v:=by
 have hl:(xs++[v]).length=xs.length+1:=by simp
 have e:ixN (xs++[v]).length (-1)=some xs.length:=by
  unfold ixN
  rw[hl,if_neg (by decide),if_pos (by omega)]
  congr 1
  omega
 unfold atI
 rw[e]
 show (xs++[v])[xs.length]?=some v
 simp
def w0x (b:Expr):Prop:=∀ o i,subscripted b false o i=operate [o,i] (getItem o i)
def IxR (X:Cx) (r:R2):Prop :=
 ∀ (value slice:Expr) (pins:List (Addr × Obj)) (s:Shared) (σ:St) (H:Hp) (x y:V) (v u:Value) (Q:VK),Inv X pins σ H s->RelV x v->RelV y u->r x y H Q ->
  subscripted slice false v u=operate [v,u] (getItem v u)->wpAny (model X.prog X.w) X.A (subscriptTail value slice v u) (EP X pins σ Q) X.xe s
def MtR (X:Cx) (id:String) (r:V->List V->Hp->VK->Prop):Prop :=
 ∀ (pins:List (Addr × Obj)) (s:Shared) (σ:St) (H:Hp) (x:V) (xs:List V) (v:Value) (us:List Value) (Q:VK),Inv X pins σ H s->RelV x v->Vals xs us->r x xs H Q ->
  wpAny (model X.prog X.w) X.A (call (.builtin id) (v::us)) (EP X pins σ Q) X.xe s
section
variable {X:Cx} {a b:Expr} {ta tb:TE} {pos:Pos}
theorem IxR.or {r r':R2} (h:IxR X r) (h':IxR X r'):IxR X (fun x y H Q=>r x y H Q∨r' x y H Q):=by
 intro value slice pins s σ H x y v u Q I rx ry q hs
 rcases q with q | q
 ·exact h value slice pins s σ H x y v u Q I rx ry q hs
 ·exact h' value slice pins s σ H x y v u Q I rx ry q hs
theorem pe_ix {r:R2} (hr:IxR X r) (ha:PE X a ta) (hb:PE X b tb) (hs:w0x b):PE X (.Subscript a b pos) (tOp r ta tb):=by
 intro pins s σ H Q I h
 exact Subscript_ (binT ha hb I h fun v u s2 x y H2 I2 rx ry q=>hr a b pins s2 σ H2 x y v u Q I2 rx ry q (hs _ _))
def rIxL (K:W.Frag):R2:=fun x y H Q=>∃ p xs i v,x=.ref p/\y=.int i/\SqL K H p xs/\atI xs i=some v/\Q v H
def rIxT (K:W.Frag):R2:=fun x y H Q=>∃ p xs i v,x=.ref p/\y=.int i/\SqT K H p xs/\atI xs i=some v/\Q v H
def rIxS:R2:=fun x y H Q=>∃ z i c,x=.str z/\y=.int i/\z.length<=sizeLine/\atI z.cps.toList i=some c/\Q (.str ⟨#[c]⟩) H
theorem ix_list:IxR X (rIxL X.K):=by
 intro value slice pins s σ H x y v u Q I rx ry h hs
 obtain⟨p,xs,i,z,rfl,rfl,hq,he,q⟩:=h
 cases rx
 obtain⟨t,rfl⟩:=ry
 obtain⟨its,r,pl,hz⟩:=I.list hq
 obtain⟨j,h1,h2,h3,h4,h5⟩:=y9e he
 obtain⟨w,ew,rw'⟩:=r.get h2
 have hl:=r.length
 have hn:=y1t
 have fin:EP X pins σ Q w s:=⟨z,H,I,rw',q⟩
 by_cases h0:0<=i
 ·have hj:i.toNat=j:=by
   rw[seqIndex_of h0 h5]at h1
   exact Option.some.inj h1
  exact item_listR pl.isList h0 (by omega) (by rw[hj];simpa using ew) fin hs
 ·have hj:(i+(its.toArray.size:Int)).toNat=j:=by
   rw[seqIndex_neg (by omega) h4]at h1
   rw[List.size_toArray,←hl]
   exact Option.some.inj h1
  exact subscriptTail_builtinR (x:=w) pl.isList.typeIs slot_list_getitem.lookup
   (wpAny_getItem_list_neg (Q:=fun r s'=>r=w/\EP X pins σ Q r s') pl.isList (by omega) (by rw[List.size_toArray]<;>omega) (by omega) (by rw[hj];simpa using ew) ⟨rfl,fin⟩) hs
theorem ix_tup:IxR X (rIxT X.K):=by
 intro value slice pins s σ H x y v u Q I rx ry h hs
 obtain⟨p,xs,i,z,rfl,rfl,hq,he,q⟩:=h
 cases rx
 obtain⟨t,rfl⟩:=ry
 obtain⟨its,r,pl,hz⟩:=I.tuple hq
 obtain⟨j,h1,h2,h3,h4,h5⟩:=y9e he
 obtain⟨w,ew,rw'⟩:=r.get h2
 have hl:=r.length
 have hn:=y1t
 have fin:EP X pins σ Q w s:=⟨z,H,I,rw',q⟩
 exact subscriptTail_builtinR (x:=w) pl.typeIs slot_tuple_getitem.lookup
  (getItem_tuple (j:=j) (Q:=fun r s'=>r=w/\EP X pins σ Q r s') pl (by omega) (by omega) (by rw[List.size_toArray,←hl];exact h1) (by simpa using ew) ⟨rfl,fin⟩) hs
theorem w2f:IxR X rIxS:=by
 intro value slice pins s σ H x y v u Q I rx ry h hs
 obtain⟨z,i,c,rfl,rfl,hz,he,q⟩:=h
 obtain⟨t,rfl⟩:=rx
 obtain⟨t',rfl⟩:=ry
 obtain⟨j,h1,h2,h3,h4,h5⟩:=y9e he
 have hl:z.cps.toList.length=z.length:=by simp[Str.length]
 rw[hl]at h1 h4 h5
 have hn:=y1t
 exact tail_any (typeIs_str s z t) slot_str_getitem.lookup (getItem_str (c:=c) (by
  have e1:decide (i < -(2 ^ 63:Int))=false:=decide_eq_false (by omega)
  have e2:decide (i ≥ 2 ^ 63)=false:=decide_eq_false (by omega)
  rw[e1,e2,Bool.or_false]) (by rw[h1];simpa using h2) ⟨.str ⟨#[c]⟩,H,I.tok _,⟨_,rfl⟩,q⟩) hs
def rIx (K:W.Frag):R2:=fun x y H Q=>rIxL K x y H Q∨rIxT K x y H Q∨rIxS x y H Q
theorem y0c:IxR X (rIx X.K):=ix_list.or (ix_tup.or w2f)
theorem x2h (its:List Value) (n j:Nat) (u:Value):Obj.mapSeq (·.setIfInBounds j u) { cls:=.type "list",data:=.seq its.toArray n }={ cls:=.type "list",data:=.seq (its.set j u).toArray n }:=by
 simp[Obj.mapSeq]
theorem Inv.lst {pins:List (Addr × Obj)} {σ:St} {H:Hp} {s:Shared} {p:Addr} {xs:List V} (I:Inv X pins σ H s) (h:H p=some (.lst xs)) :
 ∃ (its:List Value) (n:Nat),Vals xs its/\s.heap.get? p=some { cls:=.type "list",data:=.seq its.toArray n }/\xs.length<=sizeLine:=by
 obtain⟨z,its,n,r,e⟩:=I.hok p _ h
 exact⟨its,n,r,e,z⟩
theorem Inv.lstUpd {pins:List (Addr × Obj)} {σ:St} {H:Hp} {s:Shared} {p:Addr} {xs ys:List V} {its its':List Value} {n n':Nat} {f:Obj->Obj} (I:Inv X pins σ H s) (h:H p=some (.lst xs))
 (ho:s.heap.get? p=some { cls:=.type "list",data:=.seq its.toArray n }) (hf:f { cls:=.type "list",data:=.seq its.toArray n }={ cls:=.type "list",data:=.seq its'.toArray n' }) (r:Vals ys its') (hz:ys.length<=sizeLine) (t:Nat) :
 Inv X pins σ (upd H p (.lst ys)) { s with heap:=s.heap.update p f,toks:=t }:=by
 have e:(s.heap.update p f).get? p=some { cls:=.type "list",data:=.seq its'.toArray n' }:=by
  rw[Heap.get?_update_self f ho (by rw[hf]<;>rfl),hf]
 refine I.write (x:=p) (e:=p) (by rw[h];trivial) (.inl rfl) (fun b u hb q=>(Heap.get?_update_other _ _ (Ne.symm hb)).trans q) ⟨_,e⟩ ?_
 exact⟨hz,its',n',r,e⟩
def rSetL:V->V->V->Hp->(Hp->Prop)->Prop:=fun o i v H Q=>∃ p xs k j,o=.ref p/\i=.int k/\H p=some (.lst xs)/\ixN xs.length k=some j/\Q (upd H p (.lst (xs.set j v)))
theorem y9u:PSet X rSetL:=by
 intro pins s σ H o i v ov iv u Q I ro ri rv h
 obtain⟨p,xs,k,j,rfl,rfl,hp,hj,q⟩:=h
 cases ro
 obtain⟨t,rfl⟩:=ri
 obtain⟨its,n,r,ho,hz⟩:=I.lst hp
 obtain⟨h1,h2,h3,h4⟩:=x5j hj
 have hl:=r.length
 have hn:=y1t
 have I':Inv X pins σ (upd H p (.lst (xs.set j v))) { s with heap:=s.heap.update p (Obj.mapSeq (·.setIfInBounds j u)) } :=
  I.lstUpd hp ho (x2h its n j u) (r.set rv j) (by rw[List.length_set];exact hz) s.toks
 by_cases h0:0<=k
 ·have hk:k.toNat=j:=by
   rw[seqIndex_of h0 h4]at h1
   exact Option.some.inj h1
  exact PySem.W.ki_setAt ho h0 (by omega) (by rw[List.size_toArray,←hl];exact h4) (by rw[hk];exact⟨_,I',q⟩)
 ·have hk:(k+(its.toArray.size:Int)).toNat=j:=by
   rw[seqIndex_neg (by omega) h3]at h1
   rw[List.size_toArray,←hl]
   exact Option.some.inj h1
  exact PySem.W.ki_setBack ho (by omega) (by rw[List.size_toArray,←hl];exact h3) (by omega) (by rw[hk];exact⟨_,I',q⟩)
theorem y5n (lo hi:Option Int) (n:Nat):(sliceBounds lo hi none n).1=((HT.sIx n 0 lo:Nat):Int)/\(sliceBounds lo hi none n).2.1=((HT.sIx n n hi:Nat):Int)/\(sliceBounds lo hi none n).2.2=1:=by
 refine⟨?_,?_,rfl⟩
 ·cases lo with
  | none=>simp[sliceBounds,HT.sIx]
  | some i =>
   simp only[sliceBounds,HT.sIx,Option.getD_none,show (1:Int) > 0 by decide,if_true]
   by_cases h:i < 0
   ·simp only[h,if_true]<;>omega
   ·simp only[h,if_false]<;>omega
 ·cases hi with
  | none=>simp[sliceBounds,HT.sIx]
  | some i =>
   simp only[sliceBounds,HT.sIx,Option.getD_none,show (1:Int) > 0 by decide,if_true]
   by_cases h:i < 0
   ·simp only[h,if_true]<;>omega
   ·simp only[h,if_false]<;>omega
theorem y4c (its:List Value) (lo hi:Option Int):slicePick its.toArray lo hi none=((its.drop (HT.sIx its.length 0 lo)).take (HT.sIx its.length its.length hi - HT.sIx its.length 0 lo)).toArray:=by
 obtain⟨h1,h2,h3⟩:=y5n lo hi its.toArray.size
 unfold slicePick
 rw[h1,h2,h3]
 simp only[sliceRange_one,pick_run,List.size_toArray]<;>rfl
def rSlL (K:W.Frag):V->Option Int->Option Int->Hp->VK->Prop:=fun x lo hi H Q=>∃ a xs,x=.ref a/\SqL K H a xs/\∀ p,H p=none->Q (.ref p) (upd H p (.lst (cutV xs lo hi)))
theorem x3i:SlR X (rSlL X.K):=by
 intro pins s σ H x v vl vu lo hi sl Q I rx hs pl pu h
 obtain⟨a,xs,rfl,hx,q⟩:=h
 cases rx
 obtain⟨its,r,ht,hz⟩:=I.list hx
 have hlen:=r.length
 refine⟨"list",_,slot_list_getitem.lookup,ht.isList.typeIs,?_⟩
 refine wpAny_getItem_list_slice ht.isList hs pl pu .none (by simp) ?_ (by rw[List.size_toArray]<;>omega)
 rw[y4c,←hlen]
 refine⟨.ref s.heap.objs.size,_,I.laid (t':=s.toks) (o:=.lst (cutV xs lo hi)) (fun b ob q=>Heap.get?_push_of_some _ q) (Nat.le_refl _) ?_,rfl,q _ (I.hok.fresh (Nat.le_refl _))⟩
 exact⟨Nat.le_trans (y2e xs lo hi) hz,_,0,(r.drop (HT.sIx xs.length 0 lo)).take (HT.sIx xs.length xs.length hi - HT.sIx xs.length 0 lo),Heap.get?_push_size _ rfl⟩
def flatV:V->Bool
 | .non=>true
 | .bl _=>true
 | .int _=>true
 | .str _=>true
 | _=>false
def eqV:V->V->Bool
 | .non,.non=>true
 | .bl a,.bl b=>a == b
 | .bl a,.int b=>(if a then 1 else 0) == b
 | .int a,.bl b=>a == (if b then 1 else 0)
 | .int a,.int b=>a == b
 | .str a,.str b=>a == b
 | _,_=>false
theorem x9h {A:Around} {s:Shared} {y x:V} {u v:Value} (ry:RelV y u) (rx:RelV x v) (fy:flatV y=true) (fx:flatV x=true):SeqAt.EqAt A s u v (eqV y x):=by
 cases y with
 | non =>
  cases ry
  cases x with
  | non=>cases rx;exact SeqAt.EqAt.same _
  | bl b=>cases rx;exact SeqAt.EqAt.none_bool b
  | int b=>obtain⟨t,rfl⟩:=rx;exact SeqAt.EqAt.none_int b t
  | str b=>obtain⟨t,rfl⟩:=rx;exact SeqAt.EqAt.none_str b t
  | _=>exact absurd (show false=true from fx) Bool.false_ne_true
 | bl a =>
  cases ry
  cases x with
  | non=>cases rx;exact SeqAt.EqAt.bool_none a
  | bl b=>cases rx;exact SeqAt.EqAt.bool_bool a b
  | int b=>obtain⟨t,rfl⟩:=rx;exact SeqAt.EqAt.bool_int a b t
  | str b=>obtain⟨t,rfl⟩:=rx;exact SeqAt.EqAt.bool_str a b t
  | _=>exact absurd (show false=true from fx) Bool.false_ne_true
 | int a =>
  obtain⟨t',rfl⟩:=ry
  cases x with
  | non=>cases rx;exact SeqAt.EqAt.int_none a t'
  | bl b=>cases rx;exact SeqAt.EqAt.int_bool a t' b
  | int b=>obtain⟨t,rfl⟩:=rx;exact SeqAt.EqAt.int_int a t' b t
  | str b=>obtain⟨t,rfl⟩:=rx;exact SeqAt.EqAt.int_str a t' b t
  | _=>exact absurd (show false=true from fx) Bool.false_ne_true
 | str a =>
  obtain⟨t',rfl⟩:=ry
  cases x with
  | non=>cases rx;exact SeqAt.EqAt.str_none a t'
  | bl b=>cases rx;exact SeqAt.EqAt.str_bool a t' b
  | int b=>obtain⟨t,rfl⟩:=rx;exact SeqAt.EqAt.str_int a t' b t
  | str b=>obtain⟨t,rfl⟩:=rx;exact SeqAt.EqAt.str_str a t' b t
  | _=>exact absurd (show false=true from fx) Bool.false_ne_true
 | _=>exact absurd (show false=true from fy) Bool.false_ne_true
def eqU (x:V) (u:Value):Bool:=match u with
 | .none=>eqV .non x
 | .bool b=>eqV (.bl b) x
 | .int i _=>eqV (.int i) x
 | .str z _=>eqV (.str z) x
 | _=>false
theorem x9g {x y:V} {u:Value} (r:RelV y u) (f:flatV y=true):eqU x u=eqV y x:=by
 cases y with
 | non=>cases r;rfl
 | bl b=>cases r;rfl
 | int i=>obtain⟨t,rfl⟩:=r;rfl
 | str z=>obtain⟨t,rfl⟩:=r;rfl
 | _=>exact absurd (show false=true from f) Bool.false_ne_true
theorem y2j {x:V}:∀ {xs:List V} {us:List Value},Vals xs us->xs.all flatV=true->us.any (eqU x)=xs.any fun y=>eqV y x
 | _,_,.nil,_=>rfl
 | y::xs,u::us,.cons r t,f=>by
  rw[List.all_cons,Bool.and_eq_true]at f
  rw[List.any_cons,List.any_cons,x9g r f.1,y2j t f.2]
theorem z8v {A:Around} {s:Shared} {x:V} {v:Value} (rx:RelV x v) (fx:flatV x=true):∀ {xs:List V} {us:List Value},Vals xs us->xs.all flatV=true->∀ u∈us,SeqAt.EqAt A s u v (eqU x u)
 | _,_,.nil,_=>fun u hu=>by cases hu
 | y::xs,u::us,.cons r t,f=>fun u' hu=>by
  rw[List.all_cons,Bool.and_eq_true]at f
  rcases List.mem_cons.mp hu with rfl | hu
  ·rw[x9g r f.1];exact x9h r rx f.1 fx
  ·exact z8v rx fx t f.2 u' hu
def inV (x:V) (xs:List V):Bool:=xs.any fun y=>eqV y x
def rIn (K:W.Frag) (neg:Bool):R2:=fun x y H Q=>∃ p xs,y=.ref p/\(SqL K H p xs∨SqT K H p xs)/\flatV x=true/\xs.all flatV=true/\Q (.bl (if neg then !inV x xs else inV x xs)) H
theorem x4e:OpR X (compareOp .In) (rIn X.K false):=by
 intro pins s σ H x y v u Q I rx ry h
 obtain⟨p,xs,rfl,hq,fx,fs,q⟩:=h
 cases ry
 rcases hq with hq | hq
 ·obtain⟨its,r,pl,hz⟩:=I.list hq
  refine SeqAt.in_listAt (eqU x) pl.isList (fun w hw=>z8v rx fx r fs w (by simpa using hw)) ⟨.bl _,H,I,rfl,?_⟩
  rw[show its.toArray.any (eqU x)=its.any (eqU x) by simp,y2j r fs]
  exact q
 ·obtain⟨its,r,pl,hz⟩:=I.tuple hq
  refine SeqAt.in_tupleAt (eqU x) pl (fun w hw=>z8v rx fx r fs w (by simpa using hw)) ⟨.bl _,H,I,rfl,?_⟩
  rw[show its.toArray.any (eqU x)=its.any (eqU x) by simp,y2j r fs]
  exact q
theorem z6b:OpR X (compareOp .NotIn) (rIn X.K true):=by
 intro pins s σ H x y v u Q I rx ry h
 obtain⟨p,xs,rfl,hq,fx,fs,q⟩:=h
 cases ry
 rcases hq with hq | hq
 ·obtain⟨its,r,pl,hz⟩:=I.list hq
  refine SeqAt.notIn_listAt (eqU x) pl.isList (fun w hw=>z8v rx fx r fs w (by simpa using hw)) ⟨.bl _,H,I,rfl,?_⟩
  rw[show its.toArray.any (eqU x)=its.any (eqU x) by simp,y2j r fs]
  exact q
 ·obtain⟨its,r,pl,hz⟩:=I.tuple hq
  refine SeqAt.notIn_tupleAt (eqU x) pl (fun w hw=>z8v rx fx r fs w (by simpa using hw)) ⟨.bl _,H,I,rfl,?_⟩
  rw[show its.toArray.any (eqU x)=its.any (eqU x) by simp,y2j r fs]
  exact q
theorem z0v:CallR X (.builtin "len") (fun xs H Q=>∃ p ys,xs=[.ref p]/\(SqL X.K H p ys∨SqT X.K H p ys)/\Q (.int ys.length) H):=by
 intro pins s σ H xs us Q I r h
 obtain⟨p,ys,rfl,hq,q⟩:=h
 obtain⟨u,rfl,rx⟩:=vals1 r
 cases rx
 have hn:=y1t
 rcases hq with hq | hq
 ·obtain⟨its,r',pl,hz⟩:=I.list hq
  have hlen:=r'.length
  exact Calls.call_len_list pl.isList (by simp only[List.size_toArray]<;>omega) ⟨.int ys.length,H,I.tok _,⟨s.toks+1,by rw[List.size_toArray,hlen]⟩,q⟩
 ·obtain⟨its,r',pl,hz⟩:=I.tuple hq
  have hlen:=r'.length
  exact len_tuple pl (by simp only[List.size_toArray]<;>omega) ⟨.int ys.length,H,I.tok _,⟨s.toks+1,by rw[List.size_toArray,hlen]⟩,q⟩
theorem z7k:CallR X (.type "list") (fun xs H Q=>∃ p ys,xs=[.ref p]/\(SqL X.K H p ys∨SqT X.K H p ys)/\∀ l,H l=none->Q (.ref l) (upd H l (.lst ys))):=by
 intro pins s σ H xs us Q I r h
 obtain⟨p,ys,rfl,hq,q⟩:=h
 obtain⟨u,rfl,rx⟩:=vals1 r
 cases rx
 have fin:∀ (its:List Value),Vals ys its->ys.length<=sizeLine->∀ (h':Heap) (c':Nat),(∀ b o',s.heap.get? b=some o'->h'.get? b=some o') ->
  h'.get? s.heap.objs.size=some { cls:=.type "list",dict:=none,data:=.seq its.toArray c',slots:=#[] }->EP X pins σ Q (.ref s.heap.objs.size) { s with heap:=h' }:=fun its r' hz h' c' kp e =>
  ⟨.ref s.heap.objs.size,_,I.laid (t':=s.toks) kp (Nat.le_refl _) (show ObjOk X.prog X.w _ h' _ (.lst ys) from ⟨hz,its,c',r',e⟩),rfl,q _ (I.hok.fresh (Nat.le_refl _))⟩
 rcases hq with hq | hq
 ·obtain⟨its,r',pl,hz⟩:=I.list hq
  have hlen:=r'.length
  obtain⟨o,ho,hc,n,hd⟩:=pl.isList
  exact call_list_seq p (.inl rfl) ho hc hd (fun h' c' kp e=>fin its r' hz h' c' kp e) (by simp only[List.size_toArray]<;>omega)
 ·obtain⟨its,r',pl,hz⟩:=I.tuple hq
  have hlen:=r'.length
  obtain⟨o,ho,hc,n,hd⟩:=pl
  exact call_list_seq p (.inr rfl) ho hc hd (fun h' c' kp e=>fin its r' hz h' c' kp e) (by simp only[List.size_toArray]<;>omega)
def tyV (K:W.Frag) (T:String) (x:V) (H:Hp):Prop:=match x with
 | .str _=>T="str"
 | .int _=>T="int"
 | .ref p=>(T="list"/\∃ xs,SqL K H p xs)∨(T="tuple"/\∃ o,K.lookup p=some o/\o.cls=.type "tuple"/\o.dict=none) ∨
  (T="dict"/\((∃ kvs,H p=some (.dK kvs))∨∃ kvs,H p=some (.dT kvs)))∨(T="set"/\∃ S n,H p=some (.set S n))
 | _=>False
theorem x8r {pins:List (Addr × Obj)} {σ:St} {H:Hp} {s:Shared} {T:String} {x:V} {v:Value} (I:Inv X pins σ H s) (r:RelV x v) (ty:tyV X.K T x H) :
 s.TypeIs v T/\∀ a,v=.ref a->∃ ob,s.heap.get? a=some ob/\ob.dict=none:=by
 cases x with
 | str z =>
  obtain⟨t,rfl⟩:=r
  cases (show T="str" from ty)
  exact⟨typeIs_str s z t,fun _ e=>nomatch e⟩
 | int i =>
  obtain⟨t,rfl⟩:=r
  cases (show T="int" from ty)
  exact⟨typeIs_int s i t,fun _ e=>nomatch e⟩
 | ref p =>
  cases r
  rcases ty with ⟨rfl,xs,hq⟩ | ⟨rfl,o,hk,hc,hd⟩ | ⟨rfl,hk⟩ | ⟨rfl,S,n,hk⟩
  ·obtain⟨its,_,pl,_⟩:=I.list hq
   refine⟨pl.isList.typeIs,fun a e=>?_⟩
   cases e
   obtain⟨o,n,e,c,hd,_⟩:=pl
   exact⟨o,e,hd⟩
  ·refine⟨⟨o,I.kIn p o hk,hc⟩,fun a e=>?_⟩
   cases e
   exact⟨o,I.kIn _ o hk,hd⟩
  ·have z:∃ o,s.heap.get? p=some o/\o.ExactDict:=by
    rcases hk with ⟨kvs,hk⟩ | ⟨kvs,hk⟩
    ·obtain⟨_,_,_,_,o,_,_,e,ex,_⟩:=I.hok p _ hk
     exact⟨o,e,ex⟩
    ·obtain⟨_,_,_,_,o,_,_,e,ex,_⟩:=I.hok p _ hk
     exact⟨o,e,ex⟩
   obtain⟨o,e,ex⟩:=z
   refine⟨⟨o,e,ex.1⟩,fun a e2=>?_⟩
   cases e2
   exact⟨o,e,ex.2.1⟩
  ·obtain⟨o,_,_,_,e,ex,_⟩:=I.hok p _ hk
   refine⟨⟨o,e,ex.1⟩,fun a e2=>?_⟩
   cases e2
   exact⟨o,e,ex.2.1⟩
 | _=>exact False.elim ty
def tBM0 (K:W.Frag) (T:String) (r:V->List V->Hp->VK->Prop) (to:TE):TE:=fun σ H Q=>to σ H fun x H1=>tyV K T x H1/\r x [] H1 Q
def tBM (K:W.Frag) (T:String) (r:V->List V->Hp->VK->Prop) (to:TE) (t:TA):TE:=fun σ H Q=>to σ H fun x H1=>tyV K T x H1/\t σ H1 fun xs H2=>r x xs H2 Q
variable {o e:Expr} {es:List Expr} {to:TE} {t:TA} {name:Str} {apos cpos:Pos} {T id:String} {r:V->List V->Hp->VK->Prop}
theorem z4d (pa:PlainAttrs T) (slot:Slot T name id) (hty:typeOf (.builtin id)=pure (.type "method_descriptor")) (hm:MtR X id r) (ho:PE X o to)
 (hbase:attributeBase o name X.env (eval o X.env)=eval o X.env:=by rfl) (hline:(apos.endLine == cpos.line)=true:=by rfl):PE X (.Call (.Attribute o name apos) [] [] cpos) (tBM0 X.K T r to):=by
 intro pins s σ H Q I h
 refine wpAny_Call_method0_late hbase hline (thn (ho pins s σ H _ I h) fun v s1 ⟨x,H1,I1,r1,ty,q1⟩=>?_)
 obtain⟨h1,h2⟩:=x8r I1 r1 ty
 exact⟨T,id,pa,slot,hty,h1,h2,Calls.callWith_builtin rfl (PySem.evalArgs_none (hm pins s1 σ H1 x [] v [] Q I1 r1 .nil q1))⟩
theorem pe_bm (pa:PlainAttrs T) (slot:Slot T name id) (hty:typeOf (.builtin id)=pure (.type "method_descriptor")) (hm:MtR X id r) (ho:PE X o to) (ha:PA X (e::es) t)
 (hbase:attributeBase o name X.env (eval o X.env)=eval o X.env:=by rfl)
 (hfew:((backTo cpos (starEach (e::es) X.env)).all (fun x=>!x.1) && (backToKw cpos (keywordEach [] X.env)).all (fun x=>x.1.isSome)
  && decide ((e::es).length+([]:List Keyword).length+(if ([]:List Keyword).isEmpty then 0 else 1) < 30))=true:=by rfl)
 (hline:(apos.endLine == cpos.line)=true:=by rfl) (hs:starEach (e::es) X.env=(false,eval e X.env)::starEach es X.env:=by rfl) (hplain:(backTo cpos (starEach es X.env)).any (·.1)=false:=by rfl) :
 PE X (.Call (.Attribute o name apos) (e::es) [] cpos) (tBM X.K T r to t):=by
 intro pins s σ H Q I h
 refine wpAny_Call_method_late hbase hfew hline rfl (thn (ho pins s σ H _ I h) fun v s1 ⟨x,H1,I1,r1,ty,q1⟩=>?_)
 obtain⟨h1,h2⟩:=x8r I1 r1 ty
 refine⟨T,id,pa,slot,hty,h1,h2,?_⟩
 have hA:=ha cpos pins s1 σ H1 _ I1 q1
 rw[hs]at hA ⊢
 refine Calls.callWith_builtin (by show (false || (backTo cpos (starEach es X.env)).any (·.1))=false;rw[hplain]<;>rfl) (Calls.evalArgs_plain ?_)
 exact thn hA fun us s2 ⟨vs,H2,I2,r2,q2⟩=>hm pins s2 σ H2 x vs v us Q I2 r1 r2 q2
end
end L2
namespace L2
open PySem PySem.Spec PyProof.Rows
def MtM (X:Cx) (id:String) (r:V->List V->Hp->VK->Prop):Prop :=
 ∀ (pins:List (Addr × Obj)) (s:Shared) (σ:St) (H:Hp) (x:V) (xs:List V) (v:Value) (us:List Value) (Q:VK),Inv X pins σ H s->RelV x v->Vals xs us->r x xs H Q ->
  wpAny (model X.prog X.w) X.A (call (.builtin id) (v::us)) (EP X pins σ Q) X.xe s
theorem Vals.one:∀ {x:V} {us:List Value},Vals [x] us->∃ u,us=[u]/\RelV x u
 | _,_,.cons r .nil=>⟨_,rfl,r⟩
theorem Vals.two:∀ {x y:V} {us:List Value},Vals [x,y] us->∃ u v,us=[u,v]/\RelV x u/\RelV y v
 | _,_,_,.cons r (.cons q .nil)=>⟨_,_,rfl,r,q⟩
theorem Vals.zero:∀ {us:List Value},Vals [] us->us=[]
 | _,.nil=>rfl
theorem Vals.dropLast {xs:List V} {us:List Value} (h:Vals xs us):Vals xs.dropLast us.dropLast:=by
 induction h with
 | nil=>exact .nil
 | cons r t ih =>
  cases t with
  | nil=>exact .nil
  | cons q t'=>exact .cons r ih
theorem Vals.eraseIdx:∀ {xs:List V} {us:List Value} (i:Nat),Vals xs us->Vals (xs.eraseIdx i) (us.eraseIdx i)
 | _,_,_,.nil=>.nil
 | _,_,0,.cons _ t=>t
 | _,_,i+1,.cons r t=>.cons r (Vals.eraseIdx i t)
theorem Vals.reverse {xs:List V} {us:List Value} (h:Vals xs us):Vals xs.reverse us.reverse:=by
 induction h with
 | nil=>exact .nil
 | cons r t ih=>rw[List.reverse_cons,List.reverse_cons];exact Vals.append ih (.cons r .nil)
theorem x2p {α:Type} (l:List α):l.eraseIdx (l.length - 1)=l.dropLast:=by
 induction l with
 | nil=>rfl
 | cons a r ih =>
  cases r with
  | nil=>rfl
  | cons b r =>
   have e:(a::b::r).length - 1=((b::r).length - 1)+1:=by
    have h1:(a::b::r).length=r.length+2:=rfl
    have h2:(b::r).length=r.length+1:=rfl
    omega
   rw[e,List.eraseIdx_cons_succ,ih]
   all_goals rfl
section
variable {X:Cx} {pins:List (Addr × Obj)} {σ:St} {H:Hp} {s:Shared} {l b:Addr} {xs ys zs:List V}
theorem Inv.lset {its its':List Value} {n:Nat} {f:Array Value->Array Value} {t':Nat} (I:Inv X pins σ H s) (hH:H l=some (.lst xs))
 (e:s.heap.get? l=some { cls:=.type "list",data:=.seq its.toArray n }) (hf:f its.toArray=its'.toArray) (hv:Vals ys its') (hz:ys.length<=sizeLine) :
 Inv X pins σ (upd H l (.lst ys)) { s with heap:=s.heap.update l (Obj.mapSeq f),toks:=t' }:=by
 have q:=PySem.IsL.update e f
 rw[hf]at q
 refine I.write (x:=l) (e:=l) (by rw[hH];exact trivial) (.inl rfl) (fun b' u hb hu=>(Heap.get?_update_other s.heap (Obj.mapSeq f) (Ne.symm hb)).trans hu) ⟨_,q⟩ ?_
 exact⟨hz,its',_,hv,q⟩
theorem Inv.lnew {its:List Value} {t':Nat} (I:Inv X pins σ H s) (hv:Vals ys its) (hz:ys.length<=sizeLine) :
 Inv X pins σ (upd H s.heap.objs.size (.lst ys)) { s with heap:=s.heap.push { cls:=.type "list",data:=.seq its.toArray },toks:=t' } :=
 I.laid (fun _ _ q=>Heap.get?_push_of_some _ q) (Nat.le_refl _) ⟨hz,its,0,hv,Heap.get?_push_size _ rfl⟩
theorem Inv.fresh (I:Inv X pins σ H s):H s.heap.objs.size=none:=I.hok.fresh (Nat.le_refl _)
theorem Inv.lstM (I:Inv X pins σ H s) (hH:H l=some (.lst xs)):xs.length<=sizeLine/\∃ (its:List Value) (n:Nat),Vals xs its/\xs.length=its.length/\s.heap.get? l=some { cls:=.type "list",data:=.seq its.toArray n }:=by
 obtain⟨z,its,n,r,e⟩:=I.hok l _ hH
 exact⟨z,its,n,r,r.length,e⟩
theorem x0f {n:Nat} (h:n<=sizeLine):Builtin.List.listTooLong n=false:=by
 unfold Builtin.List.listTooLong
 exact decide_eq_false (by omega)
end
section
variable {X:Cx}
def x9u:V->List V->Hp->VK->Prop:=fun x vs H Q=>∃ l xs y,x=.ref l/\vs=[y]/\H l=some (.lst xs)/\xs.length < sizeLine/\Q .non (upd H l (.lst (xs++[y])))
theorem z0z:MtM X "list.append" x9u:=by
 intro pins s σ H x vs v us Q I rx rv h
 obtain⟨l,xs,y,rfl,rfl,hH,hz,q⟩:=h
 cases rx
 obtain⟨u,rfl,ru⟩:=rv.one
 obtain⟨z,its,n,r,hl,e⟩:=I.lstM hH
 refine call_meets F.slot_list_append ⟨_,e,rfl⟩ F.entry_list_append (F.args_list_append_2 _ _) (PySem.list_append l its.toArray n u (by rw[List.size_toArray];omega)) ⟨e,?_⟩
 refine⟨.non,_,I.lset (its':=its++[u]) hH e (by simp) (r.append (.cons ru .nil)) ?_,rfl,q⟩
 rw[List.length_append,List.length_singleton]
 omega
def x9t:V->List V->Hp->VK->Prop:=fun x vs H Q=>∃ l b xs zs,x=.ref l/\vs=[.ref b]/\H l=some (.lst xs)/\H b=some (.lst zs)/\xs.length+zs.length<=sizeLine/\Q .non (upd H l (.lst (xs++zs)))
theorem x4x:MtM X "list.extend" x9t:=by
 intro pins s σ H x vs v us Q I rx rv h
 obtain⟨l,b,xs,zs,rfl,rfl,hH,hB,hz,q⟩:=h
 cases rx
 obtain⟨u,rfl,ru⟩:=rv.one
 cases ru
 obtain⟨z,its,n,r,hl,e⟩:=I.lstM hH
 obtain⟨z2,its2,n2,r2,hl2,e2⟩:=I.lstM hB
 have hsz:its.toArray.size+its2.toArray.size<=sizeLine:=by rw[List.size_toArray,List.size_toArray];omega
 have hlong:¬ (!its.toArray.isEmpty && Builtin.List.listTooLong (its.toArray.size+its2.toArray.size))=true:=by
  rw[x0f hsz,Bool.and_false]
  exact Bool.false_ne_true
 refine call_meets F.slot_list_extend ⟨_,e,rfl⟩ F.entry_list_extend (F.args_list_extend_2 _ _)
  (AutoSeq1.list_extend_list_list_0 l its.toArray n b its2.toArray n2 hlong (by rw[List.size_toArray];omega) (by omega)) ⟨e,e2,?_⟩
 refine⟨.non,_,I.lset (its':=its++its2) hH e (by simp) (r.append r2) ?_,rfl,q⟩
 rw[List.length_append]
 omega
def rPop:V->List V->Hp->VK->Prop:=fun x vs H Q=>∃ l xs y,x=.ref l/\vs=[]/\H l=some (.lst xs)/\xs[xs.length - 1]?=some y/\Q y (upd H l (.lst xs.dropLast))
theorem z4e:MtM X "list.pop" rPop:=by
 intro pins s σ H x vs v us Q I rx rv h
 obtain⟨l,xs,y,rfl,rfl,hH,hy,q⟩:=h
 cases rx
 have hus:=rv.zero
 subst hus
 obtain⟨z,its,n,r,hl,e⟩:=I.lstM hH
 obtain⟨u,hu,ru⟩:=r.get hy
 have hy':its.toArray[its.toArray.size - 1]?=some u:=by
  show its.toArray[its.length - 1]?=some u
  rw[←Array.getElem?_toList,←hl]
  exact hu
 refine call_meets F.slot_list_pop ⟨_,e,rfl⟩ F.entry_list_pop (F.args_list_pop_1 _) (MeetsSeq.list_pop_last l its.toArray n u hy' (by rw[List.size_toArray];omega)) ⟨e,?_⟩
 refine⟨y,_,I.lset (its':=its.dropLast) hH e ?_ r.dropLast ?_,ru,q⟩
 ·show its.toArray.eraseIdxIfInBounds (its.toArray.size - 1)=its.dropLast.toArray
  rw[List.size_toArray,List.eraseIdxIfInBounds_toArray,x2p]
 ·rw[List.length_dropLast]
  omega
def rCat:R2:=fun x y H Q=>∃ l b xs zs,x=.ref l/\y=.ref b/\H l=some (.lst xs)/\H b=some (.lst zs)/\xs.length+zs.length<=sizeLine/\∀ p,H p=none->Q (.ref p) (upd H p (.lst (xs++zs)))
theorem y3a:OpR X (binaryOp .Add) rCat:=by
 intro pins s σ H x y v u Q I rx ry h
 obtain⟨l,b,xs,zs,rfl,rfl,hH,hB,hz,q⟩:=h
 cases rx
 cases ry
 obtain⟨z,its,n,r,hl,e⟩:=I.lstM hH
 obtain⟨z2,its2,n2,r2,hl2,e2⟩:=I.lstM hB
 refine PySem.P.add_list e e2 ?_ (by rw[List.size_toArray,List.size_toArray];omega)
 have ea:its.toArray++its2.toArray=(its++its2).toArray:=by simp
 rw[ea]
 exact⟨.ref _,_,I.lnew (t':=s.toks) (r.append r2) (by rw[List.length_append];omega),rfl,q _ I.fresh⟩
end
section
variable {prog:Program} {w:World} {A:Around} {E:Value->Shared->Prop} {s:Shared}
set_option maxRecDepth 100000 in
end
section
variable {X:Cx}
end
end L2
namespace L2
open PySem PySem.Spec PyProof.Rows
section
variable {κ:Type} [DecidableEq κ]
def valV (kvs:List (κ × V)) (k:κ):Option V:=(kvs.find? fun kv=>decide (kv.1=k)).map (·.2)
def putK (kvs:List (κ × V)) (k:κ) (v:V):List (κ × V) :=
 if (kvs.any fun kv=>decide (kv.1=k))=true then kvs.map (fun kv=>if kv.1=k then (kv.1,v) else kv) else kvs++[(k,v)]
def dropK (kvs:List (κ × V)) (k:κ):List (κ × V):=kvs.filter fun kv=>decide (kv.1≠k)
theorem y0j {p:κ × V} {r:List (κ × V)} {k:κ} (e:p.1=k):valV (p::r) k=some p.2:=by simp[valV,List.find?_cons,e]
theorem y0k {p:κ × V} {r:List (κ × V)} {k:κ} (e:¬ p.1=k):valV (p::r) k=valV r k:=by simp[valV,List.find?_cons,e]
theorem y0l (k:κ):∀ kvs:List (κ × V),(kvs.any fun kv=>decide (kv.1=k))=(valV kvs k).isSome
 | []=>rfl
 | p::r=>by
  rw[List.any_cons]
  by_cases e:p.1=k
  ·simp only[y0j e,decide_eq_true e,Bool.true_or,Option.isSome_some]
  ·rw[y0k e,decide_eq_false e,Bool.false_or];exact y0l k r
theorem z8g (kvs:List (κ × V)) (k:κ) (v:V):(putK kvs k v).length<=kvs.length+1:=by
 unfold putK
 split
 ·rw[List.length_map];omega
 ·rw[List.length_append,List.length_cons,List.length_nil];omega
theorem x7e {kvs:List (κ × V)} {k:κ} (v:V) (h:valV kvs k=none):putK kvs k v=kvs++[(k,v)]:=by
 unfold putK
 rw[y0l,h]
 exact if_neg (by decide)
theorem RelO.isSome_eq {o:Option V} {u:Option Value} (r:RelO o u):o.isSome=u.isSome:=by
 cases o with
 | none=>cases u with
  | none=>rfl
  | some _=>exact (show False from r).elim
 | some _=>cases u with
  | none=>exact (show False from r).elim
  | some _=>rfl
theorem RelO.getD {o:Option V} {u:Option Value} {d:V} {d':Value} (r:RelO o u) (rd:RelV d d'):RelV (o.getD d) (u.getD d'):=by
 cases o with
 | none=>cases u with
  | none=>exact rd
  | some _=>exact (show False from r).elim
 | some _=>cases u with
  | none=>exact (show False from r).elim
  | some _=>exact r
theorem KV.val {kvs:List (κ × V)} {vs:List (κ × Value)} (r:KV kvs vs) (k:κ):RelO (valV kvs k) (valueAt vs k):=by
 unfold KV at r
 induction r with
 | nil=>exact True.intro
 | @cons p q ps qs h t ih =>
  obtain⟨h1,h2⟩:=h
  by_cases e:p.1=k
  ·have e':q.1=k:=h1.symm.trans e
   have b:valueAt (q::qs) k=some q.2:=by simp[valueAt,List.find?_cons,e']
   rw[y0j e,b];exact h2
  ·have e':¬ q.1=k:=fun z=>e (h1.trans z)
   have b:valueAt (q::qs) k=valueAt qs k:=by simp[valueAt,List.find?_cons,e']
   rw[y0k e,b];exact ih
theorem KV.any {kvs:List (κ × V)} {vs:List (κ × Value)} (r:KV kvs vs) (k:κ):(kvs.any fun kv=>decide (kv.1=k))=vs.any fun kv=>decide (kv.1=k):=by
 unfold KV at r
 induction r with
 | nil=>rfl
 | cons h t ih=>rw[List.any_cons,List.any_cons,ih,h.1]
theorem KV.repl {kvs:List (κ × V)} {vs:List (κ × Value)} (r:KV kvs vs) (k:κ) {y:V} {u:Value} (ry:RelV y u) :
 KV (kvs.map fun kv=>if kv.1=k then (kv.1,y) else kv) (vs.map fun kv=>if kv.1=k then (kv.1,u) else kv):=by
 unfold KV at r ⊢
 induction r with
 | nil=>exact .nil
 | @cons p q ps qs h t ih =>
  rw[List.map_cons,List.map_cons]
  refine .cons ?_ ih
  obtain⟨h1,h2⟩:=h
  by_cases e:p.1=k
  ·rw[if_pos e,if_pos (h1.symm.trans e)];exact⟨h1,ry⟩
  ·rw[if_neg e,if_neg (fun z=>e (h1.trans z))];exact⟨h1,h2⟩
theorem KV.put {kvs:List (κ × V)} {vs:List (κ × Value)} (r:KV kvs vs) (k:κ) {y:V} {u:Value} (ry:RelV y u):KV (putK kvs k y) (stored vs k u):=by
 unfold putK stored
 rw[r.any k]
 by_cases e:(vs.any fun kv=>decide (kv.1=k))=true
 ·rw[if_pos e,if_pos e];exact r.repl k ry
 ·rw[if_neg e,if_neg e];exact Paired.snoc r ⟨rfl,ry⟩
theorem KV.drop {kvs:List (κ × V)} {vs:List (κ × Value)} (r:KV kvs vs) (k:κ):KV (dropK kvs k) (without vs k):=by
 unfold KV at r ⊢
 unfold dropK without
 induction r with
 | nil=>exact .nil
 | @cons p q ps qs h t ih =>
  obtain⟨h1,h2⟩:=h
  rw[List.filter_cons,List.filter_cons]
  by_cases e:p.1=k
  ·have a:¬ decide (p.1≠k)=true:=by simp[e]
   have b:¬ decide (q.1≠k)=true:=by simp[h1.symm.trans e]
   rw[if_neg a,if_neg b];exact ih
  ·have e':¬ q.1=k:=fun z=>e (h1.trans z)
   have a:decide (p.1≠k)=true:=by simp[e]
   have b:decide (q.1≠k)=true:=by simp[e']
   rw[if_pos a,if_pos b];exact .cons ⟨h1,h2⟩ ih
theorem KV.keys {kvs:List (κ × V)} {vs:List (κ × Value)} (r:KV kvs vs):kvs.map (·.1)=vs.map (·.1):=by
 unfold KV at r
 induction r with
 | nil=>rfl
 | cons h t ih=>rw[List.map_cons,List.map_cons,ih,h.1]
theorem KV.length {kvs:List (κ × V)} {vs:List (κ × Value)} (r:KV kvs vs):kvs.length=vs.length:=Paired.length r
theorem x8f (kvs:List (κ × V)) (k:κ):(dropK kvs k).length<=kvs.length:=List.length_filter_le _ _
end
theorem kV_is {P:Program} {w:World} {k:Key} {u:Value} (r:RelV (kV k) u):(z1q P w).is k u=true:=by
 cases k with
 | inl i=>obtain⟨t,e⟩:=(show ∃ t,u=Value.int i t from r);subst e;exact y8y P w i t
 | inr x=>obtain⟨t,e⟩:=(show ∃ t,u=Value.str x t from r);subst e;exact y8x P w x t
theorem y6v {P:Program} {w:World}:∀ {ks:List Key} {us:List Value},Vals (ks.map kV) us->ItemsAre (z1q P w) ks us
 | [],_,r=>by rw[List.map_nil]at r;cases r;exact .nil
 | k::ks,_,r=>by
  rw[List.map_cons]at r
  cases r with
  | cons h t=>exact .cons (kV_is h) (y6v t)
abbrev KT (H:Hp):List (List Key × V)->List (List Key × Addr × Value)->Prop:=Paired fun p q=>p.1=q.1/\H q.2.1=some (.tup (p.1.map kV))/\RelV p.2 q.2.2
theorem KT.val {H:Hp} {kvs:List (List Key × V)} {xs:List (List Key × Addr × Value)} (r:KT H kvs xs) (k:List Key):RelO (valV kvs k) ((atKey xs k).map (·.2)):=by
 induction r with
 | nil=>exact True.intro
 | @cons p q ps qs h t ih =>
  obtain⟨h1,_,h2⟩:=h
  by_cases e:p.1=k
  ·have e':q.1=k:=h1.symm.trans e
   have b:atKey (q::qs) k=some q.2:=by simp[atKey,List.find?_cons,e']
   rw[y0j e,b];exact h2
  ·have e':¬ q.1=k:=fun z=>e (h1.trans z)
   have b:atKey (q::qs) k=atKey qs k:=by simp[atKey,List.find?_cons,e']
   rw[y0k e,b];exact ih
theorem KT.repl {H:Hp} {kvs:List (List Key × V)} {xs:List (List Key × Addr × Value)} (r:KT H kvs xs) (k:List Key) {y:V} {u:Value} (ry:RelV y u) :
 KT H (kvs.map fun kv=>if kv.1=k then (kv.1,y) else kv) (xs.map (putAt k u)):=by
 induction r with
 | nil=>exact .nil
 | @cons p q ps qs h t ih =>
  rw[List.map_cons,List.map_cons]
  refine .cons ?_ ih
  obtain⟨h1,h2,h3⟩:=h
  unfold putAt
  by_cases e:p.1=k
  ·rw[if_pos e,if_pos (h1.symm.trans e)];exact⟨h1,h2,ry⟩
  ·rw[if_neg e,if_neg (fun z=>e (h1.trans z))];exact⟨h1,h2,h3⟩
theorem KT.put {H:Hp} {kvs:List (List Key × V)} {xs:List (List Key × Addr × Value)} (r:KT H kvs xs) (k:List Key) {b:Addr} {y:V} {u:Value} (hb:H b=some (.tup (k.map kV))) (ry:RelV y u) :
 KT H (putK kvs k y) (storedH xs k b u):=by
 have e:(kvs.any fun kv=>decide (kv.1=k))=(atKey xs k).isSome:=by
  rw[y0l,(r.val k).isSome_eq,Option.isSome_map]
 unfold putK storedH
 rw[e]
 by_cases q:(atKey xs k).isSome=true
 ·rw[if_pos q,if_pos q];exact r.repl k ry
 ·rw[if_neg q,if_neg q];exact Paired.snoc r ⟨rfl,hb,ry⟩
theorem KT.keeps {H H':Hp} {kvs:List (List Key × V)} {xs:List (List Key × Addr × Value)} (r:KT H kvs xs) (ht:∀ b ys,H b=some (.tup ys)->H' b=some (.tup ys)):KT H' kvs xs :=
 Paired.mapP r fun _ _ z=>⟨z.1,ht _ _ z.2.1,z.2.2⟩
section
variable {P:Program} {w:World} {H:Hp} {h:Heap} {a:Addr}
theorem rd_of {u:HO} (ok:HOk P w H h) (e:Rd H a u):ObjOk P w H h a u:=e.ok ok
theorem dk_rd {kvs:List (Key × V)} (ok:HOk P w H h) (e:Rd H a (.dK kvs)):kvs.length<=sizeLine/\(a == sysModules)=false/\∃ vs,KV kvs vs/\h.DictOf (z1q P w) a vs :=
 show ObjOk P w H h a (.dK kvs) from rd_of ok e
theorem dk_of {kvs:List (Key × V)} (ok:HOk P w H h) (e:H a=some (.dK kvs)):kvs.length<=sizeLine/\(a == sysModules)=false/\∃ vs,KV kvs vs/\h.DictOf (z1q P w) a vs:=dk_rd ok (.inl e)
theorem y6u {ks:List Key} (ok:HOk P w H h) (e:H a=some (.tup (ks.map kV))):(tupleKind (z1q P w)).is h ks a:=by
 obtain⟨_,its,r,o,h1,h2,n,h3⟩:=(show ObjOk P w H h a (.tup (ks.map kV)) from ok a _ e)
 exact⟨o,its.toArray,n,h1,h2,h3,by simpa using y6v r⟩
theorem dt_rd {kvs:List (List Key × V)} (ok:HOk P w H h) (e:Rd H a (.dT kvs)):kvs.length<=sizeLine/\(a == sysModules)=false /\
 ∃ xs,KT H kvs xs/\h.DictOfH (tupleKind (z1q P w)) a xs:=by
 obtain⟨z,y,xs,r,o,es,ep,h1,h2,h3,h4,h5⟩:=(show ObjOk P w H h a (.dT kvs) from rd_of ok e)
 refine⟨z,y,xs,r,o,es,ep,h1,h2,h3,h4,fun x hx=>?_,h5⟩
 have all:∀ {l:List (List Key × V)} {m:List (List Key × Addr × Value)},KT H l m->∀ x∈m,(tupleKind (z1q P w)).is h x.1 x.2.1:=by
  intro l m q
  induction q with
  | nil=>intro x hx;exact nomatch hx
  | @cons p q ps qs hq t ih =>
   intro x hx
   rcases List.mem_cons.mp hx with e | hx
   ·subst e
    exact y6u ok (by rw[←hq.1];exact hq.2.1)
   ·exact ih x hx
 exact all r x hx
theorem dt_of {kvs:List (List Key × V)} (ok:HOk P w H h) (e:H a=some (.dT kvs)):kvs.length<=sizeLine/\(a == sysModules)=false /\
 ∃ xs,KT H kvs xs/\h.DictOfH (tupleKind (z1q P w)) a xs:=dt_rd ok (.inl e)
end
def DGet (H:Hp) (a:Addr) (y:V) (r:Option V):Prop :=
 (∃ kvs k,Rd H a (.dK kvs)/\y=kV k/\r=valV kvs k)∨∃ kvs k b,Rd H a (.dT kvs)/\y=.ref b/\H b=some (.tup (k.map kV))/\r=valV kvs k
def DPut (H:Hp) (a:Addr) (y v:V) (H':Hp):Prop :=
 (∃ kvs k,H a=some (.dK kvs)/\y=kV k/\kvs.length < sizeLine/\H'=upd H a (.dK (putK kvs k v))) ∨
 ∃ kvs k b,H a=some (.dT kvs)/\y=.ref b/\H b=some (.tup (k.map kV))/\kvs.length < sizeLine/\H'=upd H a (.dT (putK kvs k v))
theorem DGet.k {H:Hp} {a:Addr} {kvs:List (Key × V)} {k:Key} (e:H a=some (.dK kvs)):DGet H a (kV k) (valV kvs k):=.inl ⟨kvs,k,.inl e,rfl,rfl⟩
theorem DGet.t {H:Hp} {a b:Addr} {kvs:List (List Key × V)} {k:List Key} (e:H a=some (.dT kvs)) (eb:H b=some (.tup (k.map kV))):DGet H a (.ref b) (valV kvs k):=.inr ⟨kvs,k,b,.inl e,rfl,eb,rfl⟩
theorem DPut.k {H:Hp} {a:Addr} {kvs:List (Key × V)} {k:Key} {v:V} (e:H a=some (.dK kvs)) (hl:kvs.length < sizeLine):DPut H a (kV k) v (upd H a (.dK (putK kvs k v))):=.inl ⟨kvs,k,e,rfl,hl,rfl⟩
theorem DPut.t {H:Hp} {a b:Addr} {kvs:List (List Key × V)} {k:List Key} {v:V} (e:H a=some (.dT kvs)) (eb:H b=some (.tup (k.map kV))) (hl:kvs.length < sizeLine) :
 DPut H a (.ref b) v (upd H a (.dT (putK kvs k v))):=.inr ⟨kvs,k,b,e,rfl,eb,hl,rfl⟩
section
variable {X:Cx} {pins:List (Addr × Obj)} {σ:St} {H:Hp} {s:Shared} {a:Addr} {y v:V} {u r:Value} {o:Option V} {A:Around} {E:Value->Shared->Prop}
theorem Inv.big (I:Inv X pins σ H s):sysModules < s.heap.objs.size:=by
 have h:mainGlobals < s.heap.objs.size:=(I.mod.glob.keeps I.bk).lt
 exact Nat.lt_trans (by decide) h
theorem d_in {Q:Value->Shared->Prop} (hu:A.units+1 < cLine) (I:Inv X pins σ H s) (g:DGet H a y o) (ry:RelV y u) (h:∀ s',Inv X pins σ H s'->Q (.bool o.isSome) s') :
 wpAny (model X.prog X.w) A (compareOp .In u (.ref a)) Q E s:=by
 rcases g with ⟨kvs,k,e,ey,l⟩ | ⟨kvs,k,b,e,ey,eb,l⟩
 ·subst ey
  obtain⟨z,hd,vs,rel,dd⟩:=dk_rd I.hok e
  refine wpAny_in_of (kV_is ry) hd dd.mapOf ?_
  rw[←(rel.val k).isSome_eq,←l]
  exact h _ (I.tok _)
 ·subst ey
  cases (show u=Value.ref b from ry)
  obtain⟨z,hd,xs,rel,dd⟩:=dt_rd I.hok e
  refine wpAny_in_heap (tupleKind_room_in1 hu) (y6u I.hok eb) hd dd ?_
  have q:=(rel.val k).isSome_eq
  rw[Option.isSome_map]at q
  rw[←q,←l]
  exact h _ (I.tok _)
theorem w0q {Q:Value->Shared->Prop} (hu:A.units+1 < cLine) (I:Inv X pins σ H s) (g:DGet H a y o) (ry:RelV y u) (h:∀ s',Inv X pins σ H s'->Q (.bool (!o.isSome)) s') :
 wpAny (model X.prog X.w) A (compareOp .NotIn u (.ref a)) Q E s:=by
 rcases g with ⟨kvs,k,e,ey,l⟩ | ⟨kvs,k,b,e,ey,eb,l⟩
 ·subst ey
  obtain⟨z,hd,vs,rel,dd⟩:=dk_rd I.hok e
  refine wpAny_notIn_of (kV_is ry) hd dd.mapOf ?_
  rw[←(rel.val k).isSome_eq,←l]
  exact h _ (I.tok _)
 ·subst ey
  cases (show u=Value.ref b from ry)
  obtain⟨z,hd,xs,rel,dd⟩:=dt_rd I.hok e
  refine wpAny_notIn_heap (tupleKind_room_in1 hu) (y6u I.hok eb) hd dd ?_
  have q:=(rel.val k).isSome_eq
  rw[Option.isSome_map]at q
  rw[←q,←l]
  exact h _ (I.tok _)
theorem y4w {h':Heap} {t':Nat} {ob:HO} (I:Inv X pins σ H s) (mu:Mut (H a)) (hs:Heap.SameBut a s.heap h') (he:∃ q,h'.get? a=some q) (new:ObjOk X.prog X.w (upd H a ob) h' a ob) :
 Inv X pins σ (upd H a ob) { s with heap:=h',toks:=t' } :=
 I.write (x:=a) (e:=a) mu (.inl rfl) (fun b q hb z=>(hs.2 b hb).trans z) he new
theorem x6e {P:Program} {w:World} {H':Hp} {h':Heap} {kvs:List (Key × V)} {vs:List (Key × Value)} (z:kvs.length<=sizeLine) (hd:(a == sysModules)=false) (rel:KV kvs vs) (dd:h'.DictOf (z1q P w) a vs) :
 ObjOk P w H' h' a (.dK kvs):=⟨z,hd,vs,rel,dd⟩
theorem x6j {H':Hp} {Q:Unit->Shared->Prop} (hu:A.units+1 < cLine) (I:Inv X pins σ H s) (g:DPut H a y v H') (ry:RelV y u) (rv:RelV v r) (h:∀ s',Inv X pins σ H' s'->Q () s') :
 wpAny (model X.prog X.w) A (setItem (.ref a) u r) Q E s:=by
 rcases g with ⟨kvs,k,e,ey,l,eH⟩ | ⟨kvs,k,b,e,ey,eb,l,eH⟩
 ·subst ey eH
  obtain⟨z,hd,vs,rel,dd⟩:=dk_of I.hok e
  have hz:vs.length<=sizeLine:=by rw[←rel.length];exact z
  have hl:(putK kvs k v).length<=sizeLine:=by have:=z8g kvs k v;omega
  refine wpAny_setItem_pairs (hsz:=hz) (kV_is ry) dd fun h' dd' hs=>h _ ?_
  have he:∃ q,h'.get? a=some q:=let ⟨q,_,_,hq,_⟩:=dd';⟨q,hq⟩
  exact y4w I (by rw[e];exact True.intro) hs he (x6e hl hd (rel.put k rv) dd')
 ·subst ey eH
  cases (show u=Value.ref b from ry)
  obtain⟨z,hd,xs,rel,dd⟩:=dt_of I.hok e
  have hz:xs.length<=sizeLine:=by rw[←Paired.length rel];exact z
  have hl:(putK kvs k v).length<=sizeLine:=by have:=z8g kvs k v;omega
  refine wpAny_setItem_heap (hsz:=hz) (tupleKind_room_in1 hu) (y6u I.hok eb) dd fun h' dd' hs=>h _ ?_
  obtain⟨q,es,ep,hq,h2,h3,h4,_,h5⟩:=dd'
  refine y4w I (by rw[e];exact True.intro) hs ⟨q,hq⟩ ⟨hl,hd,_,(rel.put k eb rv).keeps fun c ys ec=>?_,q,es,ep,hq,h2,h3,h4,h5⟩
  rw[z0g (ne_of ec e (fun z=>nomatch z))]
  exact ec
end
section
variable {X:Cx} {pins:List (Addr × Obj)} {σ:St} {H:Hp} {s:Shared} {a:Addr} {kvs:List (Key × V)} {k:Key} {u:Value} {A:Around} {E:Value->Shared->Prop}
theorem d_pop {v:V} {more:List Value} {Q:Value->Shared->Prop} (I:Inv X pins σ H s) (e:H a=some (.dK kvs)) (ry:RelV (kV k) u) (l:valV kvs k=some v) (hm:more=[]∨∃ x,more=[x])
 (h:∀ w' s',Inv X pins σ (upd H a (.dK (dropK kvs k))) s'->RelV v w'->Q w' s'):wpAny (model X.prog X.w) A (call (.builtin "dict.pop") (.ref a::u::more)) Q E s:=by
 obtain⟨z,hd,vs,rel,dd⟩:=dk_of I.hok e
 obtain⟨w',hw,rw'⟩:=RelO.some_of (v:=v) (o:=valueAt vs k) (by rw[←l];exact rel.val k)
 have hp:(keyPart u).isSome=true:=by
  cases k with
  | inl i=>obtain⟨t,q⟩:=(show ∃ t,u=Value.int i t from ry);subst q;rfl
  | inr x=>obtain⟨t,q⟩:=(show ∃ t,u=Value.str x t from ry);subst q;rfl
 have ha:argsOk "dict.pop" ⟨.ref a::u::more,[]⟩:=by
  rcases hm with q | ⟨x,q⟩
  ·subst q;exact PySem.F.args_dict_pop_2 _ _
  ·subst q;exact PySem.F.args_dict_pop_3 _ _ _
 refine call_meetsIn PySem.F.slot_dict_pop dd.typeIs PySem.F.entry_dict_pop ha (meets_dict_pop_there (z1q X.prog X.w) a (kV_is ry) more hm hp)
  ⟨vs,w',dd,by rw[←rel.length];exact z,hw,fun h' dd' hs=>h w' _ ?_ rw'⟩
 have he:∃ q,h'.get? a=some q:=let ⟨q,_,_,hq,_⟩:=dd';⟨q,hq⟩
 exact y4w I (by rw[e];exact True.intro) hs he (x6e (Nat.le_trans (x8f kvs k) z) hd (rel.drop k) dd')
theorem w2i {r:Value} {Q:Value->Shared->Prop} (I:Inv X pins σ H s) (e:H a=some (.dK kvs)) (ry:RelV (kV k) u) (l:valV kvs k=none) (h:∀ s',Inv X pins σ H s'->Q r s') :
 wpAny (model X.prog X.w) A (call (.builtin "dict.pop") [.ref a,u,r]) Q E s:=by
 obtain⟨z,hd,vs,rel,dd⟩:=dk_of I.hok e
 have hn:valueAt vs k=none:=RelO.none_of (by rw[←l];exact rel.val k)
 have hp:(keyPart u).isSome=true:=by
  cases k with
  | inl i=>obtain⟨t,q⟩:=(show ∃ t,u=Value.int i t from ry);subst q;rfl
  | inr x=>obtain⟨t,q⟩:=(show ∃ t,u=Value.str x t from ry);subst q;rfl
 exact call_meetsIn PySem.F.slot_dict_pop dd.typeIs PySem.F.entry_dict_pop (PySem.F.args_dict_pop_3 _ _ _) (meets_dict_pop_default (z1q X.prog X.w) a (kV_is ry) hd hp r) ⟨vs,dd,hn,h _ (I.tok _)⟩
end
def tDIn (ty td:TE):TE:=fun σ H Q=>ty σ H fun y H1=>td σ H1 fun x H2=>∃ a o,x=.ref a/\DGet H2 a y o/\Q (.bl o.isSome) H2
def x9o (ty td:TE):TE:=fun σ H Q=>ty σ H fun y H1=>td σ H1 fun x H2=>∃ a o,x=.ref a/\DGet H2 a y o/\Q (.bl (!o.isSome)) H2
def sDPut (td ty tv:TE):TS:=fun D σ H=>tv σ H fun v H1=>td σ H1 fun x H2=>ty σ H2 fun y H3=>∃ a H4,x=.ref a/\DPut H3 a y v H4/\D.nx σ H4
section
variable {X:Cx} {o i e value:Expr} {pos pos' tpos:Pos} {td ty tv:TE}
theorem x0c (hu:X.A.units+1 < cLine) (hi:PE X i ty) (ho:PE X o td):PC X .In i o (tDIn ty td):=by
 intro pins s σ H Q I h
 refine thn (hi pins s σ H _ I h) fun iv s1 ⟨y,H1,I1,ry,q1⟩=>thn (ho pins s1 σ H1 _ I1 q1) fun u s2 ⟨x,H2,I2,rx,a,ov,ex,g,q2⟩=>?_
 subst ex
 obtain rfl:u=Value.ref a:=rx
 exact d_in hu I2 g ry fun s3 I3=>⟨.bl ov.isSome,H2,I3,rfl,q2⟩
theorem z6h (hu:X.A.units+1 < cLine) (hi:PE X i ty) (ho:PE X o td):PC X .NotIn i o (x9o ty td):=by
 intro pins s σ H Q I h
 refine thn (hi pins s σ H _ I h) fun iv s1 ⟨y,H1,I1,ry,q1⟩=>thn (ho pins s1 σ H1 _ I1 q1) fun u s2 ⟨x,H2,I2,rx,a,ov,ex,g,q2⟩=>?_
 subst ex
 obtain rfl:u=Value.ref a:=rx
 exact w0q hu I2 g ry fun s3 I3=>⟨.bl (!ov.isSome),H2,I3,rfl,q2⟩
theorem y4h (hu:X.A.units+1 < cLine) (ho:PE X o td) (hi:PE X i ty) (hv:PE X value tv) (hs:swapsWith value (some (.Subscript o i pos')) pos.line X.env=pure false) :
 PS X (.Assign [.Subscript o i pos'] value pos) (sDPut td ty tv):=by
 intro pins s σ H D I h
 refine wpAny_Assign_Subscript (thn (hv pins s σ H _ I h) fun r s1 ⟨v,H1,I1,rv,q1⟩=>thn (ho pins s1 σ H1 _ I1 q1) fun u s2 ⟨x,H2,I2,rx,q2⟩=>thn (hi pins s2 σ H2 _ I2 q2) fun iv s3 ⟨y,H3,I3,ry,a,H4,ex,g,q3⟩=>?_) hs
 subst ex
 obtain rfl:u=Value.ref a:=rx
 exact x6j hu I3 g ry rv fun s4 I4=>⟨σ,H4,I4,q3⟩
end
theorem x8g {P:Program} {w:World} {H:Hp} (h:Heap) (hb:sysModules < h.objs.size):ObjOk P w H (h.push { cls:=.type "dict",data:=.dict #[] }) h.objs.size (.dK []) :=
 ⟨Nat.zero_le _,beq_eq_false_iff_ne.mpr (Ne.symm (Nat.ne_of_lt hb)),[],.nil,Heap.DictOf.new h⟩
def w1f:TE:=fun _ H Q=>∀ p,H p=none->Q (.ref p) (upd H p (.dK []))
section
variable {X:Cx} {pos:Pos}
theorem z8q:PE X (.Dict [] [] pos) w1f:=fun pins s σ H Q I h =>
 wpAny_Dict_empty ⟨.ref s.heap.objs.size,_,I.laid (a:=s.heap.objs.size) (o:=.dK []) (t':=s.toks) (fun _ _ q=>Heap.get?_push_of_some _ q) (Nat.le_refl _) (x8g s.heap I.big),rfl,h _ (I.hok.fresh (Nat.le_refl _))⟩
end
structure M1 (X:Cx) (o:Expr) (m:Str) (apos:Pos) (e:Expr) (cpos:Pos):Prop where
 base:attributeBase o m X.env (eval o X.env)=eval o X.env
 few:((backTo cpos (starEach [e] X.env)).all (fun x=>!x.1) && (backToKw cpos (keywordEach [] X.env)).all (fun x=>x.1.isSome)
  && decide (([e]:List Expr).length+([]:List Keyword).length+(if ([]:List Keyword).isEmpty then 0 else 1) < 30))=true
 line:(apos.endLine == cpos.line)=true
 trees:backTo cpos (starEach [e] X.env)=[(false,eval e X.env)]
structure M2 (X:Cx) (o:Expr) (m:Str) (apos:Pos) (e f:Expr) (cpos:Pos):Prop where
 base:attributeBase o m X.env (eval o X.env)=eval o X.env
 few:((backTo cpos (starEach [e,f] X.env)).all (fun x=>!x.1) && (backToKw cpos (keywordEach [] X.env)).all (fun x=>x.1.isSome)
  && decide (([e,f]:List Expr).length+([]:List Keyword).length+(if ([]:List Keyword).isEmpty then 0 else 1) < 30))=true
 line:(apos.endLine == cpos.line)=true
 trees:backTo cpos (starEach [e,f] X.env)=[(false,eval e X.env),(false,eval f X.env)]
def IsD (H:Hp) (a:Addr):Prop:=(∃ kvs,Rd H a (.dK kvs))∨∃ kvs,Rd H a (.dT kvs)
theorem x0o {X:Cx} {pins:List (Addr × Obj)} {σ:St} {H:Hp} {s:Shared} {a:Addr} (I:Inv X pins σ H s) (d:IsD H a) :
 s.TypeIs (.ref a) "dict"/\(∀ b,Value.ref a=.ref b->∃ ob,s.heap.get? b=some ob/\ob.dict=none)/\(a == sysModules)=false:=by
 rcases d with ⟨kvs,e⟩ | ⟨kvs,e⟩
 ·obtain⟨_,hd,vs,_,dd⟩:=dk_rd I.hok e
  refine⟨dd.typeIs,fun b q=>?_,hd⟩
  cases q
  obtain⟨ob,_,_,h1,h2,_⟩:=dd
  exact⟨ob,h1,h2.2.1⟩
 ·obtain⟨_,hd,xs,_,dd⟩:=dt_rd I.hok e
  refine⟨dd.typeIs,fun b q=>?_,hd⟩
  cases q
  obtain⟨ob,_,_,h1,h2,_⟩:=dd
  exact⟨ob,h1,h2.2.1⟩
section
variable {X:Cx} {pins:List (Addr × Obj)} {σ:St} {H:Hp} {s:Shared} {a:Addr} {y d:V} {u r:Value} {o:Option V} {A:Around} {E:Value->Shared->Prop}
theorem w2j {Q:Value->Shared->Prop} (hu:A.units+1 < cLine) (I:Inv X pins σ H s) (g:DGet H a y o) (ry:RelV y u) (rd:RelV d r) (h:∀ w' s',Inv X pins σ H s'->RelV (o.getD d) w'->Q w' s') :
 wpAny (model X.prog X.w) A (call (.builtin "dict.get") [.ref a,u,r]) Q E s:=by
 rcases g with ⟨kvs,k,e,ey,l⟩ | ⟨kvs,k,b,e,ey,eb,l⟩
 ·subst ey
  obtain⟨z,hd,vs,rel,dd⟩:=dk_rd I.hok e
  refine call_meetsIn PySem.F.slot_dict_get dd.typeIs PySem.F.entry_dict_get (PySem.F.args_dict_get_3 _ _ _) (meets_dict_get_default (z1q X.prog X.w) a (kV_is ry) hd r) ⟨_,dd.mapOf,h _ _ (I.tok _) ?_⟩
  rw[l]
  exact (rel.val k).getD rd
 ·subst ey
  cases (show u=Value.ref b from ry)
  obtain⟨z,hd,xs,rel,dd⟩:=dt_rd I.hok e
  refine call_meetsIn PySem.F.slot_dict_get dd.typeIs PySem.F.entry_dict_get (PySem.F.args_dict_get_3 _ _ _) (meetsH_dict_get_default (tupleKind (z1q X.prog X.w)) a b hd r) ⟨tupleKind_room_in1 hu,k,xs,y6u I.hok eb,dd,h _ _ (I.tok _) ?_⟩
  rw[l]
  exact (rel.val k).getD rd
end
def w1g (td ty tx:TE):TE:=fun σ H Q=>td σ H fun x H1=>∃ a,x=.ref a/\IsD H1 a/\ty σ H1 fun y H2=>tx σ H2 fun z H3=>∃ o,DGet H3 a y o/\Q (o.getD z) H3
def w1e (td ty:TE):TE:=fun σ H Q=>td σ H fun x H1=>∃ a,x=.ref a/\IsD H1 a/\ty σ H1 fun y H2=>∃ kvs k v,H2 a=some (.dK kvs)/\y=kV k/\valV kvs k=some v/\Q v (upd H2 a (.dK (dropK kvs k)))
def w1d (td ty tx:TE):TE:=fun σ H Q=>td σ H fun x H1=>∃ a,x=.ref a/\IsD H1 a/\ty σ H1 fun y H2=>tx σ H2 fun z H3=>∃ kvs k,H3 a=some (.dK kvs)/\y=kV k /\
 (∀ v,valV kvs k=some v->Q v (upd H3 a (.dK (dropK kvs k))))/\(valV kvs k=none->Q z H3)
section
variable {X:Cx} {o e f:Expr} {apos cpos:Pos} {td ty tx:TE}
theorem x0b (hu:X.A.units+1 < cLine) (ho:PE X o td) (he:PE X e ty) (hf:PE X f tx) (m:M2 X o "get" apos e f cpos):PE X (.Call (.Attribute o "get" apos) [e,f] [] cpos) (w1g td ty tx):=by
 intro pins s σ H Q I h
 refine wpAny_Call_method m.base m.few m.line PySem.F.plainAttrs_dict PySem.F.slot_dict_get PySem.F.type_dict_get (thn (ho pins s σ H _ I h) fun u s1 ⟨x,H1,I1,rx,a,ex,d,q1⟩=>?_)
 subst ex
 obtain rfl:u=Value.ref a:=rx
 obtain⟨t1,t2,_⟩:=x0o I1 d
 refine⟨t1,t2,?_⟩
 rw[m.trees]
 refine Calls.callWith_builtin rfl (Calls.evalArgs_plain (Calls.spliced_cons (thn (he pins s1 σ H1 _ I1 q1) fun iv s2 ⟨y,H2,I2,ry,q2⟩ =>
  Calls.spliced_cons (thn (hf pins s2 σ H2 _ I2 q2) fun fv s3 ⟨z,H3,I3,rz,ov,g,q3⟩=>Calls.spliced_nil ?_))))
 exact w2j hu I3 g ry rz fun w' s4 I4 rw'=>⟨_,H3,I4,rw',q3⟩
theorem x7k (ho:PE X o td) (he:PE X e ty) (m:M1 X o "pop" apos e cpos):PE X (.Call (.Attribute o "pop" apos) [e] [] cpos) (w1e td ty):=by
 intro pins s σ H Q I h
 refine wpAny_Call_method m.base m.few m.line PySem.F.plainAttrs_dict PySem.F.slot_dict_pop PySem.F.type_dict_pop (thn (ho pins s σ H _ I h) fun u s1 ⟨x,H1,I1,rx,a,ex,d,q1⟩=>?_)
 subst ex
 obtain rfl:u=Value.ref a:=rx
 obtain⟨t1,t2,_⟩:=x0o I1 d
 refine⟨t1,t2,?_⟩
 rw[m.trees]
 refine Calls.callWith_builtin rfl (Calls.evalArgs_plain (Calls.spliced_cons (thn (he pins s1 σ H1 _ I1 q1) fun iv s2 ⟨y,H2,I2,ry,kvs,k,v,ea,ey,l,q2⟩=>Calls.spliced_nil ?_)))
 subst ey
 exact d_pop I2 ea ry l (.inl rfl) fun w' s3 I3 rw'=>⟨v,_,I3,rw',q2⟩
theorem x0a (ho:PE X o td) (he:PE X e ty) (hf:PE X f tx) (m:M2 X o "pop" apos e f cpos):PE X (.Call (.Attribute o "pop" apos) [e,f] [] cpos) (w1d td ty tx):=by
 intro pins s σ H Q I h
 refine wpAny_Call_method m.base m.few m.line PySem.F.plainAttrs_dict PySem.F.slot_dict_pop PySem.F.type_dict_pop (thn (ho pins s σ H _ I h) fun u s1 ⟨x,H1,I1,rx,a,ex,d,q1⟩=>?_)
 subst ex
 obtain rfl:u=Value.ref a:=rx
 obtain⟨t1,t2,_⟩:=x0o I1 d
 refine⟨t1,t2,?_⟩
 rw[m.trees]
 refine Calls.callWith_builtin rfl (Calls.evalArgs_plain (Calls.spliced_cons (thn (he pins s1 σ H1 _ I1 q1) fun iv s2 ⟨y,H2,I2,ry,q2⟩ =>
  Calls.spliced_cons (thn (hf pins s2 σ H2 _ I2 q2) fun fv s3 ⟨z,H3,I3,rz,kvs,k,ea,ey,q3,q4⟩=>Calls.spliced_nil ?_))))
 subst ey
 cases l:valV kvs k with
 | some v=>exact d_pop I3 ea ry l (.inr ⟨fv,rfl⟩) fun w' s4 I4 rw'=>⟨v,_,I4,rw',q3 v l⟩
 | none=>exact w2i I3 ea ry l fun s4 I4=>⟨z,H3,I4,rz,q4 l⟩
end
section
variable {X:Cx} {pins:List (Addr × Obj)} {σ:St} {H:Hp} {s:Shared} {a:Addr} {kvs:List (Key × V)} {A:Around} {E:Value->Shared->Prop}
end
section
variable {X:Cx} {pins:List (Addr × Obj)} {σ:St} {H:Hp} {s:Shared} {a:Addr} {y:V} {u:Value} {A:Around} {E:Value->Shared->Prop}
end
end L2
namespace Att
open PySem PySem.W PySem.Calls PyProof.Rows
theorem y1w {P:Params} {h:Heap}:∀ (ns:List Int) (vs:List Value),WellAll P h vs (ns.map WData.int)->IntsAre vs ns:=by
 intro ns
 induction ns with
 | nil =>
  intro vs w
  rw[List.map_nil]at w
  cases w
  exact .nil
 | cons n ns ih =>
  intro vs w
  rw[List.map_cons]at w
  cases w with
  | cons a b =>
   cases a
   exact .cons _ _ (ih _ b)
theorem x3m {l:OpenLaw} {n:Nat} (hn:l.most=some n) {P:Params} {h:Heap} {args:List WData} {vals:List Value}
 (hpre:l.row.toRowW.claim.pre args=true) (hwl:WellAll P h vals args) :
 ∃ a vs ns,vals=[Value.ref a]/\args=[WData.list (ns.map WData.int)]/\h.get? a=some { cls:=.type "list",data:=.seq vs.toArray }/\IntsAre vs ns/\ns.length<=n:=by
 have hsh:WShape.hasAll [] args [.list .int]=true:=(pre_splitW hpre).1
 have hc:l.pre.holds [] { args:=args }=true:=(pre_splitW hpre).2
 obtain⟨d,r,rfl,h1,h2⟩:=hasAllW_cons hsh
 obtain rfl:=hasAllW_nil h2
 obtain⟨xs,rfl,h3⟩:=hasW_list h1
 obtain⟨ns,rfl⟩:=items_int h3
 have hlen:ns.length<=n:=by
  unfold OpenLaw.pre at hc
  have h4:(WTm.not (.lt (.lit (.int (n:Int))) (.len (.arg 0)))).holds [] { args:=[.list (ns.map .int)] }=true:=by
   have h4:=(holds_andW hc).1
   rw[hn]at h4
   exact h4
  have h5:=condW_of h4 (w_not (w_lt w_lit (w_len_list (w_arg rfl))))
  rw[List.length_map]at h5
  refine Nat.le_of_not_lt fun q=>?_
  have q':(n:Int) < ((ns.length:Nat):Int):=by omega
  first
   | (rw[decide_eq_true q']at h5;exact absurd h5 (by decide))
   | (simp at h5;omega)
 cases hwl with
 | cons w1 w2 =>
  cases w2
  cases w1 with
  | list ho hall=>exact⟨_,_,ns,rfl,rfl,ho,y1w ns _ hall,hlen⟩
theorem x3x (l:OpenLaw) (args:List WData):l.row.toRowW.claim.post args (.bool true) args=true :=
 postW_of (r:=l.row.toRowW) (X:=(true == true))
  (show WShape.has [] (.bool true) .bool=true by first | rfl | decide | simp[WShape.has,WShape.arms,WShape.armsAll])
  (show (WTm.eq .res (.lit (.bool true))).value [] { args:=args,res:=some (.bool true),after:=args }=some (.bool (true == true)) from w_eq_bool (w_res rfl) w_lit) rfl
theorem attach_call {l:OpenLaw} {n:Nat} {q:Program} {loose:List Str} {XP:(Str->Option Value)->Heap->Prop} {YP:World->Heap->Prop} {d:DefRec}
 (hn:l.most=some n) (hdf:d.params.defaults=[])
 (call:∀ (w:World) (s₀ s₁:Shared) (mg mb:Str->Option Value) (fa:Addr) (o:Obj) (pm cd doc:Value) (a:Addr) (vs:List Value) (ns:List Int),
  Ground q loose [] XP w s₀ mg mb s₁.heap->YP w s₁.heap ->
  s₁.heap.get? fa=some o->o.data=.func (docDef d.name d.params d.body d.scope pm cd doc)->s₁.heap.CodeRec cd d.name->mg d.name=some (.ref fa) ->
  s₁.heap.get? a=some { cls:=.type "list",data:=.seq vs.toArray }->IntsAre vs ns->ns.length<=n->s₁.gens=#[] ->
  codeAny (model l.prog w) callerA (.call (.ref fa) ⟨[.ref a],[]⟩) (fun r s'=>r=.ok (.ret (.bool true))/\OldK s₁.heap s'.heap/\s'.os=s₁.os/\AllBare s'.gens) s₁) :
 WalkO q loose XP YP l.row.toRowW d [] (fun f vs=>PySem.call f vs):=by
 intro w s₀ s₁ mg mb G Y fa o pm cd doc dV kV ho hd hcd hD hmg hg args vals as hpre hlay hrd hwl hlo
 obtain rfl:dV=.none:=Dflts.none hD hdf
 obtain rfl:kV=.none:=Dflts.noKw hD
 obtain⟨a,vs,ns,rfl,rfl,hobj,hints,hlen⟩:=x3m hn hpre hwl
 refine enter_call (codeAny_mono (call w s₀ s₁ mg mb fa o pm cd doc a vs ns G Y ho (fd_plain hd) hcd hmg hobj hints hlen hg) fun r s' hq=>?_)
 obtain⟨rfl,h2,h3,h4⟩:=hq
 exact⟨.inl ⟨.bool true,.bool true,[],rfl,fun _=>rfl,.bool true,x3x l _,fun _=>⟨List.Pairwise.nil,fun _ hm=>(nomatch hm)⟩⟩,h2,h3,h4⟩
section
variable {prog:Program} {w:World} {A:Around} {E:Value->Shared->Prop} {s:Shared} {K:Frag}
end
end Att
namespace L2
open PySem PySem.Spec PyProof.Rows
theorem y0y:∀ {vs:List Value} {ns:List Int},IntsAre vs ns->Vals (ns.map V.int) vs
 | _,_,.nil=>.nil
 | _,_,.cons n t h=>.cons ⟨t,rfl⟩ (y0y h)
def Only (H:Hp):Prop:=∀ b,H b=none∨∃ o xs,H b=some (.frz o (.lst xs))
theorem x7x {P:Program} {w:World} {K:W.Frag} {mg mb:Str->Option Value} {CX:CXT} {k:Nat} {fa a:Addr} {fd:FuncData} {x:Str} {sp:Sp} {s₁:Shared} {vs:List Value} {ns:List Int}
 (KX:K.In s₁.heap) (hns:s₁.heap.Ns mainGlobals mg) (hb:s₁.heap.Ns builtinsNs mb) (hbb:∀ x:Str,x≠"__name__"->mb x=bootBuiltins x) (hlim:s₁.heap.NoLimit) (hg:s₁.gens=#[])
 (ha:s₁.heap.get? a=some { cls:=.type "list",data:=.seq vs.toArray }) (hi:IntsAre vs ns) (hl:ns.length<=sizeLine) (hr:Room k callerA)
 (F:∀ base:Heap,K.In base->base.Ns mainGlobals mg->FnOk P w K mg base CX k fa fd [x] sp) (hbind:∀ (s:Shared) (u:Value),BindsTo s fd ⟨[u],[]⟩ [(x,u)])
 (hsp:∀ H:Hp,Only H->SqL K H a (ns.map V.int)->sp [.ref a] H (fun v _=>v=.bl true) fun _ _ _=>False)
 (hCX:∀ H e s',CX [] H s₁ (fun _ _ _=>False) e s'->False) :
 codeAny (model P w) callerA (.call (.ref fa) ⟨[.ref a],[]⟩) (fun r s'=>r=.ok (.ret (.bool true))/\OldK s₁.heap s'.heap/\s'.os=s₁.os/\AllBare s'.gens) s₁:=by
 have rv:=y0y hi
 have lenV:=hi.length
 have core:∀ H:Hp,Only H->SqL K H a (ns.map V.int)->HOk P w H s₁.heap->(∀ b,H b≠none->b=a)->(H a≠none->K.lookup a=none) ->
  codeAny (model P w) callerA (.call (.ref fa) ⟨[.ref a],[]⟩) (fun r s'=>r=.ok (.ret (.bool true))/\OldK s₁.heap s'.heap/\s'.os=s₁.os/\AllBare s'.gens) s₁:=by
  intro H hO hS hok hA hK
  have base_of:∀ {b:Addr} {o:Obj},s₁.heap.get? b=some o->H b=none->(hidT s₁.heap H).get? b=some o:=fun e n=>x8a e n
  have noA:∀ {b:Addr} {o:Obj} {es:Array DictEntry} {ep:Nat},s₁.heap.get? b=some o->o.data=.dict es ep->H b=none:=fun {b o es ep} e d=>by
   cases q:H b with
   | none=>rfl
   | some u =>
    have e':b=a:=hA b (by rw[q];simp)
    subst e'
    rw[ha]at e;cases e
    have d':Data.seq vs.toArray _=Data.dict es ep:=d
    cases d'
  have nsK:∀ {b:Addr} {m:Str->Option Value},s₁.heap.Ns b m->(hidT s₁.heap H).Ns b m:=fun {b m} ⟨o,es,ep,e,d,r⟩=>⟨o,es,ep,base_of e (noA e d),d,r⟩
  have hKb:K.In (hidT s₁.heap H):=fun b o e=>base_of (KX b o e) (by
   cases q:H b with
   | none=>rfl
   | some u =>
    have e':b=a:=hA b (by rw[q];simp)
    subst e'
    rw[hK (by rw[q];simp)]at e;cases e)
  have hM:Mod K mg (hidT s₁.heap H):=⟨hKb,nsK hns,⟨mb,nsK hb,hbb⟩,let ⟨mc,h1,h2⟩:=hlim;⟨mc,nsK h1,h2⟩⟩
  have e0:Env0 P w K mg (hidT s₁.heap H) callerA [] s₁ H:=⟨rfl,hM,fun b o e=>w0d e,Nat.le_of_eq (x5p _ _),trivial,fun b hb=>absurd (show b∈([]:List Addr) from hb) (by simp),hok,.of_eq hg⟩
  refine codeAny_mono ((F _ hKb (nsK hns)).run callerA [] s₁ H ⟨[.ref a],[]⟩ [.ref a] [.ref a] _ _ hr e0 (hbind s₁ (.ref a)) (.cons rfl .nil) (hsp H hO hS)) fun r s' h=>?_
  cases r with
  | error e=>exact (hCX H e s' h).elim
  | ok fl =>
   cases fl with
   | next=>exact False.elim h
   | brk=>exact False.elim h
   | cont=>exact False.elim h
   | ret u =>
    obtain⟨v,H',os,bare,un,hok',r',q⟩:=h
    have q':v=.bl true:=q
    subst q'
    obtain rfl:u=Value.bool true:=r'
    refine⟨rfl,OldK.of_keep fun b o e=>?_,os,bare⟩
    cases q:H b with
    | none=>exact un.keep b o e q (by intro z;exact absurd (show b∈([]:List Addr) from z) (by simp)) (by simp)
    | some u =>
     rcases hO b with z | ⟨ob,xs,z⟩
     ·rw[q]at z;cases z
     ·have z2:=un.frzs b ob _ z
      obtain⟨e1,_⟩:=hok b _ z
      obtain⟨e2,_⟩:=hok' b _ z2
      rw[e]at e1;cases e1
      exact e2
 cases hk:K.lookup a with
 | some o =>
  have e:=KX a o hk
  rw[ha]at e
  cases e
  refine core (fun _=>none) (fun _=>.inl rfl) (.inr ⟨_,vs.toArray,_,hk,rfl,rfl,rfl,by rw[List.size_toArray,lenV];exact hl,by simpa using rv⟩) (fun b u z=>by have z':(none:Option HO)=some u:=z;cases z') (fun b z=>absurd rfl z) fun z=>absurd rfl z
 | none =>
  refine core (fun b=>if b=a then some (.frz { cls:=.type "list",data:=.seq vs.toArray } (.lst (ns.map V.int))) else none) (fun b=>?_) (.inl (.inr ⟨{ cls:=.type "list",data:=.seq vs.toArray },if_pos rfl⟩)) (fun b u z=>?_) (fun b z=>?_) fun _=>hk
  ·by_cases hb:b=a
   ·exact .inr ⟨_,_,if_pos hb⟩
   ·exact .inl (if_neg hb)
  ·by_cases hb:b=a
   ·have z':=(if_pos hb).symm.trans z
    cases z'
    subst hb
    exact⟨ha,by rw[List.length_map];exact hl,vs,_,rv,ha⟩
   ·have z':=(if_neg hb).symm.trans z
    cases z'
  ·by_cases hb:b=a
   ·exact hb
   ·exact absurd (if_neg hb) z
end L2
namespace L2
open PySem PySem.Spec PyProof.Rows
theorem walk_of {l:PySem.W.OpenLaw} {n k:Nat} {q:Program} {loose:List Str} {XP:(Str->Option Value)->Heap->Prop} {YP:World->Heap->Prop} {d:DefRec} {K:Params->PySem.W.Frag} {CX:World->CXT} {sp:World->Sp} {x:Str}
 (hn:l.most=some n) (hn2:n<=sizeLine) (hdf:d.params.defaults=[]) (hr:Room k callerA)
 (hY:∀ (w:World) (h:Heap),YP w h->(K w.params).In h)
 (F:∀ (w:World) (mg:Str->Option Value) (fa:Addr) (h:Heap),(K w.params).In h->h.Ns mainGlobals mg->mg d.name=some (.ref fa) ->
  ∃ fd:FuncData,(∀ (s:Shared) (u:Value),BindsTo s fd ⟨[u],[]⟩ [(x,u)]) /\
   ∀ base:Heap,(K w.params).In base->base.Ns mainGlobals mg->FnOk l.prog w (K w.params) mg base (CX w) k fa fd [x] (sp w))
 (hsp:∀ (w:World) (H:Hp) (a:Addr) (ns:List Int),ns.length<=n->Only H->SqL (K w.params) H a (ns.map V.int)->sp w [.ref a] H (fun v _=>v=.bl true) fun _ _ _=>False)
 (hCX:∀ (w:World) (H:Hp) (s:Shared) (e:Value) (s':Shared),CX w [] H s (fun _ _ _=>False) e s'->False) :
 PySem.W.WalkO q loose XP YP l.row.toRowW d [] (fun f vs=>PySem.call f vs):=by
 refine Att.attach_call hn hdf fun w s₀ s₁ mg mb fa o pm cd doc a vs ns G Y ho hd hcd hmg hobj hints hlen hg=>?_
 have KX:=hY w _ Y
 obtain⟨fd,hb,hF⟩:=F w mg fa _ KX G.T.g hmg
 exact x7x KX G.T.g G.T.b G.T.builtins G.T.nolimit hg hobj hints (Nat.le_trans hlen hn2) hr hF hb (fun H hO hS=>hsp w H a ns hlen hO hS) fun H e s'=>hCX w H s₁ e s'
end L2
namespace L2
open PySem PySem.Spec PyProof.Rows
abbrev CX0:CXT:=fun _ _ _ _ _ _=>False
abbrev E0:XK:=fun _ _ _=>False
theorem pass0 {X:Cx}:y2m CX0 X E0:=fun _ _ _ _ _ _ _ h=>h.elim
structure Fun (K:W.Frag) (x qual:Str) (st:Stmt) (f:Addr) (fd:FuncData):Prop where
 ex:∃ (oc:Value) (od:Option Addr) (kV doc pm:Value) (an:Option Addr) (cdv ct:Value) (osl:Array (Option Value)),
  fd=PySem.W.fnOf x qual (z0s st) (z0m st) (z0f st) .none kV doc pm an cdv ct/\K.lookup f=some ⟨oc,od,.func fd,osl⟩/\PySem.W.codeIn K cdv qual=true
 kp:PySem.W.keepIn K (.ref f)=true
section
variable {P:Program} {w:World} {K:W.Frag} {mg:Str->Option Value} {base:Heap}
theorem Fun.ok {x qual:Str} {st:Stmt} {f:Addr} {fd:FuncData} {N ps:List Str} {k:Nat} {sp:Sp} (F:Fun K x qual st f fd) (S:FnScope N ps (z0f st)) (len:∀ vs H Q E,sp vs H Q E->vs.length=ps.length)
 (hbody:∀ (cdv:Value) (A:Around) (outer:List Env) (s:Shared) (H:Hp) (vs:List V) (Q:VK) (E:XK),Room k (A.deeper (envOfC qual (z0f st) s.heap.objs.size f cdv))->sp vs H Q E ->
  ∃ t,PSs (cxOf CX0 P w K mg base N qual (z0f st) f cdv A outer s H E).nox (z0m st) t/\t { nx:=fun _ H'=>Q .non H',rt:=Q } (start N vs) H):FnOk P w K mg base CX0 (k+1) f fd ps sp:=by
 obtain⟨oc,od,kV,doc,pm,an,cdv,ct,osl,rfl,lk,hcd⟩:=F.ex
 refine fn_of lk hcd S len fun A outer s H vs Q E hr hsp=>?_
 obtain⟨t,h,q⟩:=hbody cdv A outer s H vs Q E hr hsp
 exact⟨t,h.nox,q⟩
theorem Fun.binds {x qual:Str} {st:Stmt} {f:Addr} {fd:FuncData} {ps:List Str} (F:Fun K x qual st f fd)
 (h:∀ (kV doc pm:Value) (an:Option Addr) (cdv ct:Value) (us:List Value),us.length=ps.length->bindArgs (PySem.W.fnOf x qual (z0s st) (z0m st) (z0f st) .none kV doc pm an cdv ct) ⟨us,[]⟩=pure (ps.zip us)):Binds K fd ps []:=by
 obtain⟨oc,od,kV,doc,pm,an,cdv,ct,osl,rfl,lk,hcd⟩:=F.ex
 exact .all (h kV doc pm an cdv ct)
theorem y6x {x qual:Str} {st:Stmt} {f:Addr} {oc:Value} {od an:Option Addr} {osl:Array (Option Value)} {kV doc pm cdv ct:Value} (l:K.lookup f=some ⟨oc,od,.func (PySem.W.fnOf x qual (z0s st) (z0m st) (z0f st) .none kV doc pm an cdv ct),osl⟩)
 (c:PySem.W.codeIn K cdv qual=true) (k:PySem.W.keepIn K (.ref f)=true):Fun K x qual st f (PySem.W.fnOf x qual (z0s st) (z0m st) (z0f st) .none kV doc pm an cdv ct):=⟨⟨oc,od,kV,doc,pm,an,cdv,ct,osl,rfl,l,c⟩,k⟩
end
theorem hu_of {A:Around} {k:Nat} (hr:Room k A):A.units+1 < cLine:=Nat.lt_of_le_of_lt (Nat.add_le_add_left (by decide:1<=64) _) hr.units
section
variable {X:Cx}
theorem pv (i:Nat) {x:Str} {pos:Pos} (hN:X.N[i]?=some x:=by rfl) (hv:Vis X.env.scope x:=by first | exact Or.inl rfl | exact Or.inr (Or.inl rfl) | exact Or.inr (Or.inr rfl)) (hd:(x == ("__debug__" : Str))=false:=by decide)
 (hcd:(x == ("__classdict__" : Str))=false:=by decide):PE X (.Name x pos) (tVar i):=w1p hN hv hd hcd
end
theorem iteF {A B:Prop} (h:B):if false=true then A else B:=by
 rw[if_neg Bool.false_ne_true]
 exact h
theorem iteT {A B:Prop} (h:A):if true=true then A else B:=by
 rw[if_pos rfl]
 exact h
theorem ite2 {c A B:Prop} [Decidable c] (h1:c->A) (h2:¬ c->B):if c then A else B:=by
 by_cases h:c
 ·rw[if_pos h]
  exact h1 h
 ·rw[if_neg h]
  exact h2 h
theorem iteNS {c A B:Prop} [Decidable c] (hc:c) (h:B):if (!decide c)=true then A else B:=by
 rw[decide_eq_true hc]
 exact iteF h
def Same (H H':Hp):Prop:=∀ b o,H b=some o->H' b=some o
theorem smR (H:Hp):Same H H:=fun _ _ h=>h
theorem Same.trans {H H1 H2:Hp} (a:Same H H1) (b:Same H1 H2):Same H H2:=fun c o h=>b c o (a c o h)
theorem Same.free {H H':Hp} (e:Same H H') {l:Addr} (h:H' l=Option.none):H l=Option.none:=by
 cases q:H l with
 | none=>rfl
 | some o =>
  rw[e l o q]at h
  cases h
theorem Same.seq {K:W.Frag} {H H':Hp} {a:Addr} {xs:List V} (e:Same H H') (h:SqL K H a xs):SqL K H' a xs:=by
 rcases h with (h | ⟨o,h⟩) | h
 ·exact .inl (.inl (e _ _ h))
 ·exact .inl (.inr ⟨o,e _ _ h⟩)
 ·exact .inr h
end L2
namespace L2
open PySem PySem.Spec PyProof.Rows
section
variable {X:Cx}
end
section
variable {κ:Type} [DecidableEq κ]
end
end L2
namespace L2
open PySem PySem.Spec PyProof.Rows
theorem z8b {a b:Nat} (h:a < b∨b < a):a≠b:=by omega
theorem y6s {a b c:Nat} (h:a < b) (h':b<=c):a < c:=by omega
def drawn (env:Env):List (Str × NameKind)->List (Str × Addr)->List (Str × Addr)
 | [],cs=>cs
 | (n,k)::r,cs=>if k=.free then (match env.cells.lookup n with | some c=>drawn env r ((n,c)::cs) | none=>drawn env r cs) else drawn env r cs
theorem z9c {scope:Scope} {env:Env} (h:∀ x∈scope.names,x.2=.free->∃ c,env.cells.lookup x.1=some c):closureFor scope env=pure (drawn env scope.names []):=by
 simp only[closureFor]
 have go:∀ (names:List (Str × NameKind)) (cs:List (Str × Addr)),(∀ x∈names,x.2=.free->∃ c,env.cells.lookup x.1=some c) ->
  (forIn names cs (fun (x:Str × NameKind) (r:List (Str × Addr)) =>
   if (x.snd == NameKind.free)=true then do
    let c ←cellOf env x.fst
    pure (ForInStep.yield ((x.fst,c)::r))
   else pure (ForInStep.yield r)):Sem (List (Str × Addr)))=pure (drawn env names cs):=by
  intro names
  induction names with
  | nil=>intro cs _;rfl
  | cons x r ih =>
   intro cs hx
   obtain⟨n,k⟩:=x
   rw[List.forIn_cons]
   have hr:=fun y hy=>hx y (List.mem_cons_of_mem _ hy)
   by_cases hk:k=.free
   ·subst hk
    obtain⟨c,hc⟩:=hx (n,.free) List.mem_cons_self rfl
    have hc':env.cells.lookup n=some c:=hc
    have e1:cellOf env n=pure c:=by unfold cellOf;rw[hc']
    simp only[beq_self_eq_true,if_true,e1,pure_bind]
    rw[ih _ hr]
    show _=pure (if NameKind.free=.free then _ else _)
    rw[if_pos rfl,hc']
   ·have hb:(k == NameKind.free)=false:=by simpa using hk
    simp only[hb,Bool.false_eq_true,if_false,pure_bind]
    rw[ih _ hr]
    show _=pure (if k=.free then _ else _)
    rw[if_neg hk]
 rw[go _ _ h]
 rfl
theorem z9a {env:Env}:∀ (names:List (Str × NameKind)) (cs:List (Str × Addr)),(∀ x c,cs.lookup x=some c->env.cells.lookup x=some c)->∀ x c,(drawn env names cs).lookup x=some c->env.cells.lookup x=some c
 | [],_,h=>h
 | (n,k)::r,cs,h=>by
  unfold drawn
  split
  ·split
   ·rename_i c hc
    refine z9a r _ fun x c' e=>?_
    rw[List.lookup_cons]at e
    split at e
    ·rename_i hb
     have:x=n:=by simpa using hb
     subst this
     cases e;exact hc
    ·exact h x c' e
   ·exact z9a r cs h
  ·exact z9a r cs h
theorem z7u {env:Env}:∀ (names:List (Str × NameKind)) (cs:List (Str × Addr)) (x:Str),(∃ c,cs.lookup x=some c)->∃ c,(drawn env names cs).lookup x=some c
 | [],_,_,h=>h
 | (n,k)::r,cs,x,h=>by
  unfold drawn
  split
  ·split
   ·rename_i c hc
    refine z7u r _ x ?_
    rw[List.lookup_cons]
    split
    ·exact⟨_,rfl⟩
    ·exact h
   ·exact z7u r cs x h
  ·exact z7u r cs x h
theorem z9b {env:Env}:∀ (names:List (Str × NameKind)) (cs:List (Str × Addr)) (x:Str),(x,NameKind.free)∈names->(∃ c,env.cells.lookup x=some c)->∃ c,(drawn env names cs).lookup x=some c
 | [],_,_,h,_=>nomatch h
 | (n,k)::r,cs,x,hm,h=>by
  unfold drawn
  rcases List.mem_cons.mp hm with e | hm'
  ·cases e
   rw[if_pos rfl]
   obtain⟨c,hc⟩:=h
   rw[hc]
   refine z7u r _ _ ⟨c,?_⟩
   rw[List.lookup_cons];simp
  ·split
   ·split
    ·exact z9b r _ x hm' h
    ·exact z9b r _ x hm' h
   ·exact z9b r _ x hm' h
theorem z5x {env:Env}:∀ (names:List (Str × NameKind)) (x:Str) (k:NameKind),(names.map fun (n,k)=>if (k == NameKind.free && env.scope.kind == .function && env.kindOf n == some .cell) then (n,NameKind.cell) else (n,k)).lookup x=some k ->
 (k=.cell∨k=.free)->(∀ y∈names,y.2≠.cell)->(x,NameKind.free)∈names
 | [],_,_,h,_,_=>by simp at h
 | (n,k')::r,x,k,h,hk,hc=>by
  rw[List.map_cons,List.lookup_cons]at h
  by_cases hh:(k' == NameKind.free && env.scope.kind == .function && env.kindOf n == some .cell)=true
  ·simp only[hh,if_true]at h
   split at h
   ·rename_i hb
    have:x=n:=by simpa using hb
    subst this
    simp only[Bool.and_eq_true,beq_iff_eq]at hh
    rw[hh.1.1];exact List.mem_cons_self
   ·exact List.mem_cons_of_mem _ (z5x r x k h hk fun y hy=>hc y (List.mem_cons_of_mem _ hy))
  ·simp only[hh,Bool.false_eq_true,if_false]at h
   split at h
   ·rename_i hb
    have:x=n:=by simpa using hb
    subst this
    cases h
    rcases hk with e | e
    ·exact absurd e (hc _ List.mem_cons_self)
    ·rw[e];exact List.mem_cons_self
   ·exact List.mem_cons_of_mem _ (z5x r x k h hk fun y hy=>hc y (List.mem_cons_of_mem _ hy))
section
variable {prog:Program} {w:World} {A:Around} {R:Result->Shared->Prop} {s:Shared}
theorem y7e {elt target iter:Expr} {ifs:List Expr} {scope:Scope} {pos:Pos} {it acc:Value} {env:Env} (I:Nat->Shared->Prop)
 (turn:∀ n s,I n s->wpAny (model prog w) A (pyNext it) (fun r s₁=>match r with
  | none=>R (.ok .next) s₁
  | some v=>wpAny (model prog w) A (letOwnedTupleGo target it v) (fun _ s₁'=>wpAny (model prog w) A (assign target env v) (fun _ s₂ =>
   wpAny (model prog w) A (forIn ifs true fun c r=>if r=true then do let ok ←isTrue c env (eval c env);pure (ForInStep.yield ok) else pure (ForInStep.yield r)) (fun ok s₃ =>
    if ok=true then wpAny (model prog w) A (eval elt env) (fun x s₄ =>
     wpAny (model prog w) A (call (.builtin "list.append") [acc,x]) (fun _ s₅=>∃ m,m < n/\I m s₅) (fun _ _=>False) s₄) (fun _ _=>False) s₃
    else ∃ m,m < n/\I m s₃) (fun _ _=>False) s₂) (fun _ _=>False) s₁') (fun _ _=>False) s₁) (fun _ _=>False) s)
 (n:Nat) (h:I n s) :
 codeAny (model prog w) A (.compLoop (.ListComp elt [⟨target,iter,ifs,0⟩] scope pos) 0 it acc env) R s:=by
 refine codeAny_loop rfl I (fun n s hI=>?_) n h
 show wpAny _ A ((compTurn (.ListComp elt [⟨target,iter,ifs,0⟩] scope pos) 0 it acc env).onRaise (fun x=>do noteFrame x env;theTreesLotGoes x)) _ _ s
 refine wpAny_noted ?_
 refine wpAny_noRaise ?_
 rw[compTurn_list]
 refine wpAny_bind (wpAny_standAt (wpAny_bind (thn (turn n s hI) fun r s₁ h₁=>?_)))
 cases r with
 | none=>exact wpAny_pure h₁
 | some v =>
  refine wpAny_bind (thn h₁ fun _ s₁' h₁'=>wpAny_bind (thn h₁' fun _ s₂ h₂=>wpAny_bind (thn h₂ fun ok s₃ h₃=>?_)))
  cases ok with
  | false=>exact wpAny_pure ⟨rfl,h₃⟩
  | true=>exact wpAny_bind (wpAny_bind (thn h₃ fun x s₄ h₄=>wpAny_bind (thn h₄ fun _ s₅ h₅=>wpAny_pure (wpAny_pure ⟨rfl,h₅⟩))))
end
inductive Fv (X:Cx) (scope:Scope):List Str->List Nat->Prop where
 | nil:Fv X scope [] []
 | cons {y:Str} {j:Nat} {ys:List Str} {js:List Nat} (hN:X.N[j]?=some y) (hk:X.env.kindOf y=some .cell∨X.env.kindOf y=some .free) (hm:scope.names.lookup y=some .free) (r:Fv X scope ys js):Fv X scope (y::ys) (j::js)
theorem Fv.mem {X:Cx} {scope:Scope} {ys:List Str} {js:List Nat} (h:Fv X scope ys js) {y:Str} (hy:y∈ys):X.env.kindOf y=some .cell∨X.env.kindOf y=some .free:=by
 induction h with
 | nil=>exact nomatch hy
 | cons hN hk hm r ih =>
  rcases List.mem_cons.mp hy with e | hy
  ·rw[e];exact hk
  ·exact ih hy
theorem Fv.at {X:Cx} {scope:Scope} {ys:List Str} {js:List Nat} (h:Fv X scope ys js):∀ {k:Nat} {y:Str},ys[k]?=some y->∃ j,js[k]?=some j/\X.N[j]?=some y/\(X.env.kindOf y=some .cell∨X.env.kindOf y=some .free)/\scope.names.lookup y=some .free:=by
 induction h with
 | nil=>intro k y e;simp at e
 | @cons y0 j0 ys0 js0 hN hk hm r ih =>
  intro k y e
  cases k with
  | zero=>simp at e;subst e;exact⟨j0,by simp,hN,hk,hm⟩
  | succ k=>obtain⟨j,a,b⟩:=ih (k:=k) (y:=y) (by simpa using e);exact⟨j,by simpa using a,b⟩
theorem Fv.len {X:Cx} {scope:Scope} {ys:List Str} {js:List Nat} (h:Fv X scope ys js):ys.length=js.length:=by
 induction h with
 | nil=>rfl
 | cons _ _ _ _ ih=>simp[ih]
def y2f (X:Cx) (x:Str) (fvn:List Str) (scope:Scope) (cl:List (Str × Addr)) (C:Addr) (ex:List Addr) (s:Shared) (H:Hp):Cx where
 prog:=X.prog
 w:=X.w
 K:=X.K
 mg:=X.mg
 base:=X.base
 A:=X.A
 N:=x::fvn
 s₀:=s
 H₀:=H
 env:=compEnvC scope cl C X.env
 outer:=X.stack
 stack:=X.stack
 ex:=ex
 fn:=fun _=>false
 calm:=X.calm
 pn:=[]
 xe:=fun _ _=>False
def inner (σ:St) (js:List Nat) (x:Option V):St:=x::js.map fun j=>(σ[j]?).join
abbrev tTrue:TT:=fun _ H Q=>Q true H
def PTs (X:Cx) (ifs:List Expr) (t:TT):Prop :=
 ∀ (pins:List (Addr × Obj)) (s:Shared) (σ:St) (H:Hp) (Q:Bool->Hp->Prop),Inv X pins σ H s->t σ H Q ->
  wpAny (model X.prog X.w) X.A (forIn ifs true fun c r=>if r=true then do let ok ←isTrue c X.env (eval c X.env);pure (ForInStep.yield ok) else pure (ForInStep.yield r)) (TP X pins σ Q) X.xe s
theorem y8b {X:Cx}:PTs X [] tTrue:=fun _ _ _ H _ I h=>wpAny_tests_nil ⟨H,I,h⟩
theorem z7d {X:Cx} {c:Expr} {t:TT} (h:PT X c t):PTs X [c] t:=fun pins s σ H Q I q=>wpAny_tests_one (h pins s σ H Q I q)
def tComp (wi:TI) (js:List Nat) (tc:TT) (te:TE):TE:=fun σ H Q=>wi σ H fun J H1=>∃ W:Nat->Nat->List V->Hp->Prop,(∃ m,W 0 m [] H1)/\∀ i m ys H,W i m ys H ->
 (J.stop i H/\∀ l,H l=none->Q (.ref l) (upd H l (.lst ys))) ∨
 (J.go i H/\ys.length < sizeLine/\∀ x H',J.yld i H x H'->tc (inner σ js (some x)) H' fun b H2 =>
  if b=true then te (inner σ js (some x)) H2 fun v H3=>∃ m',m' < m/\W (i+1) m' (ys++[v]) H3 else ∃ m',m' < m/\W (i+1) m' ys H2)
structure CompOk (X:Cx) (x:Str) (fvn:List Str) (scope:Scope):Prop where
 cell:∀ y∈scope.names,y.2≠.cell
 kind:scope.kind=.function
 names:∀ y∈scope.names,y.2=.local->scope.names.lookup y.1=some .local
 xl:scope.names.lookup x=some .local
 free:∀ y∈scope.names,y.2=.free->y.1∈fvn
 nd:(x::fvn).Nodup
theorem z5k {env:Env}:∀ {names:List (Str × NameKind)} {x:Str},names.lookup x=some .free ->
 ((names.map fun (n,k)=>if (k == NameKind.free && env.scope.kind == .function && env.kindOf n == some .cell) then (n,NameKind.cell) else (n,k)).lookup x=some .free ∨
  (names.map fun (n,k)=>if (k == NameKind.free && env.scope.kind == .function && env.kindOf n == some .cell) then (n,NameKind.cell) else (n,k)).lookup x=some .cell)
 | [],_,h=>by simp at h
 | (n,k)::r,x,h=>by
  have ih:=@z5k env r x
  rw[List.map_cons]
  dsimp only
  cases hx:x == n with
  | true =>
   simp only[List.lookup_cons,hx]at h
   cases h
   by_cases hc:(NameKind.free == NameKind.free && env.scope.kind == .function && env.kindOf n == some .cell)=true
   ·rw[if_pos hc];simp[List.lookup_cons,hx]
   ·rw[if_neg hc];simp[List.lookup_cons,hx]
  | false =>
   simp only[List.lookup_cons,hx]at h
   by_cases hc:(k == NameKind.free && env.scope.kind == .function && env.kindOf n == some .cell)=true
   ·rw[if_pos hc];simp only[List.lookup_cons,hx];exact ih h
   ·rw[if_neg hc];simp only[List.lookup_cons,hx];exact ih h
section
variable {X:Cx} {elt iter:Expr} {x:Str} {px pos:Pos} {ifs:List Expr} {scope:Scope} {fvn:List Str} {js:List Nat} {wi:TI} {tc:TT} {te:TE}
theorem y7d {tg:Expr} (htg:tg=.Name x px) (hc:X.calm=true) (hfv:Fv X scope fvn js) (ok:CompOk X x fvn scope)
 (ht:∀ cl C ex s H,PTs (y2f X x fvn scope cl C ex s H) ifs tc) (he:∀ cl C ex s H,PE (y2f X x fvn scope cl C ex s H) elt te)
 {pins:List (Addr × Obj)} {σ:St} {H2:Hp} {s₂:Shared} {Q:VK} {it:Addr} {fp:List Addr} {tn:Nat->Heap->Prop} {J:It} {RR:Value->Addr->Result->Shared->Prop} {E:Value->Shared->Prop}
 (I2:Inv X pins σ H2 s₂) (T:Turn X.prog X.w X.K tg J fp it tn) (st0:tn 0 s₂.heap) (f2:∀ b∈fp,FpOk X pins H2 b)
 (W:Nat->Nat->List V->Hp->Prop) (w0:∃ m,W 0 m [] H2)
 (turn:∀ i m ys H,W i m ys H->(J.stop i H/\∀ l,H l=none->Q (.ref l) (upd H l (.lst ys))) ∨
  (J.go i H/\ys.length < sizeLine/\∀ x H',J.yld i H x H'->tc (inner σ js (some x)) H' fun b H2 =>
   if b=true then te (inner σ js (some x)) H2 fun v H3=>∃ m',m' < m/\W (i+1) m' (ys++[v]) H3 else ∃ m',m' < m/\W (i+1) m' ys H2))
 (hRR:∀ D C m s' H',s'.heap.Ns C m->Inv X pins σ H' s'->FpOk X pins H' C->Q (.ref D) H'->RR (.ref D) C (.ok .next) s') :
 wpAny (model X.prog X.w) X.A (newList []) (fun acc s₃=>wpAny (model X.prog X.w) X.A (newFunctionEnv scope X.env.globals (drawn X.env scope.names []) [] X.env.qual none .none (some X.env)) (fun cenv s₄ =>
  codeAny (model X.prog X.w) X.A (.compStart (.ListComp elt [⟨tg,iter,ifs,0⟩] scope pos) 0 (.ref it) acc { cenv with scope:=relabel scope X.env }) (RR acc cenv.locals) s₄) E s₃) E s₂:=by
 subst htg
 refine wpAny_newObj_type (wpAny_newFunctionEnv ok.cell (by intro y hy;simp at hy) (fun h₁ hns₁ hsb₁=>?_) ok.kind)
 dsimp only at hns₁ hsb₁ ⊢
 generalize hG:s₂.heap.push { cls:=.type "list",dict:=none,data:=.seq ([]:List Value).toArray }=G at hns₁ hsb₁ ⊢
 have hC:G.objs.size=s₂.heap.objs.size+1:=by rw[←hG,Heap.size_push]
 generalize hCC:G.objs.size=C at hns₁ hsb₁ hC ⊢
 generalize hD:s₂.heap.objs.size=D at hC ⊢
 have hDC:D≠C:=by omega
 have old:∀ b o,s₂.heap.get? b=some o->h₁.get? b=some o:=fun b o e=>by
  have hb:=Heap.lt_size e
  refine hsb₁.extBut b o (z8b (.inl (by rw[hC,←hD];exact Nat.lt_succ_of_lt hb))) (Heap.get?_push_of_some _ (hG ▸ Heap.get?_push_of_some _ e))
 have hacc:h₁.get? D=some { cls:=.type "list",data:=.seq ([]:List Value).toArray }:=by
  refine hsb₁.extBut _ _ hDC (Heap.get?_push_of_some _ ?_)
  rw[←hG,←hD]
  exact Heap.get?_push_size _ rfl
 generalize hcl:drawn X.env scope.names []=cl
 have cl_sub:∀ y c,cl.lookup y=some c->X.env.cells.lookup y=some c:=by
  rw[←hcl];exact z9a _ _ (fun y c e=>by simp at e)
 have frK:∀ y∈scope.names,y.2=.free->(X.env.kindOf y.1=some .cell∨X.env.kindOf y.1=some .free):=fun y hy e=>hfv.mem (ok.free y hy e)
 have cl_has:∀ y,(y,NameKind.free)∈scope.names->∃ c,cl.lookup y=some c:=fun y hy=>by
  rw[←hcl];exact z9b _ _ _ hy (I2.ok.has y (frK _ hy rfl))
 let X':Cx:=y2f X x fvn scope cl C fp s₂ H2
 have fps:∀ b∈fp,b < s₂.heap.objs.size:=fun b hb=>by
  obtain⟨o,e,_⟩:=T.obj _ _ st0 b hb
  exact Heap.lt_size e
 have okX:X'.Ok:=by
  refine⟨I2.ok.mod,ok.kind,I2.ok.glob,I2.ok.blt,?_,fun y z c h1 h2=>I2.ok.inj y z c (cl_sub _ _ h1) (cl_sub _ _ h2),fun y hy=>?_,fun y c h _=>(nomatch h),I2.ok.hd,I2.ok.frames,.inl rfl,fun b hb=>⟨?_,fun y c e=>(f2 b hb).2.2.2.2.1 y c (cl_sub _ _ e)⟩,
   I2.bs,Nat.le_trans I2.ok.bsz I2.sz,fun b o e hb=>?_,fun b hb z=>?_,I2.stack,I2.stkFree⟩
  ·show s₂.heap.objs.size<=C
   omega
  ·rcases hy with hy | hy
   ·exact cl_has y (z5x _ _ _ hy (.inl rfl) ok.cell)
   ·exact cl_has y (z5x _ _ _ hy (.inr rfl) ok.cell)
  ·show b≠C
   exact z8b (.inl (by rw[hC,←hD];exact Nat.lt_succ_of_lt (fps b hb)))
  ·rcases (f2 b hb).2.2.2.1 with z | z
   ·exact I2.ok.noex b o e z
   ·exact Nat.lt_irrefl _ (y6s (y6s (Heap.lt_size e) I2.ok.bsz) z)
  ·have z':=I2.stkSub b z
   rcases List.mem_cons.mp z' with e | e
   ·exact (f2 b hb).2.1 e
   ·exact (f2 b hb).2.2.1 e
 have cells_lt:∀ y c,cl.lookup y=some c->c < D:=fun y c e=>by
  obtain⟨v,q⟩:=I2.cell y c (cl_sub _ _ e)
  rw[←hD];exact q.lt
 have HD:∀ (a:Addr),D<=a->H2 a=none:=fun a ha=>I2.hok.fresh (by omega)
 have I1:Inv X' [] (inner σ js none) H2 { s₂ with heap:=h₁,toks:=s₂.toks+([]:List (Str × Value)).length }:=by
  refine⟨okX,rfl,I2.bare,Un.kept old,⟨_,hns₁,fun i y v e1 e2 e3=>?_⟩,fun y c e=>?_,HD _ (by show D<=C;omega),fun y c e=>I2.freeC y c (cl_sub _ _ e),fun p hp=>absurd (show p∈([]:List (Addr × Obj)) from hp) (by simp),I2.hok.kept old,?_⟩
  ·cases i with
   | zero=>exact absurd e2 (by simp[inner])
   | succ k =>
    have e1':fvn[k]?=some y:=e1
    obtain⟨j,a1,a2,a3,a4⟩:=hfv.at e1'
    have e2':(σ[j]?).join=some v:=by
     have:(js.map fun j=>(σ[j]?).join)[k]?=some (some v):=e2
     rw[List.getElem?_map,a1]at this
     simpa using this
    have e2'':σ[j]?=some (some v):=by
     cases q:σ[j]? with
     | none=>rw[q]at e2';cases e2'
     | some z=>rw[q]at e2';simp at e2';rw[e2']
    obtain⟨m,hn,hl⟩:=I2.loc
    have hv:Vis X.env.scope y:=.inr a3
    obtain⟨u,r,l⟩:=hl j y v a2 e2'' hv
    refine⟨u,r,?_⟩
    rcases l with ⟨k1,_⟩ | ⟨k1,c,k2,k3⟩
    ·rcases a3 with z | z
     ·rw[k1]at z;cases z
     ·rw[k1]at z;cases z
    ·obtain⟨c',hc'⟩:=cl_has y (PySem.mem_of_lookup a4)
     have:c'=c:=by
      have:=cl_sub _ _ hc'
      rw[k2]at this;cases this;rfl
     subst this
     refine .inr ⟨?_,c',hc',?_⟩
     ·rcases z5k (env:=X.env) a4 with z | z
      ·exact .inr z
      ·exact .inl z
     ·obtain⟨o,ho,hd⟩:=k3
      exact⟨o,old _ _ ho,hd⟩
  ·obtain⟨v,o,ho,hd⟩:=I2.cell y c (cl_sub _ _ e)
   exact⟨v,o,old _ _ ho,hd⟩
  ·show (inner σ js none).length=(x::fvn).length
   simp[inner,hfv.len]
 have fp1:∀ {H':Hp} {pl:List (Addr × Obj)},(∀ b∈fp,H' b=none)->(∀ p∈pl,p.1 ∉ fp)->∀ b∈fp,FpOk X' pl H' b:=fun {H' pl} hn hp b hb=>by
  refine⟨hn b hb,(okX.exf b hb).1,okX.exfs b hb,.inl hb,(okX.exf b hb).2,fun p hpp z=>?_⟩
  have hpp':p∈pl:=hpp
  exact hp p hpp' (by rw[z];exact hb)
 have Dfp:D ∉ fp:=fun z=>Nat.lt_irrefl _ (y6s (fps D z) (Nat.le_of_eq hD))
 obtain⟨m0,w0⟩:=w0
 have loop:∀ s₃:Shared,s₃={ s₂ with heap:=h₁,toks:=s₂.toks+([]:List (Str × Value)).length } ->
  codeAny (model X.prog X.w) X.A (.compLoop (.ListComp elt [⟨.Name x px,iter,ifs,0⟩] scope pos) 0 (.ref it) (.ref D) (compEnvC scope cl C X.env)) (RR (.ref D) C) s₃:=by
  rintro s₃ rfl
  refine y7e (fun n s'=>∃ i ys its k H',Inv X' [] (inner σ js none) H' s'/\tn i s'.heap/\(∀ b∈fp,H' b=none)/\H' D=none/\Vals ys its/\ys.length<=sizeLine/\s'.heap.get? D=some { cls:=.type "list",data:=.seq its.toArray k }/\W i n ys H') ?_ m0
   ⟨0,[],[],_,H2,I1,T.keep _ _ _ st0 fun b _ o e=>old b o e,fun b hb=>(f2 b hb).1,HD _ (Nat.le_refl _),.nil,Nat.zero_le _,hacc,w0⟩
  rintro n s' ⟨i,ys,its,k,H',I',st',fr',nD',rv,hz,ho,hw⟩
  have pinD:Inv X' [(D,{ cls:=.type "list",data:=.seq its.toArray k })] (inner σ js none) H' s':=I'.pins_of fun p hp=>by
   have e:p=(D,{ cls:=.type "list",data:=.seq its.toArray k }):=by simpa using hp
   subst e
   refine⟨ho,nD',hDC,fun z=>?_,fun v z=>nomatch z⟩
   have z':=I2.stkSub D z
   rcases List.mem_cons.mp z' with e | e
   ·exact z8b (.inr (y6s I2.lt (Nat.le_of_eq hD))) e
   ·exact I2.nofs (Nat.le_of_eq hD) e
  have npl:∀ p∈[((D,{ cls:=.type "list",data:=.seq its.toArray k }):Addr × Obj)],p.1 ∉ fp:=fun p hp=>by
   have e:p=(D,{ cls:=.type "list",data:=.seq its.toArray k }):=by simpa using hp
   subst e;exact Dfp
  rcases turn i n ys H' hw with ⟨stop,qn⟩ | ⟨go,hlt,step⟩
  ·refine thn (T.done X' rfl rfl rfl hc i _ s' _ H' (fun _ _=>False) pinD (fp1 fr' npl) st' stop) fun r s4 ⟨hr,I4⟩=>?_
   subst hr
   have ho4:=(I4.pin (D,{ cls:=.type "list",data:=.seq its.toArray k }) (by show _∈[]++[_];simp)).1
   obtain⟨m,hn4,_⟩:=I4.loc
   have hok4:HOk X.prog X.w (upd H' D (.lst ys)) s4.heap:=fun b u e=>by
    by_cases hb:b=D
    ·subst hb;rw[z0c]at e;cases e
     exact⟨hz,its,k,rv,ho4⟩
    ·rw[z0g hb]at e
     exact (I4.hok b u e).stay (fun c v _ q=>q) (fun c q=>by rw[z0g (z0h q nD')];exact q) fun c xs q=>by rw[z0g (z0h q nD')];exact q
   have un4:Un (frs X.stack) fp H2 (upd H' D (.lst ys)) s₂.heap s4.heap:=by
    have u:=I4.base
    refine⟨u.keep,u.slot,fun b o e n1 n2=>?_,u.there,fun b xs e=>?_,fun b o xs e=>?_,fun b ps e=>?_⟩
    ·have:b≠D:=z8b (.inl (y6s (Heap.lt_size e) (Nat.le_of_eq hD)))
     rw[z0g this];exact u.free b o e n1 n2
    ·rw[z0g (z0h (u.tups b xs e) nD')];exact u.tups b xs e
    ·rw[z0g (z0h (u.frzs b o xs e) nD')];exact u.frzs b o xs e
    ·obtain⟨mo,q⟩:=u.tbls b ps e
     exact⟨mo,by rw[z0g (z0h q nD')];exact q⟩
   have IX:Inv X pins σ (upd H' D (.lst ys)) s4:=I2.call' I4.os un4 hok4 I4.bare fun b hb=>⟨(f2 b hb).2.2.2.1,(f2 b hb).2.1,(f2 b hb).2.2.2.2.1,(f2 b hb).2.2.2.2.2⟩
   exact hRR D C m s4 _ hn4 IX (I2.fpOk (by omega) (by rw[z0g (Ne.symm hDC)];exact I4.free)) (qn D nD')
  ·refine thn (T.item X' rfl rfl rfl hc i _ s' _ H' (fun _ _=>False) pinD (fp1 fr' npl) st' go) fun r s4 ⟨u,hr,h4⟩=>?_
   subst hr
   refine thn h4 fun _ s5 ⟨y,H5,I5,r5,y5,st5,fr5⟩=>?_
   have I5':=I5.pinned (fp1 fr5 npl) (T.obj _ _ st5)
   have q5:=step y H5 y5
   refine wpAny_assign_Name (y0m (X:=X') (i:=0) (x:=x) (v:=y) I5' ok.nd rfl (.inl (lookup_relabel_local ok.xl)) r5 (fun s6 I6=>?_) (.inr (lookup_relabel_local ok.xl)))
   have I6:Inv X' _ (inner σ js (some y)) H5 s6:=I6
   refine thn (ht cl C fp s₂ H2 _ s6 _ H5 _ I6 q5) fun b s7 ⟨H7,I7,q7⟩=>?_
   have stay:∀ {H8:Hp} {s8:Shared},Inv X' ([(D,{ cls:=.type "list",data:=.seq its.toArray k })]++y5w fp s5.heap) (inner σ js (some y)) H8 s8 ->
    Inv X' [] (inner σ js none) H8 s8/\tn (i+1) s8.heap/\(∀ b∈fp,H8 b=none)/\H8 D=none/\s8.heap.get? D=some { cls:=.type "list",data:=.seq its.toArray k }:=fun {H8 s8} I8=>by
    have pD:=I8.pin (D,{ cls:=.type "list",data:=.seq its.toArray k }) (by show _∈[]++([_]++_);simp)
    refine⟨(I8.weak (by simp[inner]) fun j v e=>?_).pins_of fun p hp=>(nomatch hp),T.keep _ _ _ st5 fun b hb o e=>(I8.pin (b,o) (by show _∈[]++([_]++_);simp;exact .inr (z7p hb e))).1,fun b hb=>?_,pD.2.1,pD.1⟩
    ·cases j with
     | zero=>simp[inner]at e
     | succ j=>exact e
    ·obtain⟨o,e,d⟩:=T.obj _ _ st5 b hb
     exact (I8.pin (b,o) (by show _∈[]++([_]++_);simp;exact .inr (z7p hb e))).2.1
   cases b with
   | false =>
    rw[if_neg Bool.false_ne_true]
    rw[if_neg Bool.false_ne_true]at q7
    obtain⟨m',hm,w'⟩:=q7
    obtain⟨J1,J2,J3,J4,J5⟩:=stay I7
    exact⟨m',hm,i+1,ys,its,k,H7,J1,J2,J3,J4,rv,hz,J5,w'⟩
   | true =>
    rw[if_pos rfl]
    rw[if_pos rfl]at q7
    refine thn (he cl C fp s₂ H2 _ s7 _ H7 _ I7 q7) fun uv s8 ⟨v,H8,I8,r8,m',hm,w'⟩=>?_
    obtain⟨J1,J2,J3,J4,J5⟩:=stay I8
    refine append_at (hsz:=by rw[List.size_toArray,←rv.length];exact hz) J5 fun h9 sb9 ho9=>?_
    have I9:Inv X' [] (inner σ js none) H8 { s8 with heap:=h9 }:=J1.turned (t':=s8.toks) (fun b o hb e=>(sb9.2 b hb).trans e) J4 hDC (.inr (Nat.le_of_eq hD)) (fun y c e=>z8b (.inl (cells_lt y c e))) fun p hp=>(nomatch hp)
    refine⟨m',hm,i+1,ys++[v],its++[uv],k+1,H8,I9,T.keep _ _ _ J2 fun b hb o e=>(sb9.2 b (fun z=>Dfp (z ▸ hb))).trans e,J3,J4,rv.append (.cons r8 .nil),by rw[List.length_append];exact hlt,ho9.trans (by simp),w'⟩
 exact codeAny_compStart_list (loop _ rfl) (T.self X.A 0 _ _ _ (T.keep _ _ _ st0 fun b _ o e=>old b o e) (loop _ rfl))
theorem z6s (hc:X.calm=true) (hi:PI X (.Name x px) iter wi) (hfv:Fv X scope fvn js) (ok:CompOk X x fvn scope)
 (ht:∀ cl C ex s H,PTs (y2f X x fvn scope cl C ex s H) ifs tc) (he:∀ cl C ex s H,PE (y2f X x fvn scope cl C ex s H) elt te)
 (hs:∀ x,foldedSetIterable iter X.env x=pure x:=by intro _;rfl):PE X (.ListComp elt [⟨.Name x px,iter,ifs,0⟩] scope pos) (tComp wi js tc te):=by
 intro pins s σ H Q I h
 rw[eval_ListComp]
 refine wpAny_comprehension_free (use:=none) rfl hs (z9c fun y hy e=>I.ok.has _ (hfv.mem (ok.free y hy e))) ok.kind ok.names (thn (hi pins s σ H _ I h) fun v s1 h1=>thn h1 fun itv s2 h2=>?_)
 obtain⟨it,fp,tn,J,H2,rfl,I2,T,st2,f2,W,w0,turn⟩:=h2
 refine y7d rfl hc hfv ok ht he (Q:=Q) (RR:=fun acc C=>compPost (model X.prog X.w) X.A X.xe none (EP X pins σ Q) acc C) I2 T st2 f2 W w0 turn ?_
 intro D C m s' H' hn IX fC q
 exact⟨m,hn,fun h' hs'=>⟨.ref D,H',IX.turned (t':=s'.toks) (fun b o hb e=>(hs'.2 b hb).trans e) fC.1 fC.2.1 fC.2.2.2.1 fC.2.2.2.2.1 fC.2.2.2.2.2,rfl,q⟩⟩
theorem x3u {i:Nat} {y:Str} {py spos:Pos} (hN:X.N.Nodup) (hiN:X.N[i]?=some y) (hy:Loc X.env.scope y) (hc:X.calm=true) (hi:PI X (.Name x px) iter wi) (hfv:Fv X scope fvn js) (ok:CompOk X x fvn scope)
 (ht:∀ cl C ex s H,PTs (y2f X x fvn scope cl C ex s H) ifs tc) (he:∀ cl C ex s H,PE (y2f X x fvn scope cl C ex s H) elt te)
 (hsw:swapsWith (.ListComp elt [⟨.Name x px,iter,ifs,0⟩] scope pos) (some (.Name y py)) spos.line X.env=pure true:=by rfl)
 (hs:∀ x,foldedSetIterable iter X.env x=pure x:=by intro _;rfl) (hf:X.fn y=true∨X.env.scope.names.lookup y=some .local:=by first | exact .inl rfl | exact .inr rfl | assumption) :
 PS X (.Assign [.Name y py] (.ListComp elt [⟨.Name x px,iter,ifs,0⟩] scope pos) spos) (tAsg (tComp wi js tc te) (gName i)):=by
 intro pins s σ H D I h
 rw[exec_Assign_Name_used _ _ _ _ hsw]
 refine wpAny_bind (wpAny_standAt (wpAny_bind ?_))
 show wpAny _ X.A (do let _ ←comprehension (.ListComp elt [⟨.Name x px,iter,ifs,0⟩] scope pos) scope X.env _ (newList []) false (eval iter X.env) (some (assign (.Name y py) X.env))) _ _ s
 refine wpAny_bind (thn (wpAny_comprehension_free (use:=some (assign (.Name y py) X.env)) (Q:=fun _ s'=>SP X pins D .next s') rfl hs (z9c fun y hy e=>I.ok.has _ (hfv.mem (ok.free y hy e))) ok.kind ok.names
  (thn (hi pins s σ H _ I h) fun v s1 h1=>thn h1 fun itv s2 h2=>?_)) fun _ s' hq=>wpAny_pure (wpAny_pure hq))
 obtain⟨it,fp,tn,J,H2,rfl,I2,T,st2,f2,W,w0,turn⟩:=h2
 refine y7d rfl hc hfv ok ht he (Q:=fun v H'=>gName i v σ H' D.nx) (RR:=fun acc C=>compPost (model X.prog X.w) X.A X.xe (some (assign (.Name y py) X.env)) (fun _ s'=>SP X pins D .next s') acc C) I2 T st2 f2 W w0 turn ?_
 intro L C m s' H' hn IX fC q
 show wpAny _ X.A (assign (.Name y py) X.env (.ref L)) _ _ s'
 refine wpAny_assign_Name (y5j IX hN hiN hy (v:=.ref L) rfl (fun s'' I'' ⟨a,sb,ha⟩=>?_) hf)
 have hCa:C≠a:=by
  rcases ha with z | z
  ·rw[z];exact fC.2.1
  ·exact fun e=>fC.2.2.2.2.1 _ _ z e.symm
 refine⟨m,hn.sameBut sb hCa,fun h3 hs3=>?_⟩
 exact⟨_,H',I''.turned (t':=s''.toks) (fun b o hb e=>(hs3.2 b hb).trans e) fC.1 fC.2.1 fC.2.2.2.1 fC.2.2.2.2.1 fC.2.2.2.2.2,q⟩
end
end L2
namespace L2
open PySem PySem.Spec PyProof.Rows
theorem x9k:bootBuiltins "int" = some (.type "int"):=by decide +kernel
theorem y2h:bootBuiltins "bool" = some (.type "bool"):=by decide +kernel
theorem z5n:bootBuiltins "list" = some (.type "list"):=by decide +kernel
theorem z9d:bootBuiltins "tuple" = some (.type "tuple"):=by decide +kernel
theorem w2l:bootBuiltins "str" = some (.type "str"):=by decide +kernel
theorem z0w:bootBuiltins "isinstance" = some (.builtin "isinstance"):=by decide +kernel
theorem w2n:bootBuiltins "abs" = some (.builtin "abs"):=by decide +kernel
theorem w2m:bootBuiltins "max" = some (.builtin "max"):=by decide +kernel
theorem x9j:bootBuiltins "min" = some (.builtin "min"):=by decide +kernel
section
variable {X:Cx}
theorem pe_ty {x:Str} {n:String} {pos:Pos} (hm:X.mg x=none) (hv:bootBuiltins x=some (.type n)) (hg:Gl X x:=by rfl) (hn:x≠"__name__":=by decide) (hd:(x == ("__debug__" : Str))=false:=by decide):PE X (.Name x pos) (tC (.ty n)):=x9z hg hm hv rfl hn hd
inductive Ty where
 | non | bl | int | str | lst | tup
 deriving DecidableEq
def Ty.name:Ty->String
 | .non=>"NoneType" | .bl=>"bool" | .int=>"int" | .str=>"str" | .lst=>"list" | .tup=>"tuple"
def Ty.isa (a b:Ty):Bool:=decide (a=b) || (decide (a=.bl) && decide (b=.int))
theorem x9a (K:W.Frag) (a b:Ty):PySem.W.kitOne K (.type a.name) (.type b.name)=some (a.isa b):=by
 cases a<;>cases b<;>rfl
def TyIs (H:Hp):V->Ty->Prop
 | .non,.non=>True
 | .bl _,.bl=>True
 | .int _,.int=>True
 | .str _,.str=>True
 | .ref a,.lst=>∃ xs,Rd H a (.lst xs)
 | .ref a,.tup=>∃ xs,H a=some (.tup xs)
 | _,_=>False
theorem x5f {pins:List (Addr × Obj)} {σ:St} {H:Hp} {s:Shared} {x:V} {u:Value} {a:Ty} (I:Inv X pins σ H s) (rx:RelV x u) (ty:TyIs H x a) :
 ∃ P:Heap->Prop,PySem.W.KitX X.K u (.type a.name) P/\P s.heap/\u≠.builtin "__main__.__loader__#opaque":=by
 cases x with
 | non=>cases a<;>first | exact ty.elim | (cases (show u=Value.none from rx);exact⟨_,PySem.W.kitx_none,True.intro,fun z=>nomatch z⟩)
 | bl y=>cases a<;>first | exact ty.elim | (cases (show u=Value.bool y from rx);exact⟨_,PySem.W.kitx_bool,True.intro,fun z=>nomatch z⟩)
 | int i=>cases a<;>first | exact ty.elim | (obtain⟨t,q⟩:=(show ∃ t,u=Value.int i t from rx);cases q;exact⟨_,PySem.W.kitx_int,True.intro,fun z=>nomatch z⟩)
 | str y=>cases a<;>first | exact ty.elim | (obtain⟨t,q⟩:=(show ∃ t,u=Value.str y t from rx);cases q;exact⟨_,PySem.W.kitx_str,True.intro,fun z=>nomatch z⟩)
 | ref p =>
  cases (show u=Value.ref p from rx)
  cases a with
  | lst =>
   obtain⟨xs,e⟩:=ty
   obtain⟨_,_,n,_,h1⟩:=(show ObjOk X.prog X.w H s.heap p (.lst xs) from e.ok I.hok)
   exact⟨_,PySem.W.kitx_list,⟨_,h1,rfl⟩,fun z=>nomatch z⟩
  | tup =>
   obtain⟨xs,e⟩:=ty
   obtain⟨_,_,_,pp⟩:=(show ObjOk X.prog X.w H s.heap p (.tup xs) from I.hok p _ e)
   obtain⟨o,h1,h2,_⟩:=pp
   exact⟨_,PySem.W.kitx_tuple,⟨o,h1,h2⟩,fun z=>nomatch z⟩
  | _=>exact ty.elim
 | _=>cases a<;>exact ty.elim
theorem z2j:CallR X (.builtin "isinstance") (fun xs H Q=>∃ x a b,xs=[x,.ty (Ty.name b)]/\TyIs H x a/\Q (.bl (a.isa b)) H):=by
 intro pins s σ H xs us Q I r h
 obtain⟨x,a,b,rfl,ty,q⟩:=h
 obtain⟨u,w',rfl,ru,rw'⟩:=vals2 r
 cases (show w'=Value.type _ from rw')
 obtain⟨P,Z,p,nb⟩:=x5f I ru ty
 exact PySem.W.kia_one Z I.kIn p (x9a _ a b) nb fun tk=>⟨.bl _,H,I.tok tk,rfl,q⟩
theorem x5g (K:W.Frag) (a:Ty):∀ bs:List Ty,PySem.W.kitAny K (.type a.name) (bs.map fun b:Ty=>Value.type b.name)=some (bs.any a.isa)
 | []=>rfl
 | b::r=>by
  show (match PySem.W.kitOne K (.type a.name) (.type b.name) with | some true=>some true | some false=>PySem.W.kitAny K (.type a.name) (r.map fun b:Ty=>Value.type b.name) | none=>none)=_
  rw[x9a,x5g K a r,List.any_cons]
  cases a.isa b<;>rfl
theorem y9i:∀ {bs:List Ty} {us:List Value},Vals (bs.map fun b:Ty=>V.ty b.name) us->us=bs.map fun b:Ty=>Value.type b.name
 | [],_,.nil=>rfl
 | b::r,u::us,.cons q t=>by
  cases (show u=Value.type _ from q)
  rw[y9i (bs:=r) t];rfl
theorem x6p:CallR X (.builtin "isinstance") (fun xs H Q=>∃ (x:V) (p:Addr) (a:Ty) (bs:List Ty),xs=[x,.ref p]/\H p=some (.tup (bs.map fun b:Ty=>V.ty b.name))/\TyIs H x a/\Q (.bl (bs.any (Ty.isa a))) H):=by
 intro pins s σ H xs us Q I r h
 obtain⟨x,p,a,bs,rfl,hp,ty,q⟩:=h
 obtain⟨u,w',rfl,ru,rw'⟩:=vals2 r
 cases (show w'=Value.ref p from rw')
 obtain⟨P,Z,pp,nb⟩:=x5f I ru ty
 obtain⟨_,its,rv,o,h1,h2,n,h3⟩:=(show ObjOk X.prog X.w H s.heap p (.tup _) from I.hok p _ hp)
 obtain⟨c,dd,dt,sl⟩:=o
 cases (show c=_ from h2)
 cases (show dt=_ from h3)
 have e:=y9i rv
 subst e
 exact PySem.W.kia_tup Z I.kIn pp h1 (x5g _ a bs) nb fun tk=>⟨.bl _,H,I.tok tk,rfl,q⟩
def eqVs:List V->List V->Bool
 | [],[]=>true
 | x::xs,y::ys=>eqV x y && eqVs xs ys
 | _,_=>false
theorem x0x:∀ {xs ys:List V},xs.length≠ys.length->eqVs xs ys=false
 | [],[],h=>absurd rfl h
 | [],_::_,_=>rfl
 | _::_,[],_=>rfl
 | x::xs,y::ys,h=>by
  have:xs.length≠ys.length:=fun e=>h (by simp[e])
  simp[eqVs,x0x this]
theorem x0y:∀ {xs ys:List V},xs.length=ys.length->((List.range xs.length).all fun j=>eqV (xs.getD j .non) (ys.getD j .non))=eqVs xs ys
 | [],[],_=>rfl
 | x::xs,y::ys,h=>by
  have h':xs.length=ys.length:=by simpa using h
  rw[List.length_cons,List.range_succ_eq_map,List.all_cons,List.all_map,eqVs,←x0y h']
  rfl
def LCmp (K:W.Frag) (H:Hp) (x y:V) (k:Bool):Prop :=
 ∃ a b xs ys,x=.ref a/\y=.ref b/\SqL K H a xs/\SqL K H b ys/\((ys=[]/\k=xs.isEmpty)∨(xs.all flatV=true/\ys.all flatV=true/\k=eqVs xs ys))
theorem y9w {pins:List (Addr × Obj)} {σ:St} {H:Hp} {s:Shared} {x y:V} {v u:Value} {k:Bool} (hu:X.A.units < cLine) (I:Inv X pins σ H s) (rx:RelV x v) (ry:RelV y u) (h:LCmp X.K H x y k) :
 SeqAt.RcAt X.A s v u k/\SeqAt.RcNeAt X.A s v u (!k):=by
 obtain⟨a,b,xs,ys,rfl,rfl,hx,hy,hk⟩:=h
 cases (show v=Value.ref a from rx)
 cases (show u=Value.ref b from ry)
 obtain⟨its,r1,p1,z1⟩:=I.list hx
 obtain⟨its2,r2,p2,z2⟩:=I.list hy
 have l1:=r1.length
 have l2:=r2.length
 by_cases hl:xs.length=ys.length
 ·have hsz:its.toArray.size=its2.toArray.size:=by simp;omega
  have he:∀ j (h1:j < its.toArray.size) (h2:j < its2.toArray.size),SeqAt.EqAt X.A.in1 s its.toArray[j] its2.toArray[j] (eqV (xs.getD j .non) (ys.getD j .non)):=by
   intro j h1 h2
   have h1':j < its.length:=by simpa using h1
   have h2':j < its2.length:=by simpa using h2
   rcases hk with ⟨e,_⟩ | ⟨f1,f2,_⟩
   ·subst e;simp at l2;omega
   ·have j1:j < xs.length:=by omega
    have j2:j < ys.length:=by omega
    obtain⟨u1,e1,q1⟩:=r1.get (i:=j) (x:=xs[j]) (by simp[j1])
    obtain⟨u2,e2,q2⟩:=r2.get (i:=j) (x:=ys[j]) (by simp[j2])
    have g1:its.toArray[j]=u1:=by simp;rw[List.getElem?_eq_getElem h1']at e1;exact Option.some.inj e1
    have g2:its2.toArray[j]=u2:=by simp;rw[List.getElem?_eq_getElem h2']at e2;exact Option.some.inj e2
    rw[g1,g2]
    have d1:xs.getD j .non=xs[j]:=by simp[j1]
    have d2:ys.getD j .non=ys[j]:=by simp[j2]
    rw[d1,d2]
    exact x9h q1 q2 (List.all_eq_true.mp f1 _ (List.getElem_mem j1)) (List.all_eq_true.mp f2 _ (List.getElem_mem j2))
  have ek:(List.range its.toArray.size).all (fun j=>eqV (xs.getD j .non) (ys.getD j .non))=k:=by
   have:its.toArray.size=xs.length:=by simp[l1]
   rw[this,x0y hl]
   rcases hk with ⟨e,e'⟩ | ⟨_,_,e'⟩
   ·subst e
    have:xs=[]:=List.length_eq_zero_iff.mp (by simpa using hl)
    subst this;rw[e'];rfl
   ·exact e'.symm
  refine⟨?_,?_⟩
  ·rw[←ek];exact SeqAt.RcAt.lists p1.isList p2.isList hsz hu he
  ·rw[←ek];exact SeqAt.RcNeAt.lists p1.isList p2.isList hsz hu he
 ·have hsz:(its.toArray.size != its2.toArray.size)=true:=by
   rw[bne_iff_ne];simp;omega
  have ek:k=false:=by
   rcases hk with ⟨e,e'⟩ | ⟨_,_,e'⟩
   ·subst e
    cases xs with
    | nil=>exact absurd rfl hl
    | cons x xs=>exact e'
   ·rw[e',x0x hl]
  subst ek
  exact⟨SeqAt.RcAt.lists_lengths p1.isList p2.isList hsz hu,SeqAt.RcNeAt.lists_lengths p1.isList p2.isList hsz hu⟩
theorem x4f (hu:X.A.units < cLine):OpR X (compareOp .Eq) (fun x y H Q=>(∃ k,LCmp X.K H x y k/\Q (.bl k) H)∨(x=.non/\(∃ b ys,y=.ref b/\SqL X.K H b ys)/\Q (.bl false) H)):=by
 intro pins s σ H x y v u Q I rx ry h
 rcases h with ⟨k,c,q⟩ | ⟨rfl,⟨b,ys,rfl,hy⟩,q⟩
 ·exact (y9w hu I rx ry c).1 _ _ _ _ ⟨.bl k,H,I,rfl,q⟩
 ·cases (show v=Value.none from rx)
  cases (show u=Value.ref b from ry)
  obtain⟨its,r,p,z⟩:=I.list hy
  exact SeqAt.RcAt.none_list p.isList hu _ _ _ _ ⟨.bl false,H,I,rfl,q⟩
theorem x4d (hu:X.A.units < cLine):OpR X (compareOp .NotEq) (fun x y H Q=>∃ k,LCmp X.K H x y k/\Q (.bl (!k)) H):=by
 intro pins s σ H x y v u Q I rx ry h
 obtain⟨k,c,q⟩:=h
 exact (y9w hu I rx ry c).2 _ _ _ _ ⟨.bl (!k),H,I,rfl,q⟩
section
open MeetsSeq MeetsSeq2 AutoSeq1
theorem y7a (l:Addr) (items:Array Value) (n:Nat) (b:Addr) (items2:Array Value) (n2:Nat) (dd:Option Addr) (sl:Array (Option Value)) (hs0:¬(!items.isEmpty && Builtin.List.listTooLong (items.size+items2.size))=true) (hs1:items.size<=sizeLine) (hs2:items.size+items2.size<=sizeLine+1) :
 Meets (Builtin.«list.extend» ⟨[.ref l,.ref b],[]⟩) (fun _ R s=>s.heap.get? l=some { cls:=.type "list",dict:=none,data:=.seq items n,slots:=#[] }/\s.heap.get? b=some { cls:=.type "tuple",dict:=dd,data:=.seq items2 n2,slots:=sl }/\R (.ok (.ret Value.none)) { s with heap:=s.heap.update l (Obj.mapSeq fun x=>x++items2),toks:=s.toks }) :=
 .of_wp fun prog w A R s h=>by
  obtain⟨hp,g,d,tk,os⟩:=s;obtain⟨hl,hb,h⟩:=h;have f1:=PySem.AutoSeq1.idx_int;have f2:=PySem.AutoSeq1.sub_tuple_tuple;have f3:=PySem.AutoSeq1.sub_list_list;have f4:=PySem.AutoSeq1.sub_tuple_list;have f5:=PySem.AutoSeq1.sub_list_tuple;
  have hz':(items++items2).size<=sizeLine+1:=by rw[Array.size_append];exact hs2
  wp_walk using (wpAny_updateSeq hl rfl (hz:=hs1) (_hz':=hz')),PySem.AutoSeq1.wpAny_loadPart' hl,PySem.AutoSeq1.wpAny_loadPart' hb;exact⟨_,rfl,h⟩
end
def x3t:V->List V->Hp->VK->Prop:=fun x vs H Q=>∃ l b xs zs,x=.ref l/\vs=[.ref b]/\H l=some (.lst xs)/\(H b=some (.lst zs)∨H b=some (.tup zs))/\xs.length+zs.length<=sizeLine/\Q .non (upd H l (.lst (xs++zs)))
theorem z2r:MtM X "list.extend" x3t:=by
 intro pins s σ H x vs v us Q I rx rv h
 obtain⟨l,b,xs,zs,rfl,rfl,hH,hB,hz,q⟩:=h
 rcases hB with hB | hB
 ·exact x4x pins s σ H _ _ v us Q I rx rv ⟨l,b,xs,zs,rfl,rfl,hH,hB,hz,q⟩
 ·cases rx
  obtain⟨u,rfl,ru⟩:=rv.one
  cases ru
  obtain⟨z,its,n,r,hl,e⟩:=I.lstM hH
  obtain⟨z2,its2,r2,o,e2,c2,n2,d2⟩:=(show ObjOk X.prog X.w H s.heap b (.tup zs) from I.hok b _ hB)
  have hl2:=r2.length
  have hsz:its.toArray.size+its2.toArray.size<=sizeLine:=by rw[List.size_toArray,List.size_toArray];omega
  have hlong:¬ (!its.toArray.isEmpty && Builtin.List.listTooLong (its.toArray.size+its2.toArray.size))=true:=by
   rw[x0f hsz,Bool.and_false]
   exact Bool.false_ne_true
  refine call_meets F.slot_list_extend ⟨_,e,rfl⟩ F.entry_list_extend (F.args_list_extend_2 _ _)
   (y7a l its.toArray n b its2.toArray n2 o.dict o.slots hlong (by rw[List.size_toArray];omega) (by omega)) ⟨e,?_,?_⟩
  ·obtain⟨c,dd,dt,sl⟩:=o
   cases (show c=_ from c2)
   cases (show dt=_ from d2)
   exact e2
  ·refine⟨.non,_,I.lset (its':=its++its2) hH e (by simp) (r.append r2) ?_,rfl,q⟩
   rw[List.length_append]
   omega
structure Cal (P:Program) (w:World) (K:W.Frag) (mg:Str->Option Value) (base:Heap) (k:Nat) (x:Str) (ps:List Str) (sp:Sp):Prop where
 ex:∃ f fd,FnOk P w K mg base CX0 k f fd ps sp/\mg x=some (.ref f)/\PySem.W.keepIn K (.ref f)=true/\Binds K fd ps []
theorem z1d {k m:Nat} {x:Str} {ps:List Str} {sp:Sp} {p pos:Pos} {e:Expr} {es:List Expr} {t:TA} (C:Cal X.prog X.w X.K X.mg X.base k x ps sp) (hr:Room m X.A) (hk:k<=m) (ha:PA X (e::es) t) (hg:Gl X x:=by rfl)
 (hdb:(x == ("__debug__" : Str))=false:=by decide) (he:starEach (e::es) X.env=(false,eval e X.env)::starEach es X.env:=by rfl) (hpl:(backTo pos (starEach es X.env)).any (·.1)=false:=by rfl) :
 PE X (.Call (.Name x p) (e::es) [] pos) (tCall sp [] E0 t):=by
 obtain⟨f,fd,F,hm,hkp,hb⟩:=C.ex
 exact x9y F (hr.mono hk) hg hm hkp hb .nil pass0 ha hdb he hpl
end
structure Def (K:W.Frag) (mg:Str->Option Value) (x:Str) (st:Stmt) (ps:List Str):Prop where
 ex:∃ f fd,Fun K x x st f fd/\mg x=some (.ref f)/\Binds K fd ps []
theorem Def.cal {P:Program} {w:World} {K:W.Frag} {mg:Str->Option Value} {base:Heap} {x:Str} {st:Stmt} {N ps:List Str} {k:Nat} {sp:Sp} (D:Def K mg x st ps) (S:FnScope N ps (z0f st)) (len:∀ vs H Q E,sp vs H Q E->vs.length=ps.length)
 (hbody:∀ (f:Addr) (cdv:Value) (A:Around) (outer:List Env) (s:Shared) (H:Hp) (vs:List V) (Q:VK) (E:XK),Room k (A.deeper (envOfC x (z0f st) s.heap.objs.size f cdv))->sp vs H Q E ->
  ∃ t,PSs (cxOf CX0 P w K mg base N x (z0f st) f cdv A outer s H E).nox (z0m st) t/\t { nx:=fun _ H'=>Q .non H',rt:=Q } (start N vs) H):Cal P w K mg base (k+1) x ps sp:=by
 obtain⟨f,fd,F,hm,hb⟩:=D.ex
 exact⟨f,fd,F.ok S len (hbody f),hm,F.kp,hb⟩
theorem Cal.imp {P:Program} {w:World} {K:W.Frag} {mg:Str->Option Value} {base:Heap} {k:Nat} {x:Str} {ps:List Str} {sp sp':Sp} (C:Cal P w K mg base k x ps sp) (h:∀ vs H Q E,sp' vs H Q E->sp vs H Q E):Cal P w K mg base k x ps sp':=by
 obtain⟨f,fd,F,a,b,c⟩:=C.ex
 exact⟨f,fd,F.imp h,a,b,c⟩
theorem hu0 {A:Around} {k:Nat} (hr:Room k A):A.units < cLine:=hr.units0
structure Blt (mg:Str->Option Value):Prop where
 len_:mg "len" = none
 abs_:mg "abs" = none
 isinstance_:mg "isinstance" = none
 int_:mg "int" = none
 bool_:mg "bool" = none
 list_:mg "list" = none
 tuple_:mg "tuple" = none
 str_:mg "str" = none
 range_:mg "range" = none
 max_:mg "max" = none
 min_:mg "min" = none
 sorted_:mg "sorted" = none
 set_:mg "set" = none
 enumerate_:mg "enumerate" = none
 reversed_:mg "reversed" = none
 any_:mg "any" = none
end L2
namespace L2
open PySem PySem.Spec PyProof.Rows
theorem z1t {K:W.Frag} {h:Heap} {mg:Str->Option Value} {x:Str} {st:Stmt} {ps:List Str} {f:Addr} {oc:Value} {od an:Option Addr} {osl:Array (Option Value)} {kV doc pm cdv ct:Value} (X:K.In h) (G:h.Ns mainGlobals mg)
 (a:PySem.W.nsIn K mainGlobals x=some (some (.ref f))) (l:K.lookup f=some ⟨oc,od,.func (PySem.W.fnOf x x (z0s st) (z0m st) (z0f st) .none kV doc pm an cdv ct),osl⟩) (c:PySem.W.codeIn K cdv x=true) (k:PySem.W.keepIn K (.ref f)=true)
 (b:∀ (kV doc pm:Value) (an:Option Addr) (cdv ct:Value) (us:List Value),us.length=ps.length->bindArgs (PySem.W.fnOf x x (z0s st) (z0m st) (z0f st) .none kV doc pm an cdv ct) ⟨us,[]⟩=pure (ps.zip us)):Def K mg x st ps :=
 ⟨f,_,y6x l c k,PySem.W.mg_of X G a,(y6x l c k).binds b⟩
end L2
namespace L2
open PySem PySem.Spec PyProof.Rows
theorem Same.upd {H H':Hp} {l:Addr} {o:HO} (e:Same H H') (hl:H l=none):Same H (L2.upd H' l o):=fun b u h=>by
 rw[z0g (z0h h hl)];exact e b u h
theorem z5c {α:Type}:∀ l:List α,l=[]∨∃ r x,l=r++[x]
 | []=>.inl rfl
 | a::l=>by
  rcases z5c l with rfl | ⟨r,x,rfl⟩
  ·exact .inr ⟨[],a,rfl⟩
  ·exact .inr ⟨a::r,x,rfl⟩
theorem len1 {v:V}:[v].length<=sizeLine:=by show 1<=sizeLine;decide
theorem len2 {v u:V}:[v,u].length<=sizeLine:=by show 2<=sizeLine;decide
theorem z1r {n:Nat} (h:n<=16700000):n < sizeLine:=Nat.lt_of_le_of_lt h (by decide)
theorem z1o {n:Nat} (h:n<=16700000):n<=sizeLine:=Nat.le_of_lt (z1r h)
theorem getV {α:Type} {f:α->V} {ns:List α} {i:Nat} {y:V} (h:(ns.map f)[i]?=some y):∃ n,ns[i]?=some n/\y=f n:=by
 rw[List.getElem?_map]at h
 cases e:ns[i]? with
 | none=>rw[e]at h;cases h
 | some n=>rw[e]at h;exact⟨n,rfl,(Option.some.inj h).symm⟩
inductive D where
 | non | bl (b:Bool) | int (i:Int) | str (x:Str) | lst (ds:List D) | tup (ds:List D)
mutual
def At (H:Hp):D->V->Prop
 | .non,v=>v=.non
 | .bl b,v=>v=.bl b
 | .int i,v=>v=.int i
 | .str x,v=>v=.str x
 | .lst ds,v=>∃ a vs,v=.ref a/\H a=some (.lst vs)/\AtL H ds vs
 | .tup ds,v=>∃ a vs,v=.ref a/\H a=some (.tup vs)/\AtL H ds vs
def AtL (H:Hp):List D->List V->Prop
 | [],vs=>vs=[]
 | d::ds,vs=>∃ v r,vs=v::r/\At H d v/\AtL H ds r
end
mutual
theorem At.mono {H H':Hp} (e:Same H H'):∀ {d:D} {v:V},At H d v->At H' d v
 | .non,_,h=>by unfold At at h ⊢;exact h
 | .bl _,_,h=>by unfold At at h ⊢;exact h
 | .int _,_,h=>by unfold At at h ⊢;exact h
 | .str _,_,h=>by unfold At at h ⊢;exact h
 | .lst ds,_,h=>by
  unfold At at h ⊢
  obtain⟨a,vs,h1,h2,h3⟩:=h
  exact⟨a,vs,h1,e _ _ h2,AtL.mono e h3⟩
 | .tup ds,_,h=>by
  unfold At at h ⊢
  obtain⟨a,vs,h1,h2,h3⟩:=h
  exact⟨a,vs,h1,e _ _ h2,AtL.mono e h3⟩
theorem AtL.mono {H H':Hp} (e:Same H H'):∀ {ds:List D} {vs:List V},AtL H ds vs->AtL H' ds vs
 | [],_,h=>by unfold AtL at h ⊢;exact h
 | d::ds,_,h=>by
  unfold AtL at h ⊢
  obtain⟨v,r,h1,h2,h3⟩:=h
  exact⟨v,r,h1,At.mono e h2,AtL.mono e h3⟩
end
theorem AtL.nil {H:Hp}:AtL H [] []:=by unfold AtL;rfl
theorem AtL.cons {H:Hp} {d:D} {ds:List D} {v:V} {vs:List V} (h:At H d v) (hs:AtL H ds vs):AtL H (d::ds) (v::vs):=by
 unfold AtL;exact⟨v,vs,rfl,h,hs⟩
theorem AtL.append {H:Hp}:∀ {ds es:List D} {vs us:List V},AtL H ds vs->AtL H es us->AtL H (ds++es) (vs++us)
 | [],_,_,_,h,h'=>by unfold AtL at h;subst h;exact h'
 | d::ds,_,_,_,h,h'=>by
  unfold AtL at h
  obtain⟨v,r,rfl,h1,h2⟩:=h
  exact AtL.cons h1 (AtL.append h2 h')
theorem AtL.length {H:Hp}:∀ {ds:List D} {vs:List V},AtL H ds vs->ds.length=vs.length
 | [],_,h=>by unfold AtL at h;subst h;rfl
 | d::ds,_,h=>by
  unfold AtL at h
  obtain⟨v,r,rfl,h1,h2⟩:=h
  simp[AtL.length h2]
theorem AtL.last {H:Hp}:∀ {ds:List D} {vs:List V} {d:D},AtL H (ds++[d]) vs->∃ r v,vs=r++[v]/\AtL H ds r/\At H d v
 | [],vs,d,h=>by
  rw[List.nil_append]at h
  unfold AtL at h
  obtain⟨v,r,rfl,h1,h2⟩:=h
  unfold AtL at h2;subst h2
  exact⟨[],v,rfl,AtL.nil,h1⟩
 | e::ds,vs,d,h=>by
  rw[List.cons_append]at h
  unfold AtL at h
  obtain⟨v,r,rfl,h1,h2⟩:=h
  obtain⟨r',v',rfl,h3,h4⟩:=AtL.last h2
  exact⟨v::r',v',rfl,AtL.cons h1 h3,h4⟩
def dInts (ns:List Int):List D:=ns.map .int
def dBools (bs:List Bool):List D:=bs.map .bl
theorem AtL.ofInts {H:Hp} (ns:List Int):AtL H (L2.dInts ns) (ns.map V.int):=by
 induction ns with
 | nil=>exact AtL.nil
 | cons n r ih=>exact AtL.cons (by unfold At;rfl) ih
theorem AtL.ofBools {H:Hp} (ns:List Bool):AtL H (L2.dBools ns) (ns.map V.bl):=by
 induction ns with
 | nil=>exact AtL.nil
 | cons n r ih=>exact AtL.cons (by unfold At;rfl) ih
theorem At.ofInts {H:Hp} {a:Addr} {ns:List Int} (h:H a=some (.lst (ns.map V.int))):At H (.lst (L2.dInts ns)) (.ref a):=by
 unfold At;exact⟨a,_,rfl,h,AtL.ofInts ns⟩
theorem At.ofBools {H:Hp} {a:Addr} {ns:List Bool} (h:H a=some (.lst (ns.map V.bl))):At H (.lst (L2.dBools ns)) (.ref a):=by
 unfold At;exact⟨a,_,rfl,h,AtL.ofBools ns⟩
mutual
def D.size:D->Nat
 | .lst ds=>1+sizes ds
 | .tup ds=>1+sizes ds
 | .non=>1
 | .bl _=>1
 | .int _=>1
 | .str _=>1
def sizes:List D->Nat
 | []=>0
 | d::ds=>d.size+sizes ds
end
mutual
def D.plain:D->Bool
 | .str _=>false
 | .lst ds=>z4g ds
 | .tup ds=>z4g ds
 | .non=>true
 | .bl _=>true
 | .int _=>true
def z4g:List D->Bool
 | []=>true
 | d::ds=>d.plain && z4g ds
end
theorem z3w:∀ (ds es:List D),sizes (ds++es)=sizes ds+sizes es
 | [],es=>by simp[sizes]
 | d::ds,es=>by rw[List.cons_append,sizes,sizes,z3w ds es];omega
theorem z4y:∀ (ds es:List D),z4g (ds++es)=(z4g ds && z4g es)
 | [],es=>by simp[z4g]
 | d::ds,es=>by rw[List.cons_append,z4g,z4g,z4y ds es,Bool.and_assoc]
theorem z4w:∀ (ds:List D),ds.length<=sizes ds
 | []=>Nat.zero_le _
 | d::ds=>by
  have h:=z4w ds
  have h1:1<=d.size:=by cases d<;>simp[D.size]<;>omega
  rw[List.length_cons,sizes];omega
theorem x1i (ns:List Int):sizes (dInts ns)=ns.length:=by
 induction ns with
 | nil=>rfl
 | cons n r ih=>show (D.int n).size+sizes (dInts r)=_;rw[ih,D.size,List.length_cons];omega
theorem y7w (ns:List Bool):sizes (dBools ns)=ns.length:=by
 induction ns with
 | nil=>rfl
 | cons n r ih=>show (D.bl n).size+sizes (dBools r)=_;rw[ih,D.size,List.length_cons];omega
theorem y8d (ns:List Int):z4g (dInts ns)=true:=by
 induction ns with
 | nil=>rfl
 | cons n r ih=>show ((D.int n).plain && z4g (dInts r))=_;rw[ih];rfl
theorem y5v (ns:List Bool):z4g (dBools ns)=true:=by
 induction ns with
 | nil=>rfl
 | cons n r ih=>show ((D.bl n).plain && z4g (dBools r))=_;rw[ih];rfl
end L2
namespace L2
open PySem PySem.Spec PyProof.Rows
abbrev CompW (J:It) (σ:St) (js:List Nat) (tc:TT) (te:TE) (Q:VK) (H1:Hp):Prop:=∃ W:Nat->Nat->List V->Hp->Prop,(∃ m,W 0 m [] H1)/\∀ i m ys H,W i m ys H ->
 (J.stop i H/\∀ l,H l=none->Q (.ref l) (upd H l (.lst ys))) ∨
 (J.go i H/\ys.length < sizeLine/\∀ x H',J.yld i H x H'->tc (inner σ js (some x)) H' fun b H2 =>
  if b=true then te (inner σ js (some x)) H2 fun v H3=>∃ m',m' < m/\W (i+1) m' (ys++[v]) H3 else ∃ m',m' < m/\W (i+1) m' ys H2)
theorem y7c {K:W.Frag} {a:Addr} {xs:List V} {σ:St} {js:List Nat} {tc:TT} {te:TE} {Q:VK} {H:Hp} (Pv:Nat->List V->Hp->Prop) (h0:Pv 0 [] H) (hz:xs.length<=sizeLine)
 (hl:∀ i ys H,i<=xs.length->Pv i ys H->SqL K H a xs)
 (hs:∀ i x ys H (N:List V->Hp->Prop),xs[i]?=some x->ys.length<=i->Pv i ys H->(∀ ys' H',Pv (i+1) ys' H'->ys'.length<=i+1->N ys' H') ->
  tc (inner σ js (some x)) H fun b H2=>if b=true then te (inner σ js (some x)) H2 fun v H3=>N (ys++[v]) H3 else N ys H2)
 (hd:∀ ys H,Pv xs.length ys H->∀ l,H l=none->Q (.ref l) (upd H l (.lst ys))):CompW (Itl K a) σ js tc te Q H:=by
 refine⟨fun i m ys H=>m=xs.length - i/\i<=xs.length/\ys.length<=i/\Pv i ys H,⟨xs.length,by simp,Nat.zero_le _,Nat.le_refl _,h0⟩,?_⟩
 rintro i m ys H ⟨rfl,hi,hy,p⟩
 have q:=hl i ys H hi p
 by_cases hlt:i < xs.length
 ·refine .inr ⟨⟨xs,xs[i],q,by simp[hlt]⟩,by omega,fun x H' y=>?_⟩
  obtain⟨e,y⟩:=y
  subst e
  exact hs i x ys _ (fun ys' H'=>∃ m',m' < xs.length - i/\m'=xs.length - (i+1)/\i+1<=xs.length/\ys'.length<=i+1/\Pv (i+1) ys' H') (y xs q) hy p fun ys' H' p' l'=>⟨_,by omega,rfl,hlt,l',p'⟩
 ·have e:i=xs.length:=by omega
  subst e
  exact .inl ⟨⟨xs,q,Nat.le_refl _⟩,hd ys H p⟩
theorem x2q {lo:Int} {n:Nat} {σ:St} {js:List Nat} {tc:TT} {te:TE} {Q:VK} {H:Hp} (Pv:Nat->List V->Hp->Prop) (h0:Pv 0 [] H) (hz:n<=sizeLine)
 (hs:∀ i ys H (N:List V->Hp->Prop),i < n->ys.length<=i->Pv i ys H->(∀ ys' H',Pv (i+1) ys' H'->ys'.length<=i+1->N ys' H') ->
  tc (inner σ js (some (.int (lo+i)))) H fun b H2=>if b=true then te (inner σ js (some (.int (lo+i)))) H2 fun v H3=>N (ys++[v]) H3 else N ys H2)
 (hd:∀ ys H,Pv n ys H->∀ l,H l=none->Q (.ref l) (upd H l (.lst ys))):CompW (Itr lo n) σ js tc te Q H:=by
 refine⟨fun i m ys H=>m=n - i/\i<=n/\ys.length<=i/\Pv i ys H,⟨n,by simp,Nat.zero_le _,Nat.le_refl _,h0⟩,?_⟩
 rintro i m ys H ⟨rfl,hi,hy,p⟩
 by_cases hlt:i < n
 ·refine .inr ⟨hlt,by omega,fun x H' y=>?_⟩
  obtain⟨e,y⟩:=y
  subst e y
  exact hs i ys _ (fun ys' H'=>∃ m',m' < n - i/\m'=n - (i+1)/\i+1<=n/\ys'.length<=i+1/\Pv (i+1) ys' H') hlt hy p fun ys' H' p' l'=>⟨_,by omega,rfl,hlt,l',p'⟩
 ·have e:i=n:=by omega
  subst e
  exact .inl ⟨Nat.le_refl _,hd ys H p⟩
theorem z5m {K:W.Frag} {a:Addr} {α:Type} {xs:List α} {g:α->V} {σ:St} {js:List Nat} {tc:TT} {te:TE} {Q:VK} {H:Hp} (p:α->Bool) (f:α->V) (hz:xs.length<=sizeLine) (hl:SqL K H a (xs.map g))
 (ht:∀ x∈xs,∀ R:Bool->Hp->Prop,R (p x) H->tc (inner σ js (some (g x))) H R) (he:∀ x∈xs,p x=true->∀ R:VK,R (f x) H->te (inner σ js (some (g x))) H R)
 (hd:∀ l,H l=none->Q (.ref l) (upd H l (.lst ((xs.filter p).map f)))):CompW (Itl K a) σ js tc te Q H:=by
 refine y7c (xs:=xs.map g) (fun i ys H'=>H'=H/\ys=((xs.take i).filter p).map f) ⟨rfl,by simp⟩ (by simpa using hz) (fun i ys H' _ e=>by rw[e.1];exact hl) ?_ ?_
 ·rintro i x ys _ N hx hy ⟨rfl,rfl⟩ hN
  obtain⟨n,hn,rfl⟩:=getV hx
  have hm:=List.mem_of_getElem? hn
  refine ht n hm _ ?_
  have e1:(xs.take (i+1)).filter p=(xs.take i).filter p++(if p n then [n] else []):=take_succ_filter p xs i n hn
  cases hp:p n with
  | true =>
   rw[if_pos rfl]
   refine he n hm hp _ (hN _ _ ⟨rfl,?_⟩ (by simpa using hy))
   rw[e1,hp];simp
  | false =>
   rw[if_neg Bool.false_ne_true]
   refine hN _ _ ⟨rfl,?_⟩ (by omega)
   rw[e1,hp];simp
 ·rintro ys _ ⟨rfl,rfl⟩ l h
  have:=hd l h
  simpa using this
theorem y3m {lo:Int} {n:Nat} {σ:St} {js:List Nat} {tc:TT} {te:TE} {Q:VK} {H:Hp} (p:Nat->Bool) (f:Nat->V) (hz:n<=sizeLine)
 (ht:∀ i,i < n->∀ R:Bool->Hp->Prop,R (p i) H->tc (inner σ js (some (.int (lo+i)))) H R) (he:∀ i,i < n->p i=true->∀ R:VK,R (f i) H->te (inner σ js (some (.int (lo+i)))) H R)
 (hd:∀ l,H l=none->Q (.ref l) (upd H l (.lst (((List.range n).filter p).map f)))):CompW (Itr lo n) σ js tc te Q H:=by
 refine x2q (fun i ys H'=>H'=H/\ys=((List.range i).filter p).map f) ⟨rfl,by simp⟩ hz ?_ ?_
 ·rintro i ys _ N hi hy ⟨rfl,rfl⟩ hN
  refine ht i hi _ ?_
  have e1:(List.range (i+1)).filter p=(List.range i).filter p++(if p i then [i] else []):=by
   rw[List.range_succ,List.filter_append]
   cases hp:p i<;>simp[hp]
  cases hp:p i with
  | true =>
   rw[if_pos rfl]
   refine he i hi hp _ (hN _ _ ⟨rfl,?_⟩ (by simpa using hy))
   rw[e1,hp];simp
  | false =>
   rw[if_neg Bool.false_ne_true]
   refine hN _ _ ⟨rfl,?_⟩ (by omega)
   rw[e1,hp];simp
 ·rintro ys _ ⟨rfl,rfl⟩ l h
  exact hd l h
theorem w2e {k:Key} {v:Value} (h:keyIs k v=true):RelV (kV k) v:=by
 rcases z1s h with ⟨i,t,rfl,rfl⟩ | ⟨x,t,rfl,rfl⟩
 ·exact⟨t,rfl⟩
 ·exact⟨t,rfl⟩
theorem z8d:∀ {xs:List V} {us:List Value},xs.length=us.length->(∀ (i:Nat) x u,xs[i]?=some x->us[i]?=some u->RelV x u)->Vals xs us
 | [],[],_,_=>.nil
 | x::xs,u::us,hl,h=>.cons (h 0 x u rfl rfl) (z8d (by simpa using hl) fun i a b e1 e2=>h (i+1) a b (by simpa using e1) (by simpa using e2))
 | [],_::_,hl,_=>by simp at hl
 | _::_,[],hl,_=>by simp at hl
section
variable {X:Cx}
theorem x2r (hc:X.calm=true):CallR X (.type "list") (fun xs H Q=>∃ a kvs,xs=[V.ref a]/\Rd H a (.dK kvs)/\∀ l,H l=none->Q (.ref l) (upd H l (.lst (kvs.map fun p=>kV p.1)))):=by
 intro pins s σ H xs us Q I r h
 obtain⟨a,kvs,rfl,ha,q⟩:=h
 obtain⟨u,rfl,ru⟩:=vals1 r
 cases (show u=Value.ref a from ru)
 obtain⟨hz,lo,vs,rel,o,es,ep,h1,h2,h3,h4,h5,h6⟩:=dk_rd I.hok ha
 have hok:s.heap.DictAt (z1q X.prog X.w) a vs ep:=⟨o,es,h1,h2,h3,h4,h5,h6⟩
 have hlen:kvs.length=vs.length:=rel.length
 refine PySem.W.kdl_call (PySem.W.kdl_dict (ep:=ep) lo) (I.ok.hd hc) hok (by omega) fun h' tk acc' c' hk hD hacc=>?_
 have fr:=I.hok.fresh (Nat.le_refl s.heap.objs.size)
 refine⟨.ref s.heap.objs.size,_,I.laid (o:=.lst (kvs.map fun p=>kV p.1)) hk (Nat.le_refl _) ⟨by simpa using hz,acc'.toList,c',?_,by simpa using hD⟩,rfl,q _ fr⟩
 have hs:=hacc.1
 refine z8d (by simp;omega) fun i x u e1 e2=>?_
 obtain⟨k,x',e3,e4⟩:=hacc.2 i u (by simpa using e2)
 rw[List.getElem?_map]at e1
 cases e5:kvs[i]? with
 | none=>rw[e5]at e1;cases e1
 | some p =>
  rw[e5]at e1
  have e1':kV p.1=x:=Option.some.inj e1
  subst e1'
  have:p.1=k:=by
   have:=rel.keys
   have g1:(kvs.map (·.1))[i]?=some p.1:=by rw[List.getElem?_map,e5];rfl
   have g2:(vs.map (·.1))[i]?=some k:=by rw[List.getElem?_map,e3];rfl
   rw[this,g2]at g1
   exact (Option.some.inj g1).symm
  rw[this]
  exact w2e e4
end
end L2
namespace L2
open PySem PySem.Spec PyProof.Rows
theorem y2g:bootBuiltins "reversed" = some (.type "reversed"):=by decide +kernel
theorem x3r:typeLookup (.type "list_reverseiterator") (Str.ofString "__len__")=pure none:=by rw[typeLookup_type,builtinLookup_eq_fast];kernel_rfl
theorem x7d:typeLookup (.type "list_reverseiterator") (Str.ofString "__length_hint__")=pure (some (.builtin "list_reverseiterator.__length_hint__")):=by rw[typeLookup_type,builtinLookup_eq_fast];kernel_rfl
section
variable {prog:Program} {w:World} {A:Around} {E:Value->Shared->Prop} {s:Shared}
theorem x7z {it:Addr} {Q:Bool->Shared->Prop} (hT:s.TypeIs (.ref it) "list_reverseiterator") (h:Q false s):wpAny (model prog w) A (Builtin.List.listLengthHint (.ref it)) Q E s:=by
 unfold Builtin.List.listLengthHint
 refine wpAny_bind (wpAny_specialOf hT x3r ?_)
 show wpAny _ A (specialOf (Value.ref it) (Str.ofString "__length_hint__") >>= _) _ _ _
 refine wpAny_bind (wpAny_specialOf hT x7d ?_)
 generalize hid:("list_reverseiterator.__length_hint__" : String)=id0
 wp_delta
 rw[show splitId id0=some ("list_reverseiterator","__length_hint__") from by subst hid;decide +kernel]
 subst hid
 refine wpAny_bind (wpAny_isInstance (b:=true) hT (by rw[isSubtype_type];kernel_rfl) ?_)
 exact wpAny_pure h
theorem y8z {it l:Addr} {items:Array Value} {Q:Value->Shared->Prop} (hh:A.handled=none) (hne:l≠it) (hit:s.heap.IsRevIter it l ((items.size:Int) - 1)) (hl:s.heap.IsList l items) (hn:items.size<=sizeLine)
 (hQ:∀ h' tk acc' c',(∀ b o,b≠it->s.heap.get? b=some o->h'.get? b=some o)->h'.get? s.heap.objs.size=some { cls:=.type "list",dict:=none,data:=.seq acc' c',slots:=#[] }->ItemsOf (fun i v=>items[items.size - 1 - i]?=some v) acc' items.size->Q (.ref s.heap.objs.size) { s with heap:=h',toks:=tk }) :
 wpAny (model prog w) A (call (.type "list") [.ref it]) Q E s:=by
 have hitl:it < s.heap.objs.size:=by obtain⟨o,e,_⟩:=hit;exact Heap.lt_size e
 have hll:l < s.heap.objs.size:=by obtain⟨o,e,_⟩:=hl;exact Heap.lt_size e
 refine callType_codes (Q₁:=fun obj s₁=>obj=.ref s.heap.objs.size/\s₁={ s with heap:=s.heap.push { cls:=.type "list",data:=.seq #[] } }) PySem.F.called_list (PySem.F.typeCall_list_1 _) PySem.F.entry_list_init
  (code_list_new _ ⟨rfl,rfl⟩) fun obj s₁ h₁=>?_
 obtain⟨rfl,rfl⟩:=h₁
 generalize hSz:s.heap.objs.size=S at *
 have hS:(s.heap.push { cls:=.type "list",data:=.seq #[] }).get? S=some { cls:=.type "list",data:=.seq #[] }:=by rw[←hSz];exact Heap.get?_push_size _ rfl
 have up:∀ b o,s.heap.get? b=some o->(s.heap.push { cls:=.type "list",data:=.seq #[] }).get? b=some o:=fun b o e=>Heap.get?_push_of_some _ e
 have hSi:S≠it:=z8b (.inr hitl)
 have hSl:S≠l:=z8b (.inr hll)
 have W:=Walks.listRev (prog:=prog) (w:=w) (A:=A.in1.in1) hh it l hne items
 refine⟨⟨_,hS,rfl⟩,PySem.F.args_list_init_2 _ _,?_⟩
 show wpAny _ _ (do let old ←Builtin.List.listItems (.ref S);Builtin.List.listUpdate (.ref S) (fun _=>#[]);letGo old.toList.reverse;Builtin.List.listExtendWith (.ref S) (.ref it) .none) _ _ _
 refine wpAny_bind ?_
 unfold Builtin.List.listItems
 refine wpAny_bind (wpAny_seqItems hS rfl (wpAny_pure ?_))
 show wpAny _ _ (updateSeq S (fun _=>#[]) >>= fun _=>letGo (#[]:Array Value).toList.reverse >>= fun _=>Builtin.List.listExtendWith (.ref S) (.ref it) .none) _ _ _
 refine wpAny_bind (wpAny_updateSeq hS rfl ?_)
 have hS₂:=Heap.get?_update_self (Obj.mapSeq (fun _=>(#[]:Array Value))) hS rfl
 have oth:∀ b o,b≠S->s.heap.get? b=some o->((s.heap.push { cls:=.type "list",data:=.seq #[] }).update S (Obj.mapSeq (fun _=>(#[]:Array Value)))).get? b=some o :=
  fun b o hb e=>(Heap.get?_update_other _ _ (Ne.symm hb)).trans (up b o e)
 have hit2:((s.heap.push { cls:=.type "list",data:=.seq #[] }).update S (Obj.mapSeq (fun _=>(#[]:Array Value)))).IsRevIter it l ((items.size:Int) - 1):=by
  obtain⟨o,e,c,d⟩:=hit;exact⟨o,oth _ _ hSi.symm e,c,d⟩
 have hl2:((s.heap.push { cls:=.type "list",data:=.seq #[] }).update S (Obj.mapSeq (fun _=>(#[]:Array Value)))).IsList l items:=by
  obtain⟨o,e,c,d⟩:=hl;exact⟨o,oth _ _ hSl.symm e,c,d⟩
 refine wpAny_bind (wpAny_letGo ?_)
 unfold Builtin.List.listExtendWith
 refine wpAny_bind (wpAny_typeOf (T:="list_reverseiterator") hit2.typeIs ?_)
 have h1:Builtin.List.listSameRef (.ref S) (.ref it)=false:=by simp[Builtin.List.listSameRef,hSi]
 have h2:(Value.type "list_reverseiterator" == Value.type "list")=false:=by decide
 have h3:(Value.type "list_reverseiterator" == Value.type "tuple")=false:=by decide
 simp only[h1,h2,h3,Bool.or_false,Bool.false_eq_true,if_false]
 refine wpAny_bind (wpAny_pyIter_revIter hit2 ?_)
 refine wpAny_bind (wpAny_holding (x7z hit2.typeIs ?_))
 refine wpAny_ite_split (fun hab=>absurd hab (by decide)) (fun _=>?_)
 have hSf:S ∉ [it,l]:=by simp only[List.mem_cons,List.not_mem_nil,or_false,not_or];exact⟨hSi,hSl⟩
 refine wpAny_pure ⟨plainId_quiet PySem.F.plain_extend_loop _,codeAny_extend_loopS W.toS hn S hSf .none items.size 0 _ #[] _ rfl (Nat.zero_le _) ⟨Nat.zero_le _,by simpa using hit2,hl2⟩ hS₂ (ItemsOf.nil _) fun s' acc' c' hm hS' hacc=>?_⟩
 refine⟨rfl,?_⟩
 rw[Moved.eq_with hm]
 refine hQ s'.heap s'.toks acc' c' (fun b o hb e=>?_) hS' hacc
 have hbS:b≠S:=z8b (.inl (by rw[←hSz];exact Heap.lt_size e))
 exact hm.heap b o (by simp only[List.mem_cons,List.not_mem_nil,or_false,not_or];exact⟨hbS,hb⟩) (oth b o hbS e)
end
section
variable {X:Cx} {e:Expr} {te:TE} {p1 p2 pos pos2:Pos}
def tRev (K:W.Frag) (te:TE):TE:=fun σ H Q=>te σ H fun x H1=>∃ l ys,x=.ref l/\SqL K H1 l ys/\∀ p,H1 p=none->Q (.ref p) (upd H1 p (.lst ys.reverse))
theorem x2z {K:W.Frag} {te:TE} {σ:St} {H:Hp} {Q:VK} (h:tRev K te σ H Q):tCons te tNil σ H (fun vs H1=>∃ l ys,vs=[V.ref l]/\SqL K H1 l ys/\∀ p,H1 p=none->Q (.ref p) (upd H1 p (.lst ys.reverse))):=by
 unfold tRev at h
 unfold tCons tNil
 have e:(fun (x:V) (H1:Hp)=>∃ l ys,[x]=[V.ref l]/\SqL K H1 l ys/\∀ p,H1 p=none->Q (.ref p) (upd H1 p (.lst ys.reverse)))=(fun (x:V) (H1:Hp)=>∃ l ys,x=V.ref l/\SqL K H1 l ys/\∀ p,H1 p=none->Q (.ref p) (upd H1 p (.lst ys.reverse))):=by
  funext x H1;simp
 rw[e];exact h
theorem x1p (hc:X.calm=true) (hm1:X.mg "list" = none) (hm2:X.mg "reversed" = none) (he:PE X e te) (hg1:Gl X "list":=by rfl) (hg2:Gl X "reversed":=by rfl)
 (hs:starEach [e] X.env=[(false,eval e X.env)]:=by rfl) (hs2:starEach [Expr.Call (.Name "reversed" p2) [e] [] pos2] X.env=[(false,eval (.Call (.Name "reversed" p2) [e] [] pos2) X.env)]:=by rfl) :
 PE X (.Call (.Name "list" p1) [.Call (.Name "reversed" p2) [e] [] pos2] [] pos) (tRev X.K te):=by
 intro pins s σ H Q I h
 refine wpAny_Call_Name_kw (z7g I hg1 hm1 z5n ?_)
 refine PyProof.Rows.callWith_type1 ?_ hs2 rfl
 rw[hs2]
 show wpAny _ _ (spliced ((false,eval (.Call (.Name "reversed" p2) [e] [] pos2) X.env)::backTo pos [])) _ _ s
 refine Calls.spliced_cons (wpAny_Call_Name_kw (z7g I hg2 hm2 y2g (PyProof.Rows.callWith_type1 ?_ hs rfl)))
 refine thn (z0a he z0d hs pos2 pins s σ H (fun vs H1=>∃ l ys,vs=[.ref l]/\SqL X.K H1 l ys/\∀ p,H1 p=none->Q (.ref p) (upd H1 p (.lst ys.reverse))) I (x2z h)) fun us s1 ⟨vs,H1,I1,r1,l,ys,hv,hl,q⟩=>?_
 subst hv
 obtain⟨u,rfl,ru⟩:=vals1 r1
 cases (show u=Value.ref l from ru)
 obtain⟨its,rv,pl,hz⟩:=I1.list hl
 have hlen:=rv.length
 refine call_reversed_list pl.isList ?_
 show wpAny _ _ (spliced (backTo pos [])) _ _ _
 refine Calls.spliced_nil ?_
 have hlt:l < s1.heap.objs.size:=by obtain⟨o,e,_⟩:=pl.isList;exact Heap.lt_size e
 refine y8z (it:=s1.heap.objs.size) (l:=l) (items:=its.toArray) (I1.ok.hd hc) (z8b (.inl hlt)) ⟨_,Heap.get?_push_size _ rfl,rfl,rfl⟩ (pl.isList.push _) (by simp;omega) fun h' tk acc' c' hk hD hacc=>?_
 have up:∀ b o,s1.heap.get? b=some o->h'.get? b=some o:=fun b o e=>hk b o (z8b (.inl (Heap.lt_size e))) (Heap.get?_push_of_some _ e)
 have hsz:(s1.heap.push (revObj l ((its.toArray.size:Int) - 1))).objs.size=s1.heap.objs.size+1:=Heap.size_push ..
 have hge:s1.heap.objs.size<=(s1.heap.push (revObj l ((its.toArray.size:Int) - 1))).objs.size:=by rw[hsz];exact Nat.le_succ _
 have fr:=I1.hok.fresh hge
 refine⟨.ref _,_,I1.laid (o:=.lst ys.reverse) (t':=tk) up hge ⟨by simpa using hz,acc'.toList,c',?_,by simpa using hD⟩,rfl,q _ fr⟩
 have hs':=hacc.1
 have hs2:its.toArray.size=its.length:=by simp
 refine z8d (by simp;omega) fun i x u e1 e2=>?_
 have e3:=hacc.2 i u (by simpa using e2)
 have hi:i < ys.length:=by
  have:=(List.getElem?_eq_some_iff.mp e1).1
  simpa using this
 rw[List.getElem?_reverse hi]at e1
 obtain⟨u',e4,r4⟩:=rv.get e1
 have e5:its[its.toArray.size - 1 - i]?=some u:=by simpa using e3
 rw[hs2,←hlen]at e5
 rw[e5]at e4
 cases e4
 exact r4
end
end L2
namespace L2
open PySem PySem.Spec PyProof.Rows
section
variable {X:Cx} {K:W.Frag}
theorem x1s (hK:X.K=K):OpR X (compareOp .In) (rIn K false):=hK ▸ x4e
end
end L2
namespace L2
open PySem PySem.Spec PyProof.Rows
theorem z3v {K:W.Frag} {tl:TE} {js:List Nat} {tc:TT} {te:TE} {σ:St} {H:Hp} {Q:VK} (h:tl σ H fun x H1=>∃ a,x=.ref a/\(∃ xs,SqL K H1 a xs)/\CompW (Itl K a) σ js tc te Q H1):tComp (iList K tl) js tc te σ H Q:=h
theorem y5h {ta:TA} {js:List Nat} {tc:TT} {te:TE} {σ:St} {H:Hp} {Q:VK} (h:ta σ H fun vs H1=>∃ i j:Int,vs=[.int i,.int j]/\(-(2 ^ 62)<=i/\i < 2 ^ 62/\-(2 ^ 62)<=j/\j < 2 ^ 62)/\CompW (Itr i (j - i).toNat) σ js tc te Q H1):tComp (iRng2 ta) js tc te σ H Q:=h
end L2
namespace L2
open PySem PySem.Spec PyProof.Rows
theorem z9x {t u:TS} {D:Ends} {σ:St} {H:Hp} (h:t { D with nx:=u D } σ H):tSeq t u D σ H:=h
theorem y5u {te:TE} {g:TG} {D:Ends} {σ:St} {H:Hp} (h:te σ H fun x H1=>g x σ H1 D.nx):tAsg te g D σ H:=h
theorem w1l {te:TE} {D:Ends} {σ:St} {H:Hp} (h:te σ H D.rt):tRet te D σ H:=h
theorem y4g {ta:TE} {tr:TA} {σ:St} {H:Hp} {Q:List V->Hp->Prop} (h:ta σ H fun x H1=>tr σ H1 fun xs H2=>Q (x::xs) H2):tCons ta tr σ H Q:=h
end L2
namespace L2
open PySem PySem.Spec PyProof.Rows
section
variable {X:Cx}
def tDSet (td ty tx:TE):TE:=fun σ H Q=>td σ H fun x H1=>∃ a,x=.ref a/\IsD H1 a/\ty σ H1 fun y H2=>tx σ H2 fun z H3=>∃ (kvs:List (Key × V)) (k:Key),H3 a=some (.dK kvs)/\y=kV k/\kvs.length < sizeLine /\
 (∀ v,valV kvs k=some v->Q v H3)/\(valV kvs k=none->Q z (upd H3 a (.dK (putK kvs k z))))
variable {o e f:Expr} {td ty tx:TE} {apos cpos:Pos}
theorem x1q (ho:PE X o td) (he:PE X e ty) (hf:PE X f tx) (m:M2 X o "setdefault" apos e f cpos):PE X (.Call (.Attribute o "setdefault" apos) [e,f] [] cpos) (tDSet td ty tx):=by
 intro pins s σ H Q I h
 refine wpAny_Call_method m.base m.few m.line PySem.F.plainAttrs_dict PySem.F.slot_dict_setdefault PySem.F.type_dict_setdefault (thn (ho pins s σ H _ I h) fun u s1 ⟨x,H1,I1,rx,a,ex,d,q1⟩=>?_)
 subst ex
 obtain rfl:u=Value.ref a:=rx
 obtain⟨t1,t2,_⟩:=x0o I1 d
 refine⟨t1,t2,?_⟩
 rw[m.trees]
 refine Calls.callWith_builtin rfl (Calls.evalArgs_plain (Calls.spliced_cons (thn (he pins s1 σ H1 _ I1 q1) fun iv s2 ⟨y,H2,I2,ry,q2⟩ =>
  Calls.spliced_cons (thn (hf pins s2 σ H2 _ I2 q2) fun fv s3 ⟨z,H3,I3,rz,kvs,k,hd,ey,hl,qs,qn⟩=>Calls.spliced_nil ?_))))
 subst ey
 obtain⟨hz,lo,vs,rel,dd⟩:=dk_of I3.hok hd
 refine call_meetsIn PySem.F.slot_dict_setdefault dd.typeIs PySem.F.entry_dict_setdefault (PySem.F.args_dict_setdefault_3 _ _ _) (PySem.kt_meets_setdefault (z1q X.prog X.w) a (kV_is ry) lo fv) ⟨vs,dd,by rw[←rel.length];exact hz,fun v' hv=>?_,fun hn h' dd' hs=>?_⟩
 ·have r1:=rel.val k
  rw[hv]at r1
  cases e1:valV kvs k with
  | none=>rw[e1]at r1;exact r1.elim
  | some v=>rw[e1]at r1;exact⟨v,H3,I3.tok _,r1,qs v e1⟩
 ·have r1:=rel.val k
  rw[hn]at r1
  have e1:valV kvs k=none:=by
   cases e1:valV kvs k with
   | none=>rfl
   | some v=>rw[e1]at r1;exact r1.elim
  have he2:∃ q,h'.get? a=some q:=let ⟨q,_,_,hq,_⟩:=dd';⟨q,hq⟩
  have hl2:(putK kvs k z).length<=sizeLine:=by have:=z8g kvs k z;omega
  exact⟨z,_,y4w I3 (by rw[hd];exact True.intro) hs he2 (x6e hl2 lo (rel.put k rz) dd'),rz,qn e1⟩
end
section
variable {X:Cx}
def rGetL (K:W.Frag):V->V->Hp->VK->Prop:=fun x y H Q=>∃ (p:Addr) (xs:List V) (i:Nat) (v:V),x=.ref p/\y=.int i/\SqL K H p xs/\xs[i]?=some v/\Q v H
theorem x0q:PGet X (rGetL X.K):=by
 intro pins s σ H o i ov iv Q I ro ri h
 obtain⟨p,xs,k,v,rfl,rfl,hq,hx,q⟩:=h
 cases ro
 obtain⟨t,rfl⟩:=ri
 obtain⟨its,r,pl,hz⟩:=I.list hq
 obtain⟨w',ew,rw'⟩:=r.get hx
 have hk:k < xs.length:=(List.getElem?_eq_some_iff.mp hx).1
 have hn:=y1t
 exact wpAny_getItem_list pl.isList (Int.natCast_nonneg k) (by omega) (by simpa using ew) ⟨v,H,I,rw',q⟩
end
section
variable {X:Cx} {elts:List Expr} {k1} {tpos:Pos}
end
end L2
namespace L2
open PySem PySem.Spec PyProof.Rows
section
variable {P:Program} {w:World} {H H':Hp} {h h' B:Heap} {fs:List Addr}
structure UnB (fs:List Addr) (H H':Hp) (h B:Heap):Prop where
 keep:∀ b o,h.get? b=some o->H b=none->b ∉ fs->B.get? b=some o
 free:∀ b o,h.get? b=some o->H b=none->H' b=none
 there:∀ b o,h.get? b=some o->b ∉ fs->∃ o',B.get? b=some o'
 tups:∀ b xs,H b=some (.tup xs)->H' b=some (.tup xs)
 frzs:∀ b o u,H b=some (.frz o u)->H' b=some (.frz o u)
 tbls:∀ b ps,H b=some (.tbl ps)->∃ more,H' b=some (.tbl (ps++more))
end
def Fly (P:Program) (w:World):CXT:=fun outer H s E e s'=>∃ (a C t:Addr) (H':Hp) (B:Heap),e=.ref a/\s'.os=s.os/\AllBare s'.gens/\UnB (frs outer) H H' s.heap B/\HOk P w H' B /\
 Heap.FlyingW B outer a (.ref C) (.ref t) s'.heap/\(∀ b o,b∈frs outer->s.heap.get? b=some o->∃ sl,s'.heap.get? b=some { o with slots:=sl })/\E (.ref C) none H'
def w0y (base:Heap) (C D:Addr):Prop:=∀ (M:Model) (A:Around) (E:Value->Shared->Prop) (s:Shared) (e:Addr) (oe:Obj) (Q:Bool->Shared->Prop),(∀ b o,base.get? b=some o->s.heap.get? b=some o)->s.heap.get? e=some oe->oe.cls=.ref C->Q true s ->
 wpAny M A (excMatches (.ref e) (.ref D)) Q E s
structure CalX (P:Program) (w:World) (K:W.Frag) (mg:Str->Option Value) (base:Heap) (k:Nat) (x:Str) (ps:List Str) (sp:Sp):Prop where
 ex:∃ f fd,FnOk P w K mg base (Fly P w) k f fd ps sp/\mg x=some (.ref f)/\PySem.W.keepIn K (.ref f)=true/\Binds K fd ps []
theorem Fun.okX {P:Program} {w:World} {K:W.Frag} {mg:Str->Option Value} {base:Heap} {x qual:Str} {st:Stmt} {f:Addr} {fd:FuncData} {N ps:List Str} {k:Nat} {sp:Sp} (F:Fun K x qual st f fd) (S:FnScope N ps (z0f st)) (len:∀ vs H Q E,sp vs H Q E->vs.length=ps.length)
 (hbody:∀ (cdv:Value) (A:Around) (outer:List Env) (s:Shared) (H:Hp) (vs:List V) (Q:VK) (E:XK),Room k (A.deeper (envOfC qual (z0f st) s.heap.objs.size f cdv))->sp vs H Q E ->
  ∃ t,PSs (cxOf (Fly P w) P w K mg base N qual (z0f st) f cdv A outer s H E) (z0m st) t/\t { nx:=fun _ H'=>Q .non H',rt:=Q } (start N vs) H):FnOk P w K mg base (Fly P w) (k+1) f fd ps sp:=by
 obtain⟨oc,od,kV,doc,pm,an,cdv,ct,osl,rfl,lk,hcd⟩:=F.ex
 exact fn_of lk hcd S len fun A outer s H vs Q E hr hsp=>hbody cdv A outer s H vs Q E hr hsp
end L2
namespace L2
open PySem PySem.Spec PyProof.Rows
structure ExcKit (K:W.Frag) (C:Addr):Prop where
 ga:PySem.W.findIn K (.ref C) "__getattribute__" = some (some (.builtin "BaseException.__getattribute__"))
 cl:PySem.W.findIn K (.ref C) "__class__" = some (some (.builtin "object.__class__"))
 sb:PySem.W.subIn K (.ref C) (.type "BaseException")=some true
 so:PySem.W.subIn K (.ref C) (.type "object")=some true
 ic:(PySem.W.clsIn K C).isSome=true
 na:PySem.W.findIn K (.ref C) "__getattr__" = some none
section
variable {prog:Program} {w:World} {A:Around} {E:Value->Shared->Prop} {h:Heap} {g:Array GenState} {d:Drawn} {t:Nat} {os:OsState} {a C:Addr} {o:Obj} {K:W.Frag} {bmB:List Value}
end
section
variable {X:Cx}
end
end L2
namespace L2
open PySem PySem.Spec PyProof.Rows
theorem ObjOk.there {P:Program} {w:World} {H:Hp} {h:Heap} {a:Addr} {o:HO} (x:ObjOk P w H h a o):∃ u,h.get? a=some u:=by
 cases o with
 | lst xs=>obtain⟨_,_,_,_,e⟩:=x;exact⟨_,e⟩
 | tup xs=>obtain⟨_,_,_,ob,e,_⟩:=x;exact⟨_,e⟩
 | dK kvs=>obtain⟨_,_,_,_,o,_,_,e,_⟩:=x;exact⟨_,e⟩
 | dT kvs=>obtain⟨_,_,_,_,o,_,_,e,_⟩:=x;exact⟨_,e⟩
 | set S n=>obtain⟨o,_,_,_,e,_⟩:=x;exact⟨_,e⟩
 | ins C dx fs=>obtain⟨_,_,_,e,_⟩:=x;exact⟨_,e⟩
 | own y=>obtain⟨_,e⟩:=x;exact⟨_,e⟩
 | xd fs=>obtain⟨_,⟨_,_,_,e,_⟩,_⟩:=x;exact⟨_,e⟩
 | rng lo hi=>obtain⟨_,_,_,e⟩:=x;exact⟨_,e⟩
 | frz ob u=>obtain⟨e,_⟩:=x;exact⟨_,e⟩
 | tbl ps=>exact⟨_,(show h.get? a=some _ from x)⟩
 | met f y=>exact⟨_,(show h.get? a=some _ from x)⟩
 | ext φ=>obtain⟨_,⟨_,e⟩,_⟩:=x;exact⟨_,e⟩
end L2
namespace L2
open PySem PySem.Spec PyProof.Rows
section
variable {X:Cx}
end
end L2
namespace L2
open PySem PySem.Spec PyProof.Rows
section
variable {X:Cx} {tg:Expr}
end
end L2
namespace L2
open PySem PySem.Spec PyProof.Rows
abbrev bmVE:List Value:=[.type "ValueError",.type "Exception",.type "BaseException",.type "object"]
structure ExcTop (x:Str) (K:W.Frag) (mg:Str->Option Value) (base:Heap) (C CL:Addr):Prop where
 own:OwnCls x C bmVE "ValueError.__new__" mg base
 le:mg "LampError" = some (.ref CL)
 catL:w0y base C CL
 kit:ExcKit K C
 ve:mg "ValueError" = none
 k3:PySem.W.kitOne K (.ref C) (.type "ValueError")=some true
end L2
namespace L2
open PySem PySem.Spec PyProof.Rows
theorem z7y {t u:TS} {D:Ends} {σ:St} {H:Hp} (I:St->Hp->Prop) (h1:∀ N:St->Hp->Prop,(∀ σ' H',I σ' H'->N σ' H')->t { D with nx:=N } σ H) (h2:∀ σ' H',I σ' H'->u D σ' H'):tSeq t u D σ H:=h1 _ h2
section
variable {X:Cx} {K:W.Frag}
def w1m (K:W.Frag):R2:=fun x y H Q=>∃ (p a:Addr) (ps:List (Addr × List V)),x=.ref p/\y=.ref a/\H p=some (.lst [])/\SqL K H a (ps.map fun q=>V.ref q.1)/\(∀ q∈ps,H q.1=some (.lst q.2))/\Q (.bl (ps.any fun q=>q.2.isEmpty)) H
theorem x7l (hu:X.A.units+1 < cLine):OpR X (compareOp .In) (w1m X.K):=by
 intro pins s σ H x y v u Q I rx ry h
 obtain⟨p,a,ps,rfl,rfl,hp,ha,hq,q⟩:=h
 cases (show v=Value.ref p from rx)
 cases (show u=Value.ref a from ry)
 obtain⟨its,r,pl,hz⟩:=I.list ha
 have eit:its=ps.map fun q=>Value.ref q.1:=by
  clear q hz pl ha
  have:∀ (ps:List (Addr × List V)) (its:List Value),Vals (ps.map fun q=>V.ref q.1) its->its=ps.map fun q=>Value.ref q.1:=by
   intro ps
   induction ps with
   | nil=>intro its r;cases r;rfl
   | cons q ps ih =>
    intro its r
    cases r with
    | cons r1 r2=>rw[show _=Value.ref q.1 from r1,ih _ r2];rfl
  exact this ps its r
 have ans:∃ e:Value->Bool,∀ q∈ps,e (.ref q.1)=q.2.isEmpty:=by
  refine⟨fun u=>match u with | .ref b=>(match H b with | some (.lst ys)=>ys.isEmpty | _=>false) | _=>false,fun q hq'=>?_⟩
  show (match H q.1 with | some (.lst ys)=>ys.isEmpty | _=>false)=_
  rw[hq q hq']
 obtain⟨e,he⟩:=ans
 have hany:its.any e=ps.any fun q=>q.2.isEmpty:=by
  rw[eit,List.any_map]
  clear eit r pl ha q hz
  induction ps with
  | nil=>rfl
  | cons q ps ih =>
   rw[List.any_cons,List.any_cons,ih (fun q hq'=>hq q (List.mem_cons_of_mem _ hq')) (fun q hq'=>he q (List.mem_cons_of_mem _ hq'))]
   congr 1
   exact he q List.mem_cons_self
 refine SeqAt.in_listAt e pl.isList (fun w hw=>?_) ⟨.bl _,H,I,rfl,?_⟩
 ·have hw':w∈its:=by simpa using hw
  rw[eit]at hw'
  obtain⟨z,hzm,rfl⟩:=List.mem_map.mp hw'
  rw[he z hzm]
  by_cases hne:z.1=p
  ·have:=hq z hzm
   rw[hne,hp]at this
   injection this with this
   injection this with this
   rw[hne,←this]
   exact SeqAt.EqAt.same _
  ·refine SeqAt.EqAt.of_refs hne ?_
   have hu1:X.A.in1.units < cLine:=by rw[units_in1];exact hu
   obtain⟨i1,r1,p1,z1⟩:=I.list (qLo (K:=X.K) (hq z hzm))
   obtain⟨i2,r2,p2,z2⟩:=I.list (qLo (K:=X.K) hp)
   have l1:=r1.length
   have l2:=r2.length
   cases hzc:z.2 with
   | nil =>
    rw[hzc]at l1
    have e1:i1=[]:=List.length_eq_zero_iff.mp (by simpa using l1.symm)
    have e2:i2=[]:=List.length_eq_zero_iff.mp (by simpa using l2.symm)
    subst e1 e2
    exact SeqAt.RcAt.lists (e:=fun _=>true) p1.isList p2.isList rfl hu1 (fun j h1=>absurd h1 (by simp))
   | cons x xs =>
    rw[hzc]at l1
    refine SeqAt.RcAt.lists_lengths p1.isList p2.isList ?_ hu1
    have e2:i2=[]:=List.length_eq_zero_iff.mp (by simpa using l2.symm)
    subst e2
    rw[bne_iff_ne]
    simp at l1 ⊢
    intro z;rw[z]at l1;simp at l1
 ·rw[show its.toArray.any e=its.any e by simp,hany]
  exact q
end
end L2
namespace L2
open PySem PySem.Spec PyProof.Rows
structure MCal (P:Program) (w:World) (K:W.Frag) (mg:Str->Option Value) (base:Heap) (k:Nat) (C:Addr) (m:Str) (ps:List Str) (sp:Sp):Prop where
 ex:∃ f fd,FnOk P w K mg base CX0 k f fd ps sp/\Meth K C m f/\Binds K fd ps []
structure MDef (K:W.Frag) (C:Addr) (m qual:Str) (st:Stmt) (ps:List Str):Prop where
 ex:∃ f fd,Fun K m qual st f fd/\Meth K C m f/\Binds K fd ps []
theorem MDef.cal {P:Program} {w:World} {K:W.Frag} {mg:Str->Option Value} {base:Heap} {C:Addr} {m qual:Str} {st:Stmt} {N ps:List Str} {k:Nat} {sp:Sp} (D:MDef K C m qual st ps) (S:FnScope N ps (z0f st)) (len:∀ vs H Q E,sp vs H Q E->vs.length=ps.length)
 (hbody:∀ (f:Addr) (cdv:Value) (A:Around) (outer:List Env) (s:Shared) (H:Hp) (vs:List V) (Q:VK) (E:XK),Room k (A.deeper (envOfC qual (z0f st) s.heap.objs.size f cdv))->sp vs H Q E ->
  ∃ t,PSs (cxOf CX0 P w K mg base N qual (z0f st) f cdv A outer s H E).nox (z0m st) t/\t { nx:=fun _ H'=>Q .non H',rt:=Q } (start N vs) H):MCal P w K mg base (k+1) C m ps sp:=by
 obtain⟨f,fd,F,hm,hb⟩:=D.ex
 exact⟨f,fd,F.ok S len (hbody f),hm,hb⟩
theorem z7f {K:W.Frag} {C:Addr} {m qual:Str} {st:Stmt} {ps:List Str} {f:Addr} {oc:Value} {od an:Option Addr} {osl:Array (Option Value)} {kV doc pm cdv ct:Value}
 (a:PySem.W.findIn K (.ref C) m=some (some (.ref f))) (i:PySem.W.isFn K (.ref f)=true) (l:K.lookup f=some ⟨oc,od,.func (PySem.W.fnOf m qual (z0s st) (z0m st) (z0f st) .none kV doc pm an cdv ct),osl⟩) (c:PySem.W.codeIn K cdv qual=true) (k:PySem.W.keepIn K (.ref f)=true)
 (b:∀ (kV doc pm:Value) (an:Option Addr) (cdv ct:Value) (us:List Value),us.length=ps.length->bindArgs (PySem.W.fnOf m qual (z0s st) (z0m st) (z0f st) .none kV doc pm an cdv ct) ⟨us,[]⟩=pure (ps.zip us)):MDef K C m qual st ps :=
 ⟨f,_,y6x l c k,⟨a,i,k⟩,(y6x l c k).binds b⟩
structure Made (P:Program) (w:World) (K:W.Frag) (mg:Str->Option Value) (base:Heap) (k:Nat) (x:Str) (C:Addr) (ps:List Str) (sp:Sp):Prop where
 ex:∃ f fd,FnOk P w K mg base CX0 k f fd ps sp/\Mk K C f/\Binds K fd ps []/\mg x=some (.ref C)
section
variable {X:Cx} {k n:Nat} {C:Addr} {m x:Str} {ps:List Str} {sp:Sp} {p pos apos:Pos} {e o:Expr} {es:List Expr} {ta:TE} {t:TA}
theorem z6d {pl:Sem Bool} (G:MCal X.prog X.w X.K X.mg X.base k C m ps sp) (c:Cls X.K C) (hr:Room n X.A) (hk:k<=n) (he:PE X o ta) (ha:PA X (e::es) t)
 (hst:starEach (e::es) X.env=(false,eval e X.env)::starEach es X.env:=by rfl) (hpl:(backTo pos (starEach es X.env)).any (·.1)=false:=by rfl)
 (ht:eval (.Call (.Attribute o m apos) (e::es) [] pos) X.env=(do
  let ov ←eval o X.env
  standAt apos.atName
  let (f,first) ←holding [ov] (getMethod ov m pl)
  callWith pos f first (backTo pos (starEach (e::es) X.env)) (backToKw pos (keywordEach [] X.env))):=by rfl) :
 PE X (.Call (.Attribute o m apos) (e::es) [] pos) (tMeth C m sp [] E0 ta t):=by
 obtain⟨f,fd,F,hm,hb⟩:=G.ex
 exact x9v he c hm F (hr.mono hk) hb .nil pass0 ha hst hpl ht
theorem z8p {pl:Sem Bool} (G:MCal X.prog X.w X.K X.mg X.base k C m ps sp) (c:Cls X.K C) (hr:Room n X.A) (hk:k<=n) (he:PE X o ta)
 (ht:eval (.Call (.Attribute o m apos) [] [] pos) X.env=(do
  let ov ←eval o X.env
  standAt apos.atName
  let (f,first) ←holding [ov] (getMethod ov m pl)
  callWith pos f first (backTo pos (starEach [] X.env)) (backToKw pos (keywordEach [] X.env))):=by rfl) :
 PE X (.Call (.Attribute o m apos) [] [] pos) (tMeth C m sp [] E0 ta tNil):=by
 obtain⟨f,fd,F,hm,hb⟩:=G.ex
 exact x7i he c hm F (hr.mono hk) hb .nil pass0 ht
theorem x9x (G:Made X.prog X.w X.K X.mg X.base k x C ps sp) (hr:Room n X.A) (hk:k+1<=n) (ha:PA X (e::es) t) (hg:Gl X x:=by rfl)
 (hdb:(x == ("__debug__" : Str))=false:=by decide) (he:starEach (e::es) X.env=(false,eval e X.env)::starEach es X.env:=by rfl) (hpl:(backTo pos (starEach es X.env)).any (·.1)=false:=by rfl) :
 PE X (.Call (.Name x p) (e::es) [] pos) (tMake C sp [] E0 t):=by
 obtain⟨f,fd,F,M,hb,hm⟩:=G.ex
 exact x9w M F (hr.mono hk) hg hm hb .nil pass0 ha hdb he hpl
theorem y8f {K:W.Frag} {f:Str} (hK:X.K=K) (he:PE X e ta) (hb:attributeBase e f X.env (eval e X.env)=eval e X.env):PE X (.Attribute e f pos) (tFld K ta f):=hK ▸ z1m he hb
theorem x6n (hc:X.calm=true):CallR X (.builtin "min") (fun xs H Q=>∃ (a:Addr) (kvs:List (Key × V)) (ns:List Int),xs=[V.ref a]/\Rd H a (.dK kvs)/\kvs.map (·.1)=ns.map Sum.inl/\ns≠[]/\∀ y∈ns,(∀ z∈ns,y<=z)->Q (.int y) H):=by
 intro pins s σ H xs us Q I r h
 obtain⟨a,kvs,ns,rfl,ha,hks,hne,q⟩:=h
 obtain⟨u,rfl,ru⟩:=vals1 r
 cases (show u=Value.ref a from ru)
 obtain⟨hz,lo,vs,rel,o,es,ep,h1,h2,h3,h4,h5,h6⟩:=dk_rd I.hok ha
 have hok:s.heap.DictAt (z1q X.prog X.w) a vs ep:=⟨o,es,h1,h2,h3,h4,h5,h6⟩
 have hkeys:vs.map (·.1)=ns.map Sum.inl:=by rw[←rel.keys];exact hks
 have hlen:vs.length=ns.length:=by simpa using congrArg List.length hkeys
 have hpos:0 < vs.length:=by rw[hlen];exact List.length_pos_iff.mpr hne
 refine call_min_walk (wpAny_pyIter_dict lo hok ?_)
 have hval:∀ (i:Nat) (v:Value),(∃ k x,vs[i]?=some (k,x)/\(z1q X.prog X.w).is k v=true)->∃ t,v=.int (ns.getD i 0) t:=by
  rintro i v ⟨k,x,e1,e2⟩
  have e3:(vs.map (·.1))[i]?=some k:=by rw[List.getElem?_map,e1];rfl
  rw[hkeys,List.getElem?_map]at e3
  cases e4:ns[i]? with
  | none=>rw[e4]at e3;cases e3
  | some z =>
   rw[e4]at e3
   have e5:(Sum.inl z:Key)=k:=Option.some.inj e3
   subst e5
   have e2':keyIs (Sum.inl z) v=true:=e2
   rcases z1s e2' with ⟨j,t,ej,ev⟩ | ⟨y,t,ej,ev⟩
   ·cases ej
    exact⟨t,by rw[ev];simp[List.getD,e4]⟩
   ·cases ej
 refine⟨s.heap.objs.size,[s.heap.objs.size,a],[s.heap.objs.size],vs.length,_,_,_,rfl,Walks.dictKeys (A:=X.A.in1) (knd:=z1q X.prog X.w) (I.ok.hd hc) _ a (Nat.ne_of_lt hok.lt_size) vs ep,⟨⟨_,Heap.get?_push_size _ rfl,rfl,rfl⟩,hok.push _⟩,fun b hb=>?_,hpos,CmpOf.ints_lt (fun i=>ns.getD i 0) hval,fun v h' tk hP hk=>?_⟩
 ·have hsz:(s.heap.push { cls:=.type "dict_keyiterator",data:=.fields #[.ref a,.int 0 0,.int vs.length 0,.int ep 0] }).objs.size=s.heap.objs.size+1:=Heap.size_push ..
  show b < (s.heap.push { cls:=.type "dict_keyiterator",data:=.fields #[.ref a,.int 0 0,.int vs.length 0,.int ep 0] }).objs.size
  rw[hsz]
  have hb':b=s.heap.objs.size∨b=a:=by simpa using hb
  rcases hb' with z | z
  ·rw[z];exact Nat.lt_succ_self _
  ·rw[z];exact Nat.lt_succ_of_lt hok.lt_size
 ·obtain⟨t,rfl⟩:=hval _ _ hP
  obtain⟨b1,b2⟩:=argBest_lt (fun i=>ns.getD i 0) (vs.length - 1)
  have hlt:argBest (fun i j=>decide (ns.getD i 0 < ns.getD j 0)) (vs.length - 1) < ns.length:=by omega
  refine⟨.int (ns.getD (argBest (fun i j=>decide (ns.getD i 0 < ns.getD j 0)) (vs.length - 1)) 0),H,I.kept (t':=tk) fun b o e=>?_,⟨t,rfl⟩,q _ ?_ ?_⟩
  ·refine hk b o (fun z=>?_) (Heap.get?_push_of_some _ e)
   have z':b=s.heap.objs.size:=by simpa using z
   rw[z']at e
   exact absurd (Heap.lt_size e) (Nat.lt_irrefl _)
  ·rw[List.getD_eq_getElem?_getD,List.getElem?_eq_getElem hlt];exact List.getElem_mem hlt
  ·intro z hz'
   obtain⟨j,hj,ej⟩:=List.mem_iff_getElem.mp hz'
   have:=b2 j (by omega)
   have e6:ns.getD j 0=z:=by rw[List.getD_eq_getElem?_getD,List.getElem?_eq_getElem hj,←ej];rfl
   rw[e6]at this
   exact this
end
end L2
namespace L2
open PySem PySem.Spec PyProof.Rows
section
variable {prog:Program} {w:World} {A:Around} {R:Result->Shared->Prop} {I:Addr} {fp wr:List Addr} {n:Nat} {P:Nat->Value->Prop} {St:Nat->Heap->Prop}
theorem w1x (W:Walks prog w A.in1 I fp wr n P St) (bt:Nat->Nat->Bool) (hcmp:CmpOf prog w A.in1 .Lt P bt) (S:Addr) (hSf:S ∉ fp) (kw:Str) (d:Value) :
 ∀ (k j:Nat) (s:Shared) (bs:List Value) (c:Nat),j+k=n->St j s.heap->(j=0/\bs=[]∨∃ u,bs=[u,u]/\0 < j/\P (argBest bt (j - 1)) u) ->
 s.heap.get? S=some { cls:=.type "list",dict:=none,data:=.seq bs.toArray c,slots:=#[] } ->
 (∀ v h' tk,(n=0/\v=d∨0 < n/\P (argBest bt (n - 1)) v)->(∀ b o,b ∉ wr->b≠S->s.heap.get? b=some o->h'.get? b=some o)->R (.ok (.ret v)) { s with heap:=h',toks:=tk }) ->
 codeAny (model prog w) A (.builtin "min.loop" ⟨[.ref I,.none,.ref S],[(kw,d)]⟩) R s:=by
 have hSw:S ∉ wr:=fun h=>hSf (W.sub _ h)
 have hname:(toString "min" ++ toString ".loop" : String)="min.loop":=by decide
 intro k
 induction k with
 | zero =>
  intro j s bs c hj hst hb hS hR
  have hjn:j=n:=by omega
  subst hjn
  refine codeAny_builtin F.entry_min_loop ?_
  rw[Around.under_plainId F.plain_min_loop _]
  show wpAny _ A.in1 (seqItems? (.ref S) >>= _) _ _ s
  refine wpAny_bind (wpAny_seqItems hS rfl ?_)
  rcases hb with ⟨j0,rfl⟩ | ⟨u,rfl,j0,hu⟩
  ·refine wpAny_bind (wpAny_tryCatch (W.done s _ _ hst fun h' tk hk'=>?_))
   refine wpAny_bind (wpAny_rule (wpAny_pure ?_))
   exact hR d _ tk (.inl ⟨j0,rfl⟩) fun b o hbw _ e=>hk' b o hbw e
  ·refine wpAny_bind (wpAny_tryCatch (W.done s _ _ hst fun h' tk hk'=>?_))
   have hS':=hk' S _ hSw hS
   refine wpAny_bind (wpAny_updateSeq hS' rfl (wpAny_bind (wpAny_letGo (wpAny_pure ?_))))
   exact hR u _ tk (.inr ⟨j0,hu⟩) fun b o hbw hbS e=>(Heap.get?_update_other _ _ (Ne.symm hbS)).trans (hk' b o hbw e)
 | succ k ih =>
  intro j s bs c hj hst hb hS hR
  have hlt:j < n:=by omega
  refine codeAny_builtin F.entry_min_loop ?_
  rw[Around.under_plainId F.plain_min_loop _]
  show wpAny _ A.in1 (seqItems? (.ref S) >>= _) _ _ s
  refine wpAny_bind (wpAny_seqItems hS rfl ?_)
  have go:∀ (h':Heap) (tk c':Nat) (u:Value),St (j+1) h'->P (argBest bt j) u->h'.get? S=some { cls:=.type "list",dict:=none,data:=.seq #[u,u] c',slots:=#[] }->(∀ b o,b ∉ wr->b≠S->s.heap.get? b=some o->h'.get? b=some o) ->
   codeAny (model prog w) A (.builtin "min.loop" ⟨[.ref I,.none,.ref S],[(kw,d)]⟩) R { s with heap:=h',toks:=tk }:=fun h' tk c' u st hu hs hk =>
   ih (j+1) _ [u,u] c' (by omega) st (.inr ⟨u,rfl,Nat.succ_pos _,hu⟩) hs fun v h'' tk'' hv hk''=>hR v h'' tk'' hv fun b o hbw hbS e=>hk'' b o hbw hbS (hk b o hbw hbS e)
  have frS:∀ (h':Heap) (o:Obj->Obj),St (j+1) h'->St (j+1) (h'.update S o):=fun h' o st=>W.frame _ _ _ st fun b hbf x e=>(Heap.get?_update_other _ _ (fun h:S=b=>hSf (by rw[h];exact hbf))).trans e
  rcases hb with ⟨j0,rfl⟩ | ⟨u,rfl,j0,hu⟩
  ·subst j0
   refine wpAny_bind (wpAny_tryCatch (W.item 0 s _ _ hlt hst fun v h' tk hP hst' hk'=>?_))
   have hS':=hk' S _ hSw hS
   refine wpAny_bind (wpAny_pure ?_)
   refine wpAny_bind (wpAny_updateSeq hS' rfl ?_)
   rw[hname]
   exact wpAny_pure ⟨plainId_quiet F.plain_min_loop _,go _ tk _ v (frS _ _ hst') hP (Heap.get?_update_self _ hS' rfl) fun b o hbw hbS e=>(Heap.get?_update_other _ _ (Ne.symm hbS)).trans (hk' b o hbw e)⟩
  ·refine wpAny_bind (wpAny_tryCatch (W.item j s _ _ hlt hst fun v h' tk hP hst' hk'=>?_))
   have hS':=hk' S _ hSw hS
   obtain⟨i,rfl⟩:∃ i,j=i+1:=⟨j - 1,by omega⟩
   have hu':P (argBest bt i) u:=hu
   refine wpAny_bind (wpAny_pure ?_)
   refine wpAny_bind (wpAny_tryCatch (wpAny_holding (wpAny_bind (hcmp (i+1) (argBest bt i) v u _ _ _ hP hu' ?_))))
   refine wpAny_bind (wpAny_holding (wpAny_truthy_bool ?_))
   refine wpAny_bind (wpAny_letGo (wpAny_pure ?_))
   have ea:argBest bt (i+1)=if bt (i+1) (argBest bt i)=true then i+1 else argBest bt i:=rfl
   by_cases hbt:bt (i+1) (argBest bt i)=true
   ·rw[hbt]
    rw[if_pos hbt]at ea
    refine wpAny_bind (wpAny_updateSeq hS' rfl (wpAny_bind (wpAny_letGo ?_)))
    rw[hname]
    exact wpAny_pure ⟨plainId_quiet F.plain_min_loop _,go _ tk _ v (frS _ _ hst') (by rw[ea];exact hP) (Heap.get?_update_self _ hS' rfl) fun b o hbw hbS e=>(Heap.get?_update_other _ _ (Ne.symm hbS)).trans (hk' b o hbw e)⟩
   ·have hbf:bt (i+1) (argBest bt i)=false:=by simpa using hbt
    rw[hbf]
    rw[if_neg hbt]at ea
    refine wpAny_bind (wpAny_letGo ?_)
    rw[hname]
    exact wpAny_pure ⟨plainId_quiet F.plain_min_loop _,go _ tk c u hst' (by rw[ea];exact hu') hS' fun b o hbw hbS e=>hk' b o hbw e⟩
end
section
variable {prog:Program} {w:World} {A:Around} {E:Value->Shared->Prop} {s:Shared}
theorem x6r (a d:Value):argsOk "min" ⟨[a],[(("default" : Str),d)]⟩:=by unfold argsOk;kernel_rfl
theorem y7h {id:String} {b:Builtin} {args:Args} {Q:Value->Shared->Prop} (hk:builtinKind id=none) (hp:plainId id=true) (hb:entryFor table id=some b) (ha:argsOk id args)
 (hc:wpAny (model prog w) A.in1 (b args) (fun fin s'=>match fin with
  | .done f=>(match (Except.ok f:Result) with | .ok (.ret v)=>Q v s' | .ok _=>False | .error e=>E e s')
  | .again c'=>c'.quiet=true/\codeAny (model prog w) A c' (fun r s'=>match r with | .ok (.ret v)=>Q v s' | .ok _=>False | .error e=>E e s') s') E s) :
 wpAny (model prog w) A (call (.builtin id) args.pos args.kw) Q E s:=by
 refine wpAny_call (codeAny_call_builtin hp hb ?_)
 simp only[checkBuiltinCall,hk]
 cases hsig:Manifest.signature? id with
 | none=>exact wpAny_pure hc
 | some sig =>
  have h2:Bind.checkArgs id sig args=pure ():=by simpa only[argsOk,hsig] using ha
  show wpAny _ A.in1 (Bind.checkArgs id sig args) _ _ s
  rw[h2];exact wpAny_pure hc
theorem y9d {x d:Value} {Q:Value->Shared->Prop}
 (h:wpAny (model prog w) A.in1 (pyIter x) (fun it s2=>∃ I fp wr n P St bt,it=.ref I/\Walks prog w A.in1 I fp wr n P St/\St 0 s2.heap/\(∀ b∈fp,b < s2.heap.objs.size)/\CmpOf prog w A.in1 .Lt P bt /\
  ∀ v h' tk,(n=0/\v=d∨0 < n/\P (argBest bt (n - 1)) v)->(∀ b o,b ∉ wr->s2.heap.get? b=some o->h'.get? b=some o)->Q v { s2 with heap:=h',toks:=tk }) E s) :
 wpAny (model prog w) A (call (.builtin "min") [x] [(("default" : Str),d)]) Q E s:=by
 have hname:(toString "min" ++ toString ".loop" : String)="min.loop":=by decide
 refine y7h (args:=⟨[x],[(("default" : Str),d)]⟩) F.kind_min F.plain_min F.entry_min (x6r x d) ?_
 show wpAny _ A.in1 (Builtin.Builtins.bindParams "min" ["key","default"] 0 ⟨[],[(("default" : Str),d)]⟩ >>= _) _ _ s
 refine wpAny_bind (wpAny_of_eq (show Builtin.Builtins.bindParams "min" ["key","default"] 0 ⟨[],[(("default" : Str),d)]⟩=pure [none,some d] from rfl) ?_)
 refine wpAny_bind (wpAny_pure ?_)
 refine wpAny_bind (wpAny_mono h (fun it s2 h2=>?_) fun _ _ e=>e)
 obtain⟨I,fp,wr,n,P,St,bt,rfl,W,hst,hfp,hcmp,hQ⟩:=h2
 refine wpAny_bind (wpAny_newObj_type ?_)
 have hSf:s2.heap.objs.size ∉ fp:=fun hm=>Nat.lt_irrefl _ (hfp _ hm)
 rw[hname]
 exact wpAny_pure ⟨plainId_quiet F.plain_min_loop _,w1x W bt hcmp s2.heap.objs.size hSf "default" d n 0 _ [] _ (by omega) (W.frame _ _ _ hst fun b _ o e=>Heap.get?_push_of_some _ e) (.inl ⟨rfl,rfl⟩) (Heap.get?_push_size _ rfl)
  fun v h' tk hv hk=>hQ v h' tk hv fun b o hbw e=>hk b o hbw (Nat.ne_of_lt (Heap.lt_size e)) (Heap.get?_push_of_some _ e)⟩
end
section
variable {X:Cx} {e v:Expr} {te tv:TE} {p pos kp:Pos}
def w1c (te tv:TE):TE:=fun σ H Q=>te σ H fun x H1=>tv σ H1 fun y H2=>∃ (a:Addr) (kvs:List (Key × V)) (ns:List Int),x=.ref a/\Rd H2 a (.dK kvs)/\kvs.map (·.1)=ns.map Sum.inl/\(ns=[]->Q y H2)/\∀ z∈ns,(∀ u∈ns,z<=u)->Q (.int z) H2
def w1y (tv:TE) (σ:St) (Q:VK):List V->Hp->Prop:=fun xs H1=>match xs with
 | [x]=>tv σ H1 fun y H2=>∃ (a:Addr) (kvs:List (Key × V)) (ns:List Int),x=.ref a/\Rd H2 a (.dK kvs)/\kvs.map (·.1)=ns.map Sum.inl/\(ns=[]->Q y H2)/\∀ z∈ns,(∀ u∈ns,z<=u)->Q (.int z) H2
 | _=>False
theorem x7h (hc:X.calm=true) (hm:X.mg "min" = none) (he:PE X e te) (hv:PE X v tv) (hg:Gl X "min":=by rfl) (hse:starEach [e] X.env=[(false,eval e X.env)]:=by rfl)
 (hB:backTo pos (starEach [e] X.env)=(false,eval e X.env)::backTo pos (starEach [] X.env):=by rfl) (hpl:(backTo pos (starEach [e] X.env)).any (·.1)=false:=by rfl):PE X (.Call (.Name "min" p) [e] [⟨some "default",v,kp⟩] pos) (w1c te tv):=by
 intro pins s σ H Q I h
 refine wpAny_Call_Name_kw (z7g I hg hm x9j ?_)
 refine callWith_kw (thn ((z0a he z0d hse) pos pins s σ H (w1y tv σ Q) I h) fun us s1 ⟨vs,H1,I1,r1,q1⟩=>?_) hB hpl
 have hx:∃ x,vs=[x]:=by
  cases vs with
  | nil=>exact q1.elim
  | cons x l =>
   cases l with
   | nil=>exact⟨x,rfl⟩
   | cons _ _=>exact q1.elim
 obtain⟨x,rfl⟩:=hx
 obtain⟨u,rfl,ru⟩:=vals1 r1
 refine kws_cons (thn (hv pins s1 σ H1 _ I1 q1) fun d s2 ⟨y,H2,I2,ry,a,kvs,ns,ex,ha,hks,qn,qm⟩=>kws_nil ?_)
 subst ex
 cases (show u=Value.ref a from ru)
 show wpAny _ _ (call (.builtin "min") [Value.ref a] [(("default" : Str),d)]) _ _ _
 obtain⟨hz,lo,ws,rel,o,es,ep,h1,h2,h3,h4,h5,h6⟩:=dk_rd I2.hok ha
 have hok:s2.heap.DictAt (z1q X.prog X.w) a ws ep:=⟨o,es,h1,h2,h3,h4,h5,h6⟩
 have hkeys:ws.map (·.1)=ns.map Sum.inl:=by rw[←rel.keys];exact hks
 have hlen:ws.length=ns.length:=by simpa using congrArg List.length hkeys
 refine y9d (wpAny_pyIter_dict lo hok ?_)
 have hval:∀ (i:Nat) (v:Value),(∃ k x,ws[i]?=some (k,x)/\(z1q X.prog X.w).is k v=true)->∃ t,v=.int (ns.getD i 0) t:=by
  rintro i v ⟨k,x,e1,e2⟩
  have e3:(ws.map (·.1))[i]?=some k:=by rw[List.getElem?_map,e1];rfl
  rw[hkeys,List.getElem?_map]at e3
  cases e4:ns[i]? with
  | none=>rw[e4]at e3;cases e3
  | some z =>
   rw[e4]at e3
   have e5:(Sum.inl z:Key)=k:=Option.some.inj e3
   subst e5
   have e2':keyIs (Sum.inl z) v=true:=e2
   rcases z1s e2' with ⟨j,t,ej,ev⟩ | ⟨y,t,ej,ev⟩
   ·cases ej
    exact⟨t,by rw[ev];simp[List.getD,e4]⟩
   ·cases ej
 refine⟨s2.heap.objs.size,[s2.heap.objs.size,a],[s2.heap.objs.size],ws.length,_,_,_,rfl,Walks.dictKeys (A:=X.A.in1) (knd:=z1q X.prog X.w) (I2.ok.hd hc) _ a (Nat.ne_of_lt hok.lt_size) ws ep,⟨⟨_,Heap.get?_push_size _ rfl,rfl,rfl⟩,hok.push _⟩,fun b hb=>?_,CmpOf.ints_lt (fun i=>ns.getD i 0) hval,fun v h' tk hP hk=>?_⟩
 ·have hsz:(s2.heap.push { cls:=.type "dict_keyiterator",data:=.fields #[.ref a,.int 0 0,.int ws.length 0,.int ep 0] }).objs.size=s2.heap.objs.size+1:=Heap.size_push ..
  show b < (s2.heap.push { cls:=.type "dict_keyiterator",data:=.fields #[.ref a,.int 0 0,.int ws.length 0,.int ep 0] }).objs.size
  rw[hsz]
  have hb':b=s2.heap.objs.size∨b=a:=by simpa using hb
  rcases hb' with z | z
  ·rw[z];exact Nat.lt_succ_self _
  ·rw[z];exact Nat.lt_succ_of_lt hok.lt_size
 ·have Ik:Inv X pins σ H2 { s2 with heap:=h',toks:=tk }:=I2.kept (t':=tk) fun b o e=>by
   refine hk b o (fun z=>?_) (Heap.get?_push_of_some _ e)
   have z':b=s2.heap.objs.size:=by simpa using z
   rw[z']at e
   exact absurd (Heap.lt_size e) (Nat.lt_irrefl _)
  rcases hP with ⟨n0,rfl⟩ | ⟨hpos,hP⟩
  ·exact⟨y,H2,Ik,ry,qn (List.length_eq_zero_iff.mp (by omega))⟩
  ·obtain⟨t,rfl⟩:=hval _ _ hP
   obtain⟨b1,b2⟩:=argBest_lt (fun i=>ns.getD i 0) (ws.length - 1)
   have hlt:argBest (fun i j=>decide (ns.getD i 0 < ns.getD j 0)) (ws.length - 1) < ns.length:=by omega
   refine⟨.int (ns.getD (argBest (fun i j=>decide (ns.getD i 0 < ns.getD j 0)) (ws.length - 1)) 0),H2,Ik,⟨t,rfl⟩,qm _ ?_ ?_⟩
   ·rw[List.getD_eq_getElem?_getD,List.getElem?_eq_getElem hlt];exact List.getElem_mem hlt
   ·intro z hz'
    obtain⟨j,hj,ej⟩:=List.mem_iff_getElem.mp hz'
    have:=b2 j (by omega)
    have e6:ns.getD j 0=z:=by rw[List.getD_eq_getElem?_getD,List.getElem?_eq_getElem hj,←ej];rfl
    rw[e6]at this
    exact this
end
section
variable {X:Cx} {a:Expr} {ta:TE} {pos:Pos}
end
end L2
namespace L2
open PySem PySem.Spec PyProof.Rows
section
variable {X:Cx}
theorem PS.nox {st:Stmt} {t:TS} (h:PS X.nox st t):PS X st t:=fun pins s σ H D I hw =>
 wpAny_mono (h pins s σ H D (I.wish _) hw) (fun _ _ q=>q.unwish) fun _ _ z=>False.elim z
end
end L2
namespace L2
open PySem PySem.Spec PyProof.Rows
theorem rd_k {t u:TS} {D:Ends} {σ:St} {H:Hp} (h:∀ N:St->Hp->Prop,(∀ σ' H',u D σ' H'->N σ' H')->t { D with nx:=N } σ H):tSeq t u D σ H:=h (u D) fun _ _ q=>q
theorem z6k {K:W.Frag} {a:Addr} {xs:List V} {g:TG} {tb:TS} {D:Ends} {σ:St} {H:Hp} {R:VK} (Pv:Nat->St->Hp->Prop) (h0:Pv 0 σ H) (hl:∀ i σ H,i<=xs.length->Pv i σ H->SqL K H a xs)
 (hs:∀ i x σ H (N B:St->Hp->Prop),xs[i]?=some x->Pv i σ H->(∀ σ' H',Pv (i+1) σ' H'->N σ' H')->g x σ H fun σ2 H2=>tb { nx:=N,rt:=R,bk:=B,ct:=N } σ2 H2) (hd:∀ σ H,Pv xs.length σ H->D.nx σ H) (hR:D.rt=R:=by rfl) :
 ∃ W:Nat->Nat->St->Hp->Prop,(∃ m,W 0 m σ H)/\∀ i m σ H,W i m σ H ->
  ((Itl K a).stop i H/\D.nx σ H)∨((Itl K a).go i H/\∃ N:St->Hp->Prop,(∀ σ' H',N σ' H'->∃ m',m' < m/\W (i+1) m' σ' H')/\∀ x H',(Itl K a).yld i H x H'->g x σ H' fun σ2 H2=>tb { D with nx:=N,ct:=N,bk:=D.nx } σ2 H2):=by
 subst hR
 exact z4o Pv h0 hl (fun i x σ H hx hp=>hs i x σ H _ _ hx hp fun _ _ h=>h) hd
theorem y3q {c:TT} {tb:TS} {D:Ends} {σ:St} {H:Hp} {R:VK} (W:Nat->St->Hp->Prop) (h0:∃ m,W m σ H)
 (hs:∀ m σ H,W m σ H->∀ Y X:St->Hp->Prop,(∀ σ' H',(∃ m',m' < m/\W m' σ' H')->Y σ' H')->(∀ σ' H',D.nx σ' H'->X σ' H') ->
  c σ H fun b H1=>if b=true then ∃ N:St->Hp->Prop,(∀ σ' H',N σ' H'->Y σ' H')/\tb { nx:=N,rt:=R,bk:=X,ct:=N } σ H1 else X σ H1) (hR:D.rt=R:=by rfl):x8u c tb D σ H:=by
 subst hR
 exact⟨W,h0,fun m σ H w=>hs m σ H w _ _ (fun _ _ h=>h) fun _ _ h=>h⟩
end L2
namespace L2
open PySem PySem.Spec PyProof.Rows
theorem y6b:Manifest.owners.lookup (String.ofList ['d','e','s','r','e','v','e','r'].reverse)=some Manifest.sig_reversed:=by kernel_rfl
theorem slot_rvt_next:Slot "reversed" "__next__" "reversed.__next__" :=
 .of (owner:="reversed") (n:="__next__") (by rw[typeLookup_type,builtinLookup_eq_fast];kernel_rfl) (by decide +kernel) (by decide +kernel) (by decide +kernel)
  (by first | exact .inl (by decide +kernel) | exact .inr (by decide +kernel)) (by rw[isSubtype_type];kernel_rfl)
theorem z8c:entryFor table "reversed.__next__" = some Builtin.«reversed.__next__»:=entryFor_of_tree (by kernel_rfl)
theorem z9e (a:Value):argsOk "reversed.__next__" ⟨[a],[]⟩:=by
 unfold argsOk;rw[signature?_of (id:="reversed.__next__") (n:=['_','_','t','x','e','n','_','_']) (o:=['d','e','s','r','e','v','e','r']) (by kernel_rfl) y6b];kernel_rfl
theorem z8k:Slot "reversed" "__iter__" "reversed.__iter__" :=
 .of (owner:="reversed") (n:="__iter__") (by rw[typeLookup_type,builtinLookup_eq_fast];kernel_rfl) (by decide +kernel) (by decide +kernel) (by decide +kernel)
  (by first | exact .inl (by decide +kernel) | exact .inr (by decide +kernel)) (by rw[isSubtype_type];kernel_rfl)
theorem y5a (a:Value):argsOk "reversed.__iter__" ⟨[a],[]⟩:=by
 unfold argsOk;rw[signature?_of (id:="reversed.__iter__") (n:=['_','_','r','e','t','i','_','_']) (o:=['d','e','s','r','e','v','e','r']) (by kernel_rfl) y6b];kernel_rfl
theorem y2s:entryFor table "reversed.__iter__" = some Builtin.«dict_keyiterator.__iter__» :=
 entryFor_alias (id':="dict_keyiterator.__iter__") (by kernel_rfl) (by first | rfl | decide +kernel | (unfold String.splitOn;simp +decide [String.splitOnAux])) (by decide +kernel) (by kernel_rfl)
theorem y4b:Slot "reversed" "__init__" "object.__init__" :=
 .of (owner:="object") (n:="__init__") (by rw[typeLookup_type,builtinLookup_eq_fast];kernel_rfl) (by decide +kernel) (by decide +kernel) (by decide +kernel)
  (by first | exact .inl (by decide +kernel) | exact .inr (by decide +kernel)) (by rw[isSubtype_type];kernel_rfl)
theorem called_rvt:TypeCalled "reversed" "reversed.__new__" "object.__init__" :=
 ⟨by decide +kernel,PySem.F.create_reversed,⟨_,_,PySem.F.mro_reversed⟩,PySem.F.made_reversed,by decide +kernel,PySem.F.sub_reversed_self,y4b⟩
theorem x2w:typeLookup (.type "tuple") (Str.ofString "__reversed__")=pure none:=by rw[typeLookup_type,builtinLookup_eq_fast];kernel_rfl
theorem x1e:isSubtype (.type "tuple") (.type "dict")=pure false:=by rw[isSubtype_type];kernel_rfl
def y2v (t:Addr) (i:Int):Obj:={ cls:=.type "reversed",data:=.fields #[.ref t,rawInt i] }
def IsRvt (h:Heap) (a t:Addr) (i:Int):Prop:=∃ o,h.get? a=some o/\o.cls=.type "reversed"/\o.data=.fields #[.ref t,rawInt i]
theorem IsRvt.typeIs {s:Shared} {a t:Addr} {i:Int} (x:IsRvt s.heap a t i):s.TypeIs (.ref a) "reversed":=let ⟨o,ho,hc,_⟩:=x;⟨o,ho,hc⟩
theorem IsRvt.at {h h':Heap} {a t:Addr} {i:Int} (x:IsRvt h a t i) (e:∀ o,h.get? a=some o->h'.get? a=some o):IsRvt h' a t i:=let ⟨o,ho,r⟩:=x;⟨o,e _ ho,r⟩
section
variable {prog:Program} {w:World} {A:Around} {E:Value->Shared->Prop} {s:Shared}
theorem y7f {t:Addr} {items:Array Value} {Q₁:Value->Shared->Prop} (ht:IsTup s.heap t items) (hfit:(items.size:Int) < 2 ^ 63)
 (h:Q₁ (.ref s.heap.objs.size) { s with heap:=s.heap.push (y2v t ((items.size:Int) - 1)),toks:=s.toks+1+1 }) :
 codeAny (model prog w) A (.call (.builtin "reversed.__new__") ⟨[.type "reversed",.ref t],[]⟩) (wants Q₁ E) s:=by
 refine codeAny_of_tree ?_
 show wpAny _ A.in1 (do checkBuiltinCall "reversed.__new__" ⟨[.type "reversed",.ref t],[]⟩;again (.builtin "reversed.__new__" ⟨[.type "reversed",.ref t],[]⟩)) _ _ s
 refine wpAny_bind (wpAny_of_eq (PySem.F.newCall_reversed_1 _) (wpAny_pure ⟨plainId_quiet PySem.F.plain_reversed_new _,codeAny_builtin PySem.F.entry_reversed_new ?_⟩))
 rw[Around.under_plainId PySem.F.plain_reversed_new _]
 unfold Builtin.«reversed.__new__»
 refine wpAny_bind (wpAny_of_eq (newClass_reversed _) ?_)
 try dsimp only
 refine wpAny_bind (wpAny_of_eq (a:=()) (by first | rfl | kernel_rfl) ?_)
 refine wpAny_bind (wpAny_of_eq (a:=()) (by first | rfl | kernel_rfl) ?_)
 try dsimp only
 refine wpAny_bind (wpAny_specialOf ht.typeIs x2w ?_)
 try dsimp only
 refine wpAny_bind ?_
 wp_delta
 refine wpAny_bind (wpAny_isInstance (b:=false) ht.typeIs x1e ?_)
 try dsimp only
 first | rw[if_neg Bool.false_ne_true] | skip
 refine wpAny_bind (wpAny_specialOf ht.typeIs slot_tuple_getitem.lookup ?_)
 try dsimp only
 rw[if_pos (by decide +kernel)]
 refine wpAny_pure ?_
 rw[if_neg (by decide)]
 refine wpAny_bind (len_tuple ht hfit ?_)
 refine wpAny_bind (wpAny_of_eq (a:=some (items.size:Int)) (by first | rfl | kernel_rfl) ?_)
 try dsimp only
 refine wpAny_bind ?_
 unfold Builtin.SmallTypes.newRecord
 refine wpAny_newObj_type ?_ (by size_fits)
 exact wpAny_pure h
theorem w1s (obj a:Value):argsOk "object.__init__" ⟨[obj,a],[]⟩:=by unfold argsOk;kernel_rfl
theorem x8l {t:Addr} {items:Array Value} {Q:Value->Shared->Prop} (ht:IsTup s.heap t items) (hfit:(items.size:Int) < 2 ^ 63)
 (h:Q (.ref s.heap.objs.size) { s with heap:=s.heap.push (y2v t ((items.size:Int) - 1)),toks:=s.toks+1+1 }):wpAny (model prog w) A (call (.type "reversed") [.ref t]) Q E s:=by
 refine callType_codes (Q₁:=fun obj s₁=>obj=.ref s.heap.objs.size/\s₁={ s with heap:=s.heap.push (y2v t ((items.size:Int) - 1)),toks:=s.toks+1+1 }) called_rvt (PySem.F.typeCall_reversed_1 _) PySem.F.entry_object_init (y7f ht hfit ⟨rfl,rfl⟩) ?_
 rintro obj s₁ ⟨rfl,rfl⟩
 have hT:Shared.TypeIs { s with heap:=s.heap.push (y2v t ((items.size:Int) - 1)),toks:=s.toks+1+1 } (.ref s.heap.objs.size) "reversed":=⟨_,Heap.get?_push_size _ rfl,rfl⟩
 refine⟨hT,w1s _ _,?_⟩
 have hl:=called_rvt.init.lookup
 have hm:=called_rvt.made
 have hne:(some "reversed.__new__" != some "object.__new__")=true:=by decide
 repeat any_goals first | assumption | wp_step
 exact⟨rfl,h⟩
theorem y4n {it t:Addr} {i:Nat} {items:Array Value} {x:Value} {Q:Option Value->Shared->Prop} (hit:IsRvt s.heap it t (i:Int)) (ht:IsTup s.heap t items) (hfit:(items.size:Int) < 2 ^ 63) (hx:items[i]?=some x)
 (hQ:∀ h',IsRvt h' it t ((i:Int) - 1)->Heap.SameBut it s.heap h'->Q (some x) { s with heap:=h',toks:=s.toks+1 }):wpAny (model prog w) A (pyNext (.ref it)) Q E s:=by
 obtain⟨o,ho,hc,hd⟩:=id hit
 have hi:i < items.size:=by
  obtain⟨z,_⟩:=Array.getElem?_eq_some_iff.mp hx
  exact z
 unfold pyNext
 refine wpAny_bind (wpAny_attempt (wpAny_callSpecial?_slot (name:=Str.ofString "__next__") hit.typeIs slot_rvt_next
  (wpAny_call_entry slot_rvt_next hit.typeIs z8c ?_ (z9e _))))
 unfold Builtin.«reversed.__next__»
 refine wpAny_bind (wpAny_of_eq (a:=(Value.ref it,[])) rfl ?_)
 try dsimp only
 refine wpAny_bind (wpAny_field ho hd (x:=.ref t) rfl ?_)
 try dsimp only
 refine wpAny_bind (wpAny_field ho hd (x:=rawInt (i:Int)) rfl ?_)
 show wpAny _ _ (if (i:Int) < 0 then _ else _) _ _ s
 rw[if_neg (by omega)]
 refine wpAny_bind (wpAny_specialOf ht.typeIs slot_tuple_getitem.lookup ?_)
 try dsimp only
 rw[if_neg (by decide)]
 refine wpAny_bind (wpAny_mkInt ?_)
 have e1:seqIndex? (i:Int) items.size=some i:=by unfold seqIndex?;simp;omega
 refine wpAny_bind (wpAny_attempt (getItem_tuple (s:={ s with toks:=s.toks+1 }) ht (by omega) (by omega) e1 hx ?_))
 try dsimp only
 refine wpAny_bind (wpAny_field (s:={ s with toks:=s.toks+1 }) ho hd (x:=rawInt (i:Int)) rfl ?_)
 show wpAny _ _ (setField (.ref it) 1 (rawInt ((i:Int) - 1)) >>= _) _ _ _
 refine wpAny_bind (wpAny_setField (s:={ s with toks:=s.toks+1 }) ho hd (by simp) ?_)
 refine wpAny_pure ⟨x,rfl,wpAny_pure (hQ _ ?_ (Heap.SameBut.update ..))⟩
 exact⟨_,Heap.get?_update_self _ ho (Obj.isFreed_of_fields (Obj.data_mapFields hd _)),(Obj.cls_mapFields ..).trans hc,by
  rw[Obj.data_mapFields hd];simp⟩
theorem y6k {it t:Addr} {Q:Option Value->Shared->Prop} (hh:A.handled=none) (hit:IsRvt s.heap it t (-1))
 (hQ:∀ h',Heap.ExtBut it s.heap h'->Q none { s with heap:=h' }):wpAny (model prog w) A (pyNext (.ref it)) Q E s:=by
 obtain⟨o,ho,hc,hd⟩:=id hit
 unfold pyNext
 refine wpAny_bind (wpAny_attempt (wpAny_callSpecial?_slot (name:=Str.ofString "__next__") hit.typeIs slot_rvt_next
  (wpAny_call_entry slot_rvt_next hit.typeIs z8c ?_ (z9e _))))
 unfold Builtin.«reversed.__next__»
 refine wpAny_bind (wpAny_of_eq (a:=(Value.ref it,[])) rfl ?_)
 try dsimp only
 refine wpAny_bind (wpAny_field ho hd (x:=.ref t) rfl ?_)
 try dsimp only
 refine wpAny_bind (wpAny_field ho hd (x:=rawInt (-1)) rfl ?_)
 show wpAny _ _ (if (-1:Int) < 0 then _ else _) _ _ s
 rw[if_pos (by decide)]
 refine wpAny_bind (wpAny_rule ?_)
 refine wpAny_bind ?_
 wp_delta
 refine wpAny_bind (wpAny_setField ho hd (by simp) ?_)
 have ho2:=Heap.get?_update_self (Obj.mapFields fun a=>a.setIfInBounds 1 (rawInt (-1))) ho (Obj.isFreed_of_fields (Obj.data_mapFields hd _))
 refine wpAny_setField (s:={ s with heap:=_ }) ho2 (Obj.data_mapFields hd _) (by simp) ?_
 refine wpAny_bind ?_
 first
 | show wpAny _ _ (newExc (.type "StopIteration") [] >>= _) _ _ _
 | (refine wpAny_bind ?_;show wpAny _ _ (newExc (.type "StopIteration") [] >>= _) _ _ _)
 refine wpAny_bind ?_
 simp only[newExc,newTuple]
 refine wpAny_bind (wpAny_newObj_type ?_ (by size_fits))
 refine wpAny_bind (m:=firstArgMember _ _) (wpAny_of_eq (a:=Value.none) (by first | rfl | (simp only[firstArgMember];rfl)) ?_)
 refine wpAny_newObj_type ?_ (by size_fits)
 simp only[raiseNew]
 refine wpAny_bind (wpAny_handled ?_)
 first | rw[show A.in1.handled=none from hh] | rw[hh]
 refine wpAny_bind (wpAny_pure (wpAny_throw ?_))
 refine wpAny_bind (wpAny_isInstance (T:="StopIteration") (b:=true) ⟨_,Heap.get?_push_size _ rfl,rfl⟩ isSubtype_stop ?_)
 exact wpAny_pure (hQ _ fun b o hb e=>Heap.get?_push_of_some _ (Heap.get?_push_of_some _ ((Heap.get?_update_other _ _ (Ne.symm hb)).trans ((Heap.get?_update_other _ _ (Ne.symm hb)).trans e))))
theorem x0n {it t:Addr} {i:Int} {Q:Value->Shared->Prop} (hit:IsRvt s.heap it t i) (h:Q (.ref it) s):wpAny (model prog w) A (pyIter (.ref it)) Q E s:=by
 refine wpAny_pyIter_slot hit.typeIs z8k (wpAny_call_entry z8k hit.typeIs y2s ?_ (y5a _))
 show wpAny _ _ (ret (.ref it)) _ _ s
 exact wpAny_pure ⟨_,rfl,"reversed",_,hit.typeIs,slot_rvt_next.lookup,h⟩
end
def Ivt (K:W.Frag) (a:Addr) (xs:List V):It:=⟨fun i H=>SqT K H a xs/\i < xs.length,fun i H x H'=>H'=H/\xs.reverse[i]?=some x,fun i H=>SqT K H a xs/\i=xs.length⟩
theorem x6x {P:Program} {w:World} {K:W.Frag} {tg:Expr} (a it:Addr) (n:Nat) (xs0:List V) (hn:xs0.length=n):Turn P w K tg (Ivt K a xs0) [it] it (fun i h=>IsRvt h it a ((n:Int) - 1 - i)) where
 mem:=by simp
 obj:=fun i h st b hb=>by
  have e:b=it:=by simpa using hb
  subst e
  obtain⟨o,e,c,d⟩:=st
  exact⟨o,e,fun v z=>by rw[d]at z;cases z⟩
 keep:=fun i h h' st k=>st.at fun o e=>k it (by simp) o e
 item:=by
  intro X hP hw hK hc i pins s σ H E I hf st hg
  subst hP hw hK
  obtain⟨hq,hi⟩:=hg
  obtain⟨its,rv,p,hz⟩:=I.tuple hq
  have hl:=rv.length
  have hs9:sizeLine < 2 ^ 63:=by decide
  have hi:i < n:=by omega
  have hx:xs0[n - 1 - i]?=some (xs0[n - 1 - i]'(by omega)):=List.getElem?_eq_getElem (by omega)
  obtain⟨u,hu,ru⟩:=rv.get hx
  obtain⟨f0,f1,f2,f3,f4,f5⟩:=hf it (by simp)
  have e1:(n:Int) - 1 - (i:Int)=((n - 1 - i:Nat):Int):=by omega
  rw[e1]at st
  refine y4n st p (by simp;omega) (x:=u) (by simpa using hu) fun h' st' sb=>?_
  have I1:Inv X pins σ H { s with heap:=h',toks:=s.toks+1 }:=I.turned (t':=s.toks+1) (fun b o hb e=>(sb.2 b hb).trans e) f0 f1 f3 f4 f5
  obtain⟨o,e,c,d⟩:=id st'
  have e2:((n - 1 - i:Nat):Int) - 1=(n:Int) - 1 - ((i+1:Nat):Int):=by omega
  refine⟨u,rfl,go_of (s:={ s with heap:=h',toks:=s.toks+1 }) e c d (by decide) ⟨_,H,I1,ru,⟨rfl,?_⟩,by rw[←e2];exact st',fun b hb=>(hf b hb).1⟩⟩
  have e3:xs0.length - 1 - i=n - 1 - i:=by omega
  rw[List.getElem?_reverse (by omega),e3];exact hx
 done:=by
  intro X hP hw hK hc i pins s σ H E I hf st hg
  subst hP hw hK
  obtain⟨hq,hi⟩:=hg
  obtain⟨f0,f1,f2,f3,f4,f5⟩:=hf it (by simp)
  have e1:(n:Int) - 1 - (i:Int)=-1:=by omega
  rw[e1]at st
  exact y6k (I.ok.hd hc) st fun h' eb=>⟨rfl,I.turned (t':=s.toks) (fun b o hb e=>eb b o hb e) f0 f1 f3 f4 f5⟩
 self:=fun _ _ _ _ _ st h=>x0n st h
section
variable {X:Cx} {tg:Expr}
def iRvt (K:W.Frag) (ta:TA):TI:=fun σ H R=>ta σ H fun vs H1=>∃ a xs,vs=[V.ref a]/\SqT K H1 a xs/\R (Ivt K a xs) H1
theorem w1o {a:Expr} {ta:TA} {p pos:Pos} (hm:X.mg "reversed" = none) (ha:PA X [a] ta) (hg:Gl X "reversed":=by rfl) (hs:starEach [a] X.env=[(false,eval a X.env)]:=by rfl):PI X tg (.Call (.Name "reversed" p) [a] [] pos) (iRvt X.K ta):=by
 intro pins s σ H R I h
 refine Call_ (z7g I hg hm y2g (PyProof.Rows.callWith_type1 (thn (ha pos pins s σ H _ I h) fun us s1 ⟨vs,H1,I1,r1,q1⟩=>?_) hs rfl))
 obtain⟨b,xs,e,hq,q⟩:=q1
 subst e
 cases r1 with
 | cons r rr =>
  cases rr
  cases r
  obtain⟨its,rv,p,hz⟩:=I1.tuple hq
  have hs9:sizeLine < 2 ^ 63:=by decide
  have hl:=rv.length
  have hst:IsRvt (s1.heap.push (y2v b ((its.toArray.size:Int) - 1))) s1.heap.objs.size b ((xs.length:Int) - 1 - (0:Nat)):=⟨_,Heap.get?_push_size _ rfl,rfl,by simp[y2v,hl]⟩
  refine x8l p (by simp;omega) (x0n (s:={ s1 with heap:=_,toks:=_ }) hst ?_)
  refine⟨s1.heap.objs.size,[s1.heap.objs.size],_,_,H1,rfl,I1.kept (t':=s1.toks+1+1) fun b o e=>Heap.get?_push_of_some _ e,x6x b _ xs.length xs rfl,hst,fun b hb=>?_,q⟩
  have e:b=s1.heap.objs.size:=by simpa using hb
  subst e
  exact I1.fpOk (Nat.le_refl _) (I1.hok.fresh (Nat.le_refl _))
end
theorem w0o {K:W.Frag} {a:Addr} {xs:List V} {g:TG} {tb:TS} {D:Ends} {σ:St} {H:Hp} (Pv:Nat->St->Hp->Prop) (h0:Pv 0 σ H) (hl:∀ i σ H,i<=xs.length->Pv i σ H->SqT K H a xs)
 (hs:∀ i x σ H,xs.reverse[i]?=some x->Pv i σ H->g x σ H fun σ2 H2=>tb { D with nx:=Pv (i+1),ct:=Pv (i+1),bk:=D.nx } σ2 H2) (hd:∀ σ H,Pv xs.length σ H->D.nx σ H) :
 ∃ W:Nat->Nat->St->Hp->Prop,(∃ m,W 0 m σ H)/\∀ i m σ H,W i m σ H ->
  ((Ivt K a xs).stop i H/\D.nx σ H)∨((Ivt K a xs).go i H/\∃ N:St->Hp->Prop,(∀ σ' H',N σ' H'->∃ m',m' < m/\W (i+1) m' σ' H')/\∀ x H',(Ivt K a xs).yld i H x H'->g x σ H' fun σ2 H2=>tb { D with nx:=N,ct:=N,bk:=D.nx } σ2 H2):=by
 refine⟨fun i m σ H=>m=xs.length - i/\i<=xs.length/\Pv i σ H,⟨xs.length,by simp,Nat.zero_le _,h0⟩,?_⟩
 rintro i m σ H ⟨rfl,hi,p⟩
 have q:=hl i σ H hi p
 by_cases hlt:i < xs.length
 ·refine .inr ⟨⟨q,hlt⟩,Pv (i+1),fun σ' H' p'=>⟨xs.length - (i+1),by omega,rfl,hlt,p'⟩,fun x H' y=>?_⟩
  obtain⟨e,y⟩:=y
  subst e
  exact hs i x σ _ y p
 ·have e:i=xs.length:=by omega
  subst e
  exact .inl ⟨⟨q,rfl⟩,hd σ H p⟩
end L2
namespace L2
open PySem
def Rise (xs:Array Nat):Prop:=xs.toList.Pairwise (· < ·)
theorem Rise.lt {xs:Array Nat} (h:Rise xs) {i k:Nat} (hik:i < k) (hk:k < xs.size):xs[i]'(by omega) < xs[k]:=by
 have:=List.pairwise_iff_getElem.mp h i k (by simp;omega) (by simpa using hk) hik
 simpa using this
def Cut (xs:Array Nat) (j p:Nat):Prop:=p<=xs.size/\(∀ i (_:i < p) (h:i < xs.size),xs[i] < j)/\∀ i (_:p<=i) (h:i < xs.size),j<=xs[i]
theorem y4z {xs:Array Nat} {j:Nat} (hr:Rise xs):∀ (fuel lo hi:Nat),hi - lo<=fuel->lo<=hi->hi<=xs.size->(∀ i (_:i < lo) (h:i < xs.size),xs[i] < j)->(∀ i (_:hi<=i) (h:i < xs.size),j<=xs[i])->Cut xs j (SetTable.below.go xs j fuel lo hi)
 | 0,lo,hi,hf,hl,hh,h1,h2=>by
  have e:lo=hi:=by omega
  subst e
  show Cut xs j lo
  exact⟨hh,h1,h2⟩
 | fuel+1,lo,hi,hf,hl,hh,h1,h2=>by
  rw[SetTable.below.go]
  by_cases hlt:lo < hi
  ·rw[if_pos hlt]
   have hm:(lo+hi) / 2 < xs.size:=by omega
   have hg:xs.getD ((lo+hi) / 2) j=xs[(lo+hi) / 2]:=by simp[hm]
   dsimp only
   by_cases c:xs.getD ((lo+hi) / 2) j < j
   ·rw[if_pos c]
    rw[hg]at c
    refine y4z hr fuel _ _ (by omega) (by omega) hh (fun i hi' h=>?_) h2
    by_cases e:i=(lo+hi) / 2
    ·subst e;exact c
    ·exact Nat.lt_trans (hr.lt (show i < (lo+hi) / 2 by omega) hm) c
   ·rw[if_neg c]
    rw[hg]at c
    refine y4z hr fuel _ _ (by omega) (by omega) (by omega) h1 fun i hi' h=>?_
    by_cases e:i=(lo+hi) / 2
    ·subst e;omega
    ·have:=hr.lt (show (lo+hi) / 2 < i by omega) h;omega
  ·rw[if_neg hlt]
   have e:lo=hi:=by omega
   subst e
   exact⟨hh,h1,h2⟩
theorem y2i {xs:Array Nat} (hr:Rise xs) (j:Nat):Cut xs j (SetTable.below xs j) :=
 y4z hr xs.size 0 xs.size (by omega) (by omega) (Nat.le_refl _) (fun i h=>by omega) fun i h h'=>by omega
theorem Cut.uniq {xs:Array Nat} {j p q:Nat} (hp:Cut xs j p) (hq:Cut xs j q):p=q:=by
 by_cases h:p < q
 ·have h1:=hq.2.1 p h (by have:=hq.1;omega)
  have h2:=hp.2.2 p (Nat.le_refl _) (by have:=hq.1;omega)
  omega
 ·by_cases h':q < p
  ·have h1:=hp.2.1 q h' (by have:=hp.1;omega)
   have h2:=hq.2.2 q (Nat.le_refl _) (by have:=hp.1;omega)
   omega
  ·omega
theorem y3n {xs:Array Nat} (hr:Rise xs):SetTable.below xs 0=0 :=
 (y2i hr 0).uniq ⟨Nat.zero_le _,fun i h=>by omega,fun i _ h=>Nat.zero_le _⟩
theorem y3o {xs:Array Nat} (hr:Rise xs) {i:Nat} (hi:i < xs.size):SetTable.below xs (xs[i]+1)=i+1 :=
 (y2i hr _).uniq ⟨hi,fun k hk h=>by
  by_cases e:k=i
  ·subst e;omega
  ·have:=hr.lt (show k < i by omega) hi;omega,fun k hk h=>by have:=hr.lt (show i < k by omega) h;omega⟩
theorem y1a {α:Type} (xs:Array α) (p:Nat) (x:α) (hp:p<=xs.size):(SetTable.insertAt xs p x).toList=xs.toList.take p++x::xs.toList.drop p:=by
 unfold SetTable.insertAt
 simp[List.take_of_length_le]
theorem Rise.insert {xs:Array Nat} {j:Nat} (hr:Rise xs) (hn:xs[SetTable.below xs j]?≠some j):Rise (SetTable.insertAt xs (SetTable.below xs j) j):=by
 have c:=y2i hr j
 generalize SetTable.below xs j=p at c hn
 unfold Rise
 rw[y1a xs p j c.1]
 refine List.pairwise_append.mpr ⟨List.Pairwise.sublist (List.take_sublist _ _) hr,List.pairwise_cons.mpr ⟨fun y hy=>?_,List.Pairwise.sublist (List.drop_sublist _ _) hr⟩,fun a ha b hb=>?_⟩
 ·obtain⟨i,hi,e⟩:=List.mem_iff_getElem.mp hy
  rw[List.getElem_drop]at e
  have hsz:p+i < xs.size:=by simp at hi;omega
  have h1:=c.2.2 (p+i) (by omega) hsz
  have h2:xs[p+i]=y:=by simpa using e
  by_cases z:y=j
  ·exfalso
   by_cases z0:i=0
   ·subst z0
    apply hn
    rw[Array.getElem?_eq_getElem (by simpa using hsz)]
    have:xs[p]'(by simpa using hsz)=y:=by simpa using h2
    rw[this,z]
   ·have h3:=hr.lt (show p < p+i by omega) hsz
    have h4:=c.2.2 p (Nat.le_refl _) (by omega)
    omega
  ·omega
 ·obtain⟨i,hi,e⟩:=List.mem_iff_getElem.mp ha
  rw[List.getElem_take]at e
  have hi':i < p/\i < xs.size:=by simp at hi;omega
  have h1:=c.2.1 i hi'.1 hi'.2
  have h2:xs[i]'hi'.2=a:=by simpa using e
  rcases List.mem_cons.mp hb with z | z
  ·rw[z];omega
  ·obtain⟨k,hk,e'⟩:=List.mem_iff_getElem.mp z
   rw[List.getElem_drop]at e'
   have hsz:p+k < xs.size:=by simp at hk;omega
   have h3:=c.2.2 (p+k) (by omega) hsz
   have h4:xs[p+k]=b:=by simpa using e'
   omega
theorem x1m (n:Nat):Rise (Array.range n):=by
 unfold Rise
 rw[Array.toList_range]
 exact List.pairwise_lt_range
theorem x1n:Rise #[]:=List.Pairwise.nil
def TabOk (L:Bool) (t:SetTable):Prop:=t.led=L/\Rise t.place
theorem x2y (L:Bool) (f m:Nat):TabOk L (.fresh f m L):=⟨rfl,x1n⟩
theorem y5m {t:SetTable} {j:Nat} (h:t.slot j=.empty∨t.slot j=.dummy):t.place[SetTable.below t.place j]?≠some j:=by
 intro e
 have hs:t.slot j=.live (SetTable.below t.place j):=by
  unfold SetTable.slot
  dsimp only
  rw[e];simp
 rw[hs]at h
 rcases h with z | z<;>cases z
theorem y4i {t:SetTable} {hashAt:Nat->Int} {h:Int}:∀ (fuel:Nat) (p:SetTable.Probe) (j:Nat) (d:Option Nat),(∀ x,p.dummy=some x->t.slot x=.dummy)->SetTable.probe.go t hashAt h fuel p=some (.empty j d)->t.slot j=.empty/\∀ x,d=some x->t.slot x=.dummy
 | 0,p,j,d,hd,e=>by rw[SetTable.probe.go]at e;cases e
 | fuel+1,p,j,d,hd,e=>by
  rw[SetTable.probe.go]at e
  have adv:∀ q:SetTable.Probe,(t.advance q).dummy=q.dummy:=fun q=>by
   unfold SetTable.advance
   split<;>rfl
  cases hs:t.slot p.j with
  | empty =>
   rw[hs]at e
   cases e
   exact⟨hs,hd⟩
  | dummy =>
   rw[hs]at e
   refine y4i fuel _ j d (fun x hx=>?_) e
   rw[adv]at hx
   cases hx
   exact hs
  | live i =>
   rw[hs]at e
   dsimp only at e
   split at e
   ·cases e
   ·refine y4i fuel _ j d (fun x hx=>?_) e
    rw[adv]at hx
    exact hd x hx
theorem x5s {t:SetTable} {h:Int} {j:Nat} {b:Bool} (e:t.freeSlot h=some (j,b)):t.place[SetTable.below t.place j]?≠some j:=by
 unfold SetTable.freeSlot at e
 split at e
 ·rename_i j0 d hp
  have e1:d.getD j0=j:=congrArg (·.1) (Option.some.inj e)
  have hh:=y4i (10 * SetTable.turns t.mask) (t.probeStart h) j0 d (fun x hx=>by cases hx) hp
  cases d with
  | none =>
   have:j0=j:=e1
   subst this
   exact y5m (.inl hh.1)
  | some x =>
   have:x=j:=e1
   subst this
   exact y5m (.inr (hh.2 x rfl))
 ·cases e
theorem z6o {L:Bool} {t:SetTable} (h:TabOk L t) (n:Nat):TabOk L (t.standIn n):=⟨h.1,x1m n⟩
theorem y3s {L:Bool} {t:SetTable} (h:TabOk L t) (n:Nat):TabOk L (t.orStandIn n):=by
 unfold SetTable.orStandIn
 split
 ·exact h
 ·exact z6o h n
theorem x1g {L:Bool} {t:SetTable} (h:TabOk L t) (es:Array (Int × Value)) (k:Int) (x:Value):TabOk L (layNew t es k x).2.1:=by
 unfold layNew
 split
 ·rename_i slot wasDummy e
  exact y3s (t:=(t.put slot).1) ⟨h.1,h.2.insert (x5s e)⟩ _
 ·exact z6o h _
theorem x3q (mask:Nat) (owner:Array (Option Nat)):Rise ((((List.range (mask+1)).filterMap fun j=>(owner.getD j none).map fun k=>(j,k)).map (·.1)).toArray):=by
 unfold Rise
 rw[List.toList_toArray]
 have:∀ l:List Nat,l.Pairwise (· < ·)->(((l.filterMap fun j=>(owner.getD j none).map fun k=>(j,k)).map (·.1)).Pairwise (· < ·)):=by
  intro l
  induction l with
  | nil=>intro _;simp
  | cons a r ih =>
   intro hp
   obtain⟨h1,h2⟩:=List.pairwise_cons.mp hp
   cases ho:owner.getD a none with
   | none =>
    rw[List.filterMap_cons_none (by rw[ho];rfl)]
    exact ih h2
   | some k =>
    rw[List.filterMap_cons_some (b:=(a,k)) (by rw[ho];rfl),List.map_cons]
    refine List.pairwise_cons.mpr ⟨fun b hb=>?_,ih h2⟩
    obtain⟨q,hq,rfl⟩:=List.mem_map.mp hb
    obtain⟨j,hj,e⟩:=List.mem_filterMap.mp hq
    cases hj2:owner.getD j none with
    | none=>rw[hj2]at e;cases e
    | some k2=>rw[hj2]at e;cases e;exact h1 j hj
 exact this _ List.pairwise_lt_range
theorem y5i {L:Bool} {t:SetTable} (h:TabOk L t) (es:Array (Int × Value)) (n:Nat):TabOk L (relayAll t es n).2.1:=by
 unfold relayAll
 split
 ·rename_i t' order e
  dsimp only
  split
  ·unfold SetTable.relaid SetTable.laid at e
   cases ho:SetTable.layClean (SetTable.sizeAbove n - 1) (es.map (·.1)) with
   | none=>rw[ho]at e;cases e
   | some owner =>
    rw[ho]at e
    have e1:=Option.some.inj e
    have e2:t'=_:=(congrArg (·.1) e1).symm
    rw[e2]
    exact⟨h.1,x3q _ owner⟩
  ·exact z6o h _
 ·exact z6o h _
theorem x2x {L:Bool} {t:SetTable} (h:TabOk L t) (b:Bool):TabOk L { t with plain:=b }:=h
end L2
namespace L2
open PySem PySem.Spec PyProof.Rows
abbrev ledOf (w:World):Bool:=!(w.params.followText "set-order")
section
variable {prog:Program} {w:World} {A:Around} {E:Value->Shared->Prop} {s:Shared}
def SetT (prog:Program) (w:World) (L:Bool) (h:Heap) (a:Addr) (S:Int->Bool) (n:Nat):Prop :=
 ∃ o es ep t,h.get? a=some o/\o.ExactSet/\o.data=.set es ep t/\ElemsOf (intKind prog w) es.toList/\(∀ k,S k=true↔∃ e∈es.toList,(intKind prog w).is k e.2=true)/\es.size < scanBound/\t.fits es.size=true/\es.size=n/\TabOk L t
theorem SetT.of {L:Bool} {h:Heap} {a:Addr} {S:Int->Bool} {n:Nat} (x:SetT prog w L h a S n):h.SetOf (intKind prog w) a S n :=
 let ⟨o,es,ep,t,a1,a2,a3,a4,a5,a6,a7,a8,_⟩:=x;⟨o,es,ep,t,a1,a2,a3,a4,a5,a6,a7,a8⟩
theorem SetT.store {L:Bool} {h:Heap} {a:Addr} {o:Obj} {es es1:Array (Int × Value)} {ep:Nat} {t t1:SetTable} {S:Int->Bool} (ho:h.get? a=some o) (hex:o.ExactSet) (hd:o.data=.set es ep t) (hel:ElemsOf (intKind prog w) es1.toList)
 (hm:∀ k,S k=true↔∃ e∈es1.toList,(intKind prog w).is k e.2=true) (hb:es1.size < scanBound) (hf:t1.fits es1.size=true) (ht:TabOk L t1) :
 (∃ o',(h.update a (Obj.putSet es1 t1)).get? a=some o'/\o'.ExactSet/\∃ ep',o'.data=.set es1 ep' t1)/\SetT prog w L (h.update a (Obj.putSet es1 t1)) a S es1.size:=by
 obtain⟨ho1,hS1⟩:=SetOf_store (knd:=intKind prog w) ho hex hd hel hm hb hf
 have e:=ho1
 refine⟨⟨_,ho1,hex,_,rfl⟩,⟨_,es1,_,t1,ho1,hex,rfl,hel,hm,hb,hf,rfl,ht⟩⟩
theorem x8t {L:Bool} {g:Bool->Sem Unit} (hg:∀ (b:Bool) (s₁:Shared) (Q':Unit->Shared->Prop),Q' () s₁->wpAny (model prog w) A (g b) Q' E s₁)
 {a:Addr} {o:Obj} {es es1:Array (Int × Value)} {ep:Nat} {t t2:SetTable} {S:Int->Bool} (ho:s.heap.get? a=some o) (hex:o.ExactSet) (hd:o.data=.set es ep t) (hel:ElemsOf (intKind prog w) es1.toList)
 (hm:∀ k,S k=true↔∃ e∈es1.toList,(intKind prog w).is k e.2=true) (hb:es1.size < scanBound) (hf:t2.fits es1.size=true) (ht:TabOk L t2) {wasDummy:Bool} {R:Option Bool->Shared->Prop}
 (h:∀ h',Heap.SameBut a s.heap h'->SetT prog w L h' a S es1.size->R (some true) { s with heap:=h' }) :
 wpAny (model prog w) A (do
  storeSet a es1 t2
  if (!wasDummy && t2.tooFull)=true then do
      g (relayAll t2 es1 (SetTable.grown es1.size)).2.2
      storeSet a (relayAll t2 es1 (SetTable.grown es1.size)).1 (relayAll t2 es1 (SetTable.grown es1.size)).2.1
      pure (some true)
   else pure (some true)) R E s:=by
 obtain⟨⟨o1,ho1,hex1,ep1,hd1⟩,hS1⟩:=SetT.store ho hex hd hel hm hb hf ht
 have hsb:=Heap.SameBut.update s.heap a (Obj.putSet es1 t2)
 refine wpAny_bind (wpAny_storeSet_of ho hd ?_ (fits_of_scanBound hb))
 split
 ·have hp:=relayAll_perm t2 es1 (SetTable.grown es1.size)
  have hfr:=relayAll_fits t2 es1 (SetTable.grown es1.size)
  have htr:=y5i ht es1 (SetTable.grown es1.size)
  generalize relayAll t2 es1 (SetTable.grown es1.size)=Rl at hp hfr htr ⊢
  obtain⟨es2,t3,gave⟩:=Rl
  dsimp only at hp hfr htr ⊢
  have hsz:es2.size=es1.size:=by rw[←Array.length_toList,hp.length_eq,Array.length_toList]
  have hb2:es2.size < scanBound:=by rw[hsz];exact hb
  refine wpAny_bind (hg _ _ _ ?_)
  refine wpAny_bind (wpAny_storeSet_of ho1 hd1 ?_ (fits_of_scanBound hb2))
  obtain⟨_,hS2⟩:=SetT.store (S:=S) ho1 hex1 hd1 (hel.perm hp) (fun k=>(hm k).trans ⟨fun ⟨e,he,q⟩=>⟨e,hp.mem_iff.mpr he,q⟩,fun ⟨e,he,q⟩=>⟨e,hp.mem_iff.mp he,q⟩⟩) hb2 hfr htr
  rw[hsz]at hS2
  exact wpAny_pure (h _ (hsb.trans (Heap.SameBut.update _ a _)) hS2)
 ·exact wpAny_pure (h _ hsb hS1)
theorem add_T {L:Bool} {a:Addr} {S:Int->Bool} {n:Nat} {k:Int} {x:Value} {Q:Bool->Shared->Prop} (hkey:(intKind prog w).is k x=true) (hsc:x.scannable=true) (hS:SetT prog w L s.heap a S n) (hroom:n+1 < scanBound)
 (h:∀ h',Heap.SameBut a s.heap h'->SetT prog w L h' a (fun k'=>S k' || decide (k'=k)) (if S k then n else n+1)->Q (!S k) { s with heap:=h' }) :
 wpAny (model prog w) A (setAddHashed a x ((intKind prog w).hash k)) Q E s:=by
 obtain⟨o,es,ep,t,ho,hex,hd,hel,hmem,hb,hf,hn,ht⟩:=hS
 unfold setAddHashed setAddHashedIn
 refine wpAny_holding (wpAny_bind (wpAny_setState_of ho hd hf ?_))
 dsimp only
 rw[byScan_of hsc hb hel]
 simp only[↓reduceIte]
 unfold setAddByScan
 refine wpAny_bind (wpAny_bind (wpAny_rule (wpAny_bind (wpAny_setScan_of hkey ho hd hf hel ?_))))
 cases hr:List.findIdx? (fun e=>(intKind prog w).is k e.2) es.toList with
 | some j =>
  dsimp only
  obtain⟨hj,hpj,_⟩:=List.findIdx?_eq_some_iff_getElem.mp hr
  have hSk:S k=true:=(hmem k).mpr ⟨es.toList[j],List.getElem_mem hj,hpj⟩
  have:=h s.heap (Heap.SameBut.refl a s.heap) ⟨o,es,ep,t,ho,hex,hd,hel,fun k'=>by
   rw[←hmem k',Bool.or_eq_true,decide_eq_true_eq]
   exact⟨fun z=>z.elim id fun e=>e ▸ hSk,.inl⟩,hb,hf,by rw[hSk];exact hn,ht⟩
  rw[hSk]at this
  exact wpAny_pure (wpAny_pure this)
 | none =>
  dsimp only
  have hSk:S k=false:=by
   cases hk:S k with
   | false=>rfl
   | true=>obtain⟨e,he,hp⟩:=(hmem k).mp hk;have:=List.findIdx?_eq_none_iff.mp hr e he;rw[hp]at this;exact Bool.noConfusion this
  have hgw:∀ (b:Bool) {s₁:Shared} {Q':Unit->Shared->Prop},Q' () s₁->wpAny (model prog w) A (match b with | true=>rule "set.scan.the-table-gave-way" | false=>pure ()) Q' E s₁ :=
   fun b s₁ Q' hq=>by cases b<;>first | exact wpAny_pure hq | exact wpAny_rule hq
  have hperm:=layNew_perm t es ((intKind prog w).hash k) x
  have hfits:=layNew_fits t es ((intKind prog w).hash k) x
  have htab:=x1g ht es ((intKind prog w).hash k) x
  generalize layNew t es ((intKind prog w).hash k) x=Lr at hperm hfits htab ⊢
  obtain⟨es1,t1,wasDummy,gave⟩:=Lr
  dsimp only at hperm hfits htab ⊢
  rw[Array.toList_push]at hperm
  have hel1:ElemsOf (intKind prog w) es1.toList:=(hel.push hkey hsc).perm hperm
  have hmem1:=mem_push_iff hkey hmem hperm
  have hsz1:es1.size=n+1:=by rw[←Array.length_toList,hperm.length_eq,List.length_append,Array.length_toList,hn];rfl
  have hb1:es1.size < scanBound:=by omega
  refine wpAny_bind (hgw _ ?_)
  have hend:∀ h',Heap.SameBut a s.heap h'->SetT prog w L h' a (fun k'=>S k' || decide (k'=k)) es1.size->Q true { s with heap:=h' }:=fun h' hsb hS'=>by
   have:=h h' hsb
   rw[hSk]at this
   rw[hsz1]at hS'
   exact this hS'
  split
  ·refine wpAny_bind ?_
   rw[hashByValue_scannable 8 hsc]
   refine wpAny_pure ?_
   refine x8t (L:=L) ?_ ho hex hd hel1 hmem1 hb1 ?_ ?_ ?_
   ·intro b s₁ Q' hq;cases b<;>first | exact wpAny_pure hq | exact wpAny_rule hq
   ·split
    ·exact hfits
    ·exact SetTable.fits_plain_off hfits
   ·split
    ·exact htab
    ·exact x2x htab _
   ·intro h' hsb hS';exact wpAny_pure (hend h' hsb hS')
  ·refine wpAny_bind (wpAny_pure ?_)
   simp only[↓reduceIte]
   refine x8t (L:=L) ?_ ho hex hd hel1 hmem1 hb1 hfits htab ?_
   ·intro b s₁ Q' hq;cases b<;>first | exact wpAny_pure hq | exact wpAny_rule hq
   ·intro h' hsb hS';exact wpAny_pure (hend h' hsb hS')
end
end L2
namespace L2
open PySem PySem.Spec PyProof.Rows
def addI (acc:List Int) (n:Int):List Int:=if n∈acc then acc else acc++[n]
def uniq (ns:List Int):List Int:=ns.foldl addI []
theorem y5f (ns:List Int) (n:Int):uniq (ns++[n])=addI (uniq ns) n:=by unfold uniq;rw[List.foldl_append];rfl
theorem x0k {acc:List Int} {n x:Int}:x∈addI acc n↔x∈acc∨x=n:=by
 unfold addI
 split
 ·rename_i h
  exact⟨.inl,fun z=>z.elim id fun e=>e ▸ h⟩
 ·simp
theorem x0m (acc:List Int) (n:Int):(addI acc n).length=if decide (n∈acc)=true then acc.length else acc.length+1:=by
 unfold addI
 by_cases h:n∈acc<;>simp[h]
theorem y4r:∀ (ns acc:List Int),(ns.foldl addI acc).length<=acc.length+ns.length
 | [],_=>by simp
 | n::ns,acc=>by
  rw[List.foldl_cons]
  have h1:=y4r ns (addI acc n)
  have h2:=x0m acc n
  have:(addI acc n).length<=acc.length+1:=by rw[h2];split<;>omega
  simp only[List.length_cons];omega
theorem x2b {acc:List Int} {n:Int} (h:acc.Nodup):(addI acc n).Nodup:=by
 unfold addI
 split
 ·exact h
 ·rename_i hn
  exact List.nodup_append.mpr ⟨h,by simp,fun a ha b hb e=>hn (by
   have:b=n:=by simpa using hb
   rw[←this,←e];exact ha)⟩
section
variable {prog:Program} {w:World} {A:Around} {E:Value->Shared->Prop} {s:Shared}
theorem SetT.congr {L:Bool} {h:Heap} {a:Addr} {S S':Int->Bool} {n n':Nat} (x:SetT prog w L h a S n) (e:∀ k,S k=S' k) (en:n=n'):SetT prog w L h a S' n':=by
 have:S=S':=funext e
 subst this;subst en;exact x
theorem SetT.at {L:Bool} {h h':Heap} {a:Addr} {S:Int->Bool} {n:Nat} (x:SetT prog w L h a S n) (k:∀ o,h.get? a=some o->h'.get? a=some o):SetT prog w L h' a S n :=
 let ⟨o,es,ep,t,a1,rest⟩:=x;⟨o,es,ep,t,k _ a1,rest⟩
theorem w1z {L:Bool} {R:Result->Shared->Prop} {I:Addr} {fp wr:List Addr} {G:Array GenState->Array GenState->Prop} {P:Nat->Value->Prop} {St:Nat->Shared->Prop} {ns:List Int}
 (W:WalksS prog w A.in1 I fp wr G ns.length P St) (S:Addr) (hSf:S ∉ fp) (hval:∀ i v,P i v->∃ t,v=.int (ns.getD i 0) t) (hb:ns.length+1 < scanBound) :
 ∀ (k i:Nat) (s:Shared),ns.length - i=k->i<=ns.length->St i s->SetT prog w L s.heap S (fun k'=>decide (k'∈uniq (ns.take i))) (uniq (ns.take i)).length ->
  (∀ s',Moved (S::wr) G s s'->SetT prog w L s'.heap S (fun k'=>decide (k'∈uniq ns)) (uniq ns).length->R (.ok (.ret .none)) s') ->
  codeAny (model prog w) A (.builtin "set.update.loop" ⟨[.ref S,.ref I],[]⟩) R s:=by
 have hSw:S ∉ wr:=fun h=>hSf (W.sub _ h)
 have hsub:∀ b∈wr,b∈S::wr:=fun b hb=>List.mem_cons_of_mem _ hb
 intro k
 induction k with
 | zero =>
  intro i s hk hi hst hS hR
  have hin:i=ns.length:=by omega
  subst hin
  rw[List.take_length]at hS
  refine codeAny_builtin F.entry_set_update_loop ?_
  rw[Around.under_plainId F.plain_set_update_loop _]
  show wpAny _ A.in1 (pyNext (.ref I) >>= _) _ _ s
  refine wpAny_bind (W.done s _ _ hst fun s' hm=>?_)
  show wpAny _ A.in1 (ret Value.none) _ _ s'
  exact wpAny_pure (hR s' (hm.mono hsub) (hS.at fun o e=>hm.heap S o hSw e))
 | succ k ih =>
  intro i s hk hi hst hS hR
  have hlt:i < ns.length:=by omega
  refine codeAny_builtin F.entry_set_update_loop ?_
  rw[Around.under_plainId F.plain_set_update_loop _]
  show wpAny _ A.in1 (pyNext (.ref I) >>= _) _ _ s
  refine wpAny_bind (W.item i s _ _ hlt hst fun v s' hP hst' hm=>?_)
  obtain⟨t,rfl⟩:=hval i v hP
  have hS':=hS.at (h':=s'.heap) fun o e=>hm.heap S o hSw e
  show wpAny _ A.in1 (holding [Value.int (ns.getD i 0) t] (setAdd S (.int (ns.getD i 0) t)) >>= _) _ _ s'
  refine wpAny_bind (wpAny_holding ?_)
  unfold setAdd
  refine wpAny_holding ?_
  refine wpAny_bind ((intKind prog w).pyHash (k:=ns.getD i 0) (intKind_is _ _ _ _) ?_)
  have hl0:=y4r (ns.take i) []
  have hl1:(ns.take i).length<=i:=List.length_take_le _ _
  have hroom:(uniq (ns.take i)).length+1 < scanBound:=by
   have:(uniq (ns.take i)).length<=(ns.take i).length:=by simpa[uniq] using hl0
   omega
  refine add_T (L:=L) (s:={ s' with toks:=s'.toks+1 }) (intKind_is _ _ _ _) rfl hS' hroom fun h' hsb hS2=>?_
  have et:ns.take (i+1)=ns.take i++[ns.getD i 0]:=by rw[List.take_add_one,List.getElem?_eq_getElem hlt];simp[hlt]
  have hSi:SetT prog w L h' S (fun k'=>decide (k'∈uniq (ns.take (i+1)))) (uniq (ns.take (i+1))).length:=hS2.congr (fun k'=>by
   rw[et,y5f,Bool.eq_iff_iff]
   simp only[Bool.or_eq_true,decide_eq_true_eq,x0k]) (by rw[et,y5f,x0m])
  refine wpAny_pure ⟨plainId_quiet F.plain_set_update_loop _,ih (i+1) _ (by omega) hlt (W.frame _ s' _ _ hst' (Nat.le_succ _) fun b hb o e=>?_) hSi fun s'' hm'' hS''=>?_⟩
  ·rw[hsb.2 b (fun h:b=S=>hSf (by rw[←h];exact hb))];exact e
  ·refine hR s'' (Moved.trans W.gtrans ((hm.mono hsub).then_heap (Nat.le_succ _) fun b o hb e=>?_) hm'') hS''
   rw[hsb.2 b (fun h:b=S=>hb (by rw[h];exact List.mem_cons_self))];exact e
end
end L2
namespace L2
open PySem PySem.Spec PyProof.Rows
theorem slot_si_next:Slot "set_iterator" "__next__" "set_iterator.__next__" :=
 .of (owner:="set_iterator") (n:="__next__") (by rw[typeLookup_type,builtinLookup_eq_fast];kernel_rfl) (by decide +kernel) (by decide +kernel) (by decide +kernel)
  (by first | exact .inl (by decide +kernel) | exact .inr (by decide +kernel)) (by rw[isSubtype_type];kernel_rfl)
theorem z5b:entryFor table "set_iterator.__next__" = some Builtin.«set_iterator.__next__»:=entryFor_of_tree (by kernel_rfl)
theorem z6c (a:Value):argsOk "set_iterator.__next__" ⟨[a],[]⟩:=by unfold argsOk;kernel_rfl
def SI (h:Heap) (it:Addr) (first:Value) (i:Nat) (a:Addr) (n ep:Nat):Prop:=∃ o,h.get? it=some o/\o.cls=.type "set_iterator"/\o.data=.fields #[first,.int i 0,.ref a,.int n 0,.int ep 0]
theorem SI.typeIs {s:Shared} {it:Addr} {first:Value} {i:Nat} {a:Addr} {n ep:Nat} (x:SI s.heap it first i a n ep):s.TypeIs (.ref it) "set_iterator":=let ⟨o,h1,h2,_⟩:=x;⟨o,h1,h2⟩
section
variable {prog:Program} {w:World} {A:Around} {E:Value->Shared->Prop} {s:Shared}
def SAt (h:Heap) (a:Addr) (es:Array (Int × Value)) (ep:Nat) (t:SetTable):Prop:=∃ o,h.get? a=some o/\o.data=.set es ep t/\t.fits es.size=true
theorem x9p {it a:Addr} {es:Array (Int × Value)} {ep i slot slot':Nat} {t:SetTable} {v:Value} {Q:Option Value->Shared->Prop} (hne:a≠it) (hi:SI s.heap it (.int slot 0) i a es.size ep) (hs:SAt s.heap a es ep t)
 (hN:∀ (A:Around) (E:Value->Shared->Prop) (Q:Option (Value × Nat)->Shared->Prop),Q (some (v,slot')) s->wpAny (model prog w) A (setNext a slot i ep) Q E s)
 (hQ:∀ h',SI h' it (.int slot' 0) (i+1) a es.size ep->Heap.SameBut it s.heap h'->Q (some v) { s with heap:=h' }):wpAny (model prog w) A (pyNext (.ref it)) Q E s:=by
 obtain⟨o,ho,hc,hd⟩:=id hi
 obtain⟨os,hos,hds,hf⟩:=hs
 unfold pyNext
 refine wpAny_bind (wpAny_attempt (wpAny_callSpecial?_slot (name:=Str.ofString "__next__") hi.typeIs slot_si_next
  (wpAny_call_entry slot_si_next hi.typeIs z5b ?_ (z6c _))))
 show wpAny _ _ (fieldsOf (.ref it) >>= _) _ _ s
 refine wpAny_bind (wpAny_fieldsOf ho hd ?_)
 show wpAny _ _ (setEntries a >>= _) _ _ s
 refine wpAny_bind (wpAny_setEntries_of hos hds hf ?_)
 rw[if_neg (by simp)]
 show wpAny _ _ (setNext a (slot:Int).toNat (i:Int).toNat (ep:Int).toNat >>= _) _ _ s
 rw[Int.toNat_natCast,Int.toNat_natCast,Int.toNat_natCast]
 refine wpAny_bind (hN _ _ _ ?_)
 dsimp only
 refine wpAny_bind (wpAny_setField ho hd (by simp) ?_)
 have ho1:(s.heap.update it (Obj.mapFields (·.setIfInBounds 0 (rawInt slot')))).get? it=some (Obj.mapFields (·.setIfInBounds 0 (rawInt slot')) o):=Heap.get?_update_self _ ho (Obj.isFreed_of_fields (Obj.data_mapFields hd _))
 have hd1:=Obj.data_mapFields hd (·.setIfInBounds 0 (rawInt slot'))
 refine wpAny_bind (wpAny_setField ho1 hd1 (by simp) (wpAny_pure ⟨v,rfl,wpAny_pure (hQ _ ?_ ((Heap.SameBut.update ..).trans (Heap.SameBut.update ..)))⟩))
 refine⟨_,Heap.get?_update_self _ ho1 (Obj.isFreed_of_fields (Obj.data_mapFields hd1 _)),?_,?_⟩
 ·rw[Obj.cls_mapFields,Obj.cls_mapFields];exact hc
 ·rw[Obj.data_mapFields hd1];simp[rawInt]
theorem w1i {it a:Addr} {es:Array (Int × Value)} {ep i slot:Nat} {t:SetTable} {Q:Option Value->Shared->Prop} (hh:A.handled=none) (hi:SI s.heap it (.int slot 0) i a es.size ep) (hs:SAt s.heap a es ep t)
 (hN:∀ (A:Around) (E:Value->Shared->Prop) (Q:Option (Value × Nat)->Shared->Prop),Q none s->wpAny (model prog w) A (setNext a slot i ep) Q E s)
 (hQ:∀ h',Heap.ExtBut it s.heap h'->Q none { s with heap:=h' }):wpAny (model prog w) A (pyNext (.ref it)) Q E s:=by
 obtain⟨o,ho,hc,hd⟩:=id hi
 obtain⟨os,hos,hds,hf⟩:=hs
 unfold pyNext
 refine wpAny_bind (wpAny_attempt (wpAny_callSpecial?_slot (name:=Str.ofString "__next__") hi.typeIs slot_si_next
  (wpAny_call_entry slot_si_next hi.typeIs z5b ?_ (z6c _))))
 show wpAny _ _ (fieldsOf (.ref it) >>= _) _ _ s
 refine wpAny_bind (wpAny_fieldsOf ho hd ?_)
 show wpAny _ _ (setEntries a >>= _) _ _ s
 refine wpAny_bind (wpAny_setEntries_of hos hds hf ?_)
 rw[if_neg (by simp)]
 show wpAny _ _ (setNext a (slot:Int).toNat (i:Int).toNat (ep:Int).toNat >>= _) _ _ s
 rw[Int.toNat_natCast,Int.toNat_natCast,Int.toNat_natCast]
 refine wpAny_bind (hN _ _ _ ?_)
 dsimp only
 refine wpAny_bind (wpAny_setField ho hd (by simp) ?_)
 show wpAny _ _ (newExc (.type "StopIteration") [] >>= _) _ _ _
 refine wpAny_bind ?_
 simp only[newExc,newTuple]
 refine wpAny_bind (wpAny_newObj_type ?_ (by size_fits))
 refine wpAny_bind (m:=firstArgMember _ _) (wpAny_of_eq (a:=Value.none) (by first | rfl | (simp only[firstArgMember];rfl)) ?_)
 refine wpAny_newObj_type ?_ (by size_fits)
 simp only[raiseNew]
 refine wpAny_bind (wpAny_handled ?_)
 rw[show A.in1.handled=none from hh]
 refine wpAny_bind (wpAny_pure (wpAny_throw ?_))
 refine wpAny_bind (wpAny_isInstance (T:="StopIteration") (b:=true) ⟨_,Heap.get?_push_size _ rfl,rfl⟩ isSubtype_stop ?_)
 exact wpAny_pure (hQ _ (((Heap.SameBut.update ..).extBut.push _).push _))
theorem x9r {it a tp:Addr} {es:Array (Int × Value)} {ep i pl:Nat} {ps:List Nat} {t:SetTable} {hv:Int} {v:Value} {Q:Option Value->Shared->Prop} (hi:SI s.heap it (.ref tp) i a es.size ep) (hs:SAt s.heap a es ep t)
 {otp:Obj} {ntp:Nat} (htp:s.heap.get? tp=some otp) (hdt:otp.data=.seq (ps.map fun (j:Nat)=>rawInt j).toArray ntp) (hp:ps[i]?=some pl) (hv:es[pl]?=some (hv,v))
 (hQ:∀ h',SI h' it (.ref tp) (i+1) a es.size ep->Heap.SameBut it s.heap h'->Q (some v) { s with heap:=h' }):wpAny (model prog w) A (pyNext (.ref it)) Q E s:=by
 obtain⟨o,ho,hc,hd⟩:=id hi
 obtain⟨os,hos,hds,hf⟩:=hs
 unfold pyNext
 refine wpAny_bind (wpAny_attempt (wpAny_callSpecial?_slot (name:=Str.ofString "__next__") hi.typeIs slot_si_next
  (wpAny_call_entry slot_si_next hi.typeIs z5b ?_ (z6c _))))
 show wpAny _ _ (fieldsOf (.ref it) >>= _) _ _ s
 refine wpAny_bind (wpAny_fieldsOf ho hd ?_)
 show wpAny _ _ (setEntries a >>= _) _ _ s
 refine wpAny_bind (wpAny_setEntries_of hos hds hf ?_)
 rw[if_neg (by simp)]
 show wpAny _ _ (seqItems? (.ref tp) >>= _) _ _ s
 refine wpAny_bind (wpAny_seqItems htp hdt ?_)
 have hg:((ps.map fun (j:Nat)=>rawInt j).toArray)[(i:Int).toNat]?=some (rawInt pl):=by
  rw[Int.toNat_natCast,List.getElem?_toArray,List.getElem?_map,hp];rfl
 show wpAny _ _ (match ((ps.map fun (j:Nat)=>rawInt j).toArray)[(i:Int).toNat]? with | some (.int place _)=>_ | some _=>_ | none=>_) _ _ s
 rw[hg]
 show wpAny _ _ (setNextDrawn a (pl:Int).toNat (ep:Int).toNat >>= _) _ _ s
 rw[Int.toNat_natCast,Int.toNat_natCast]
 refine wpAny_bind ?_
 unfold setNextDrawn
 refine wpAny_bind (wpAny_setState_of hos hds hf ?_)
 dsimp only
 rw[if_neg (by simp),hv]
 refine wpAny_pure ?_
 refine wpAny_bind (wpAny_setField ho hd (by simp) (wpAny_pure ⟨v,rfl,wpAny_pure (hQ _ ?_ (Heap.SameBut.update ..))⟩))
 exact⟨_,Heap.get?_update_self _ ho (Obj.isFreed_of_fields (Obj.data_mapFields hd _)),(Obj.cls_mapFields ..).trans hc,by rw[Obj.data_mapFields hd];simp[rawInt]⟩
end
end L2
namespace L2
open PySem PySem.Spec PyProof.Rows
section
variable {prog:Program} {w:World} {A:Around} {E:Value->Shared->Prop} {s:Shared}
theorem w1j {it a tp:Addr} {es:Array (Int × Value)} {ep i:Nat} {ps:List Nat} {t:SetTable} {Q:Option Value->Shared->Prop} (hh:A.handled=none) (hi:SI s.heap it (.ref tp) i a es.size ep) (hs:SAt s.heap a es ep t)
 {otp:Obj} {ntp:Nat} (htp:s.heap.get? tp=some otp) (hdt:otp.data=.seq (ps.map fun (j:Nat)=>rawInt j).toArray ntp) (hp:ps[i]?=none)
 (hQ:∀ h',Heap.ExtBut it s.heap h'->Q none { s with heap:=h' }):wpAny (model prog w) A (pyNext (.ref it)) Q E s:=by
 obtain⟨o,ho,hc,hd⟩:=id hi
 obtain⟨os,hos,hds,hf⟩:=hs
 unfold pyNext
 refine wpAny_bind (wpAny_attempt (wpAny_callSpecial?_slot (name:=Str.ofString "__next__") hi.typeIs slot_si_next
  (wpAny_call_entry slot_si_next hi.typeIs z5b ?_ (z6c _))))
 show wpAny _ _ (fieldsOf (.ref it) >>= _) _ _ s
 refine wpAny_bind (wpAny_fieldsOf ho hd ?_)
 show wpAny _ _ (setEntries a >>= _) _ _ s
 refine wpAny_bind (wpAny_setEntries_of hos hds hf ?_)
 rw[if_neg (by simp)]
 show wpAny _ _ (seqItems? (.ref tp) >>= _) _ _ s
 refine wpAny_bind (wpAny_seqItems htp hdt ?_)
 have hg:((ps.map fun (j:Nat)=>rawInt j).toArray)[(i:Int).toNat]?=none:=by
  rw[Int.toNat_natCast,List.getElem?_toArray,List.getElem?_map,hp];rfl
 show wpAny _ _ (match ((ps.map fun (j:Nat)=>rawInt j).toArray)[(i:Int).toNat]? with | some (.int place _)=>_ | some _=>_ | none=>_) _ _ s
 rw[hg]
 dsimp only
 refine wpAny_bind (wpAny_setField ho hd (by simp) ?_)
 have ho1:(s.heap.update it (Obj.mapFields (·.setIfInBounds 0 (rawInt 0)))).get? it=some (Obj.mapFields (·.setIfInBounds 0 (rawInt 0)) o):=Heap.get?_update_self _ ho (Obj.isFreed_of_fields (Obj.data_mapFields hd _))
 have hd1:=Obj.data_mapFields hd (·.setIfInBounds 0 (rawInt 0))
 refine wpAny_bind (wpAny_setField ho1 hd1 (by simp) ?_)
 show wpAny _ _ (newExc (.type "StopIteration") [] >>= _) _ _ _
 refine wpAny_bind ?_
 simp only[newExc,newTuple]
 refine wpAny_bind (wpAny_newObj_type ?_ (by size_fits))
 refine wpAny_bind (m:=firstArgMember _ _) (wpAny_of_eq (a:=Value.none) (by first | rfl | (simp only[firstArgMember];rfl)) ?_)
 refine wpAny_newObj_type ?_ (by size_fits)
 simp only[raiseNew]
 refine wpAny_bind (wpAny_handled ?_)
 rw[show A.in1.handled=none from hh]
 refine wpAny_bind (wpAny_pure (wpAny_throw ?_))
 refine wpAny_bind (wpAny_isInstance (T:="StopIteration") (b:=true) ⟨_,Heap.get?_push_size _ rfl,rfl⟩ isSubtype_stop ?_)
 exact wpAny_pure (hQ _ ((((Heap.SameBut.update ..).trans (Heap.SameBut.update ..)).extBut.push _).push _))
theorem x4p {a:Addr} {es:Array (Int × Value)} {ep slot i:Nat} {t:SetTable} {Q:Option (Value × Nat)->Shared->Prop} (hb:w.params.followText "set-order" = true) (hs:SAt s.heap a es ep t)
 (h:Q (((pickOrder (w.params.setOrder a ep) es)[i]?).map fun e=>(e.2,slot)) s):wpAny (model prog w) A (setNext a slot i ep) Q E s:=by
 obtain⟨os,hos,hds,hf⟩:=hs
 unfold setNext
 refine wpAny_bind (wpAny_setState_of hos hds hf ?_)
 dsimp only
 unfold setsByText
 refine wpAny_bind (wpAny_bind (wpAny_askSetting (wpAny_pure ?_)))
 show wpAny _ _ (if w.params.followText "set-order" = true then _ else _) _ _ _
 rw[if_pos hb,if_neg (by simp)]
 refine wpAny_bind ?_
 unfold setWalk
 refine wpAny_bind (wpAny_setState_of hos hds hf ?_)
 dsimp only
 unfold setsByText
 refine wpAny_bind (wpAny_bind (wpAny_askSetting (wpAny_pure ?_)))
 show wpAny _ _ (if w.params.followText "set-order" = true then _ else _) _ _ _
 rw[if_pos hb]
 refine wpAny_bind (wpAny_askSetting (wpAny_pure ?_))
 exact wpAny_pure h
theorem x0e {a:Addr} {es:Array (Int × Value)} {ep slot i:Nat} {t:SetTable} {Q:Option (Value × Nat)->Shared->Prop} (hb:w.params.followText "set-order" = false) (hs:SAt s.heap a es ep t) (hpl:(!t.plain && decide (es.size > 1))=false) (hled:t.led=true)
 (h:Q (match es[SetTable.below t.place slot]?,t.place[SetTable.below t.place slot]? with | some (_,x),some j=>some (x,j+1) | _,_=>none) s):wpAny (model prog w) A (setNext a slot i ep) Q E s:=by
 obtain⟨os,hos,hds,hf⟩:=hs
 unfold setNext
 refine wpAny_bind (wpAny_setState_of hos hds hf ?_)
 dsimp only
 unfold setsByText
 refine wpAny_bind (wpAny_bind (wpAny_askSetting (wpAny_pure ?_)))
 show wpAny _ _ (if w.params.followText "set-order" = true then _ else _) _ _ _
 rw[if_neg (by rw[hb];exact Bool.false_ne_true)]
 show wpAny _ _ (if (!t.plain && decide (es.size > 1))=true then _ else _) _ _ _
 rw[if_neg (by rw[hpl];exact Bool.false_ne_true)]
 show wpAny _ _ ((if (!t.led && !es.isEmpty)=true then _ else _) >>= _) _ _ _
 rw[if_neg (by rw[hled];simp)]
 exact wpAny_bind (wpAny_pure (wpAny_pure h))
end
end L2
namespace L2
open PySem
theorem z6r {α:Type}:∀ {l:List α} {i:Nat} {x:α},l[i]?=some x->(x::l.eraseIdx i).Perm l
 | [],i,x,h=>by simp at h
 | a::l,0,x,h=>by
  have:a=x:=by simpa using h
  subst this
  exact List.Perm.refl _
 | a::l,i+1,x,h=>by
  have h':l[i]?=some x:=by simpa using h
  rw[List.eraseIdx_cons_succ]
  exact (List.Perm.swap a x _).trans ((z6r h').cons a)
theorem x3y {α:Type} (next:Nat->Nat):∀ (fuel k:Nat) (left:List α) (out:Array α),left.length=fuel->(pickOrder.go next fuel k left out).toList.Perm (out.toList++left)
 | 0,k,left,out,h=>by
  rw[pickOrder.go]
  have:left=[]:=List.eq_nil_of_length_eq_zero h
  rw[this,List.append_nil]
 | fuel+1,k,left,out,h=>by
  rw[pickOrder.go]
  have hlt:next k % left.length < left.length:=Nat.mod_lt _ (by omega)
  have hg:left[next k % left.length]?=some left[next k % left.length]:=by simp[hlt]
  rw[hg]
  dsimp only
  refine (x3y next fuel (k+1) _ _ (by rw[List.length_eraseIdx_of_lt hlt];omega)).trans ?_
  rw[Array.toList_push,List.append_assoc]
  exact List.Perm.append_left _ (z6r hg)
theorem z8o {α:Type} (next:Nat->Nat) (xs:Array α):(pickOrder next xs).toList.Perm xs.toList:=by
 have:=x3y next xs.size 0 xs.toList #[] (by simp)
 simpa[pickOrder] using this
theorem y5d {M:Model} {A:Around} {E:Value->Shared->Prop} {s:Shared} {src:Source} {n:Nat} {Q:Nat->Shared->Prop} (hn:n≠0) (h:∀ i d,i < n->Q i { s with drawn:=d }):wpAny M A (choose src n) Q E s :=
 fun _ _ _=>⟨hn,h _ _ (Nat.mod_lt _ (Nat.pos_of_ne_zero hn))⟩
theorem z9t {α:Type} {M:Model} {A:Around} {E:Value->Shared->Prop}:∀ (n:Nat) (xs:List α) (s:Shared) (Q:List α->Shared->Prop),xs.length=n->(∀ ys d,ys.Perm xs->Q ys { s with drawn:=d })->wpAny M A (drawOrder n xs) Q E s
 | 0,xs,s,Q,h,q=>by
  have:xs=[]:=List.eq_nil_of_length_eq_zero h
  subst this
  rw[drawOrder]
  exact wpAny_pure (q [] s.drawn (List.Perm.refl _))
 | n+1,[],s,Q,h,q=>by simp at h
 | n+1,x::xs,s,Q,h,q=>by
  rw[drawOrder.eq_3 _ _ (by simp)]
  refine wpAny_bind (y5d (by simp) fun i d hi=>?_)
  have hg:(x::xs)[i]?=some (x::xs)[i]:=by simp[hi]
  rw[hg]
  refine wpAny_bind (z9t n _ _ _ (by rw[List.length_eraseIdx_of_lt hi];omega) fun ys d' hp=>?_)
  exact wpAny_pure (q _ d' ((hp.cons _).trans (z6r hg)))
end L2
namespace L2
open PySem PySem.Spec PyProof.Rows
theorem z7j:entryFor table "set.__iter__" = some Builtin.«frozenset.__iter__»:=entryFor_alias (id':="frozenset.__iter__") (by kernel_rfl) rfl (by decide +kernel) (by kernel_rfl)
abbrev siObj (first:Value) (a:Addr) (n ep:Nat):Obj:={ cls:=.type "set_iterator",data:=.fields #[first,.int 0 0,.ref a,.int n 0,.int ep 0] }
section
variable {prog:Program} {w:World} {A:Around} {E:Value->Shared->Prop} {s:Shared}
theorem y3e {a:Addr} {es:Array (Int × Value)} {ep:Nat} {t:SetTable} {Q:Value->Shared->Prop} (hT:s.TypeIs (.ref a) "set") (hs:SAt s.heap a es ep t) (hd:(!(w.params.followText "set-order") && (!t.plain && decide (es.size > 1)))=false)
 (hQ:Q (.ref s.heap.objs.size) { s with heap:=s.heap.push (siObj (.int 0 0) a es.size ep) }):wpAny (model prog w) A (pyIter (.ref a)) Q E s:=by
 obtain⟨os,hos,hds,hf⟩:=hs
 refine wpAny_pyIter_slot hT PySem.F.slot_set_iter (wpAny_call_entry PySem.F.slot_set_iter hT z7j ?_ (PySem.F.args_set_iter_1 _))
 unfold Builtin.«frozenset.__iter__»
 refine wpAny_bind (wpAny_pure ?_)
 refine wpAny_bind ?_
 unfold Builtin.Frozenset.sizeOf
 refine wpAny_bind (wpAny_setEntries_of hos hds hf (wpAny_pure ?_))
 refine wpAny_bind ?_
 unfold setDrawn
 refine wpAny_bind (wpAny_setState_of hos hds hf ?_)
 dsimp only
 unfold setsByText
 refine wpAny_bind (wpAny_bind (wpAny_askSetting (wpAny_pure ?_)))
 refine wpAny_pure ?_
 show wpAny _ _ (if (!(w.params.followText "set-order") && (!t.plain && decide (es.size > 1)))=true then _ else _) _ _ _
 rw[if_neg (by rw[hd];exact Bool.false_ne_true)]
 refine wpAny_bind (wpAny_pure ?_)
 unfold setEpoch
 refine wpAny_bind (wpAny_bind (wpAny_setState_of hos hds hf (wpAny_pure ?_)))
 refine wpAny_bind ?_
 unfold newFields
 refine wpAny_newObj_type (wpAny_pure ⟨_,rfl,"set_iterator",_,⟨_,Heap.get?_push_size _ rfl,rfl⟩,slot_si_next.lookup,?_⟩)
 exact hQ
theorem x2k {a:Addr} {es:Array (Int × Value)} {ep:Nat} {t:SetTable} {Q:Value->Shared->Prop} (hT:s.TypeIs (.ref a) "set") (hs:SAt s.heap a es ep t) (hb:es.size < scanBound) (hd:(!(w.params.followText "set-order") && (!t.plain && decide (es.size > 1)))=true)
 (hQ:∀ (ps:List Nat) d,ps.Perm (List.range es.size)->Q (.ref (s.heap.objs.size+1)) { s with heap:=(s.heap.push { cls:=.type "tuple",data:=.seq (ps.map fun (j:Nat)=>rawInt j).toArray }).push (siObj (.ref s.heap.objs.size) a es.size ep),drawn:=d }):wpAny (model prog w) A (pyIter (.ref a)) Q E s:=by
 obtain⟨os,hos,hds,hf⟩:=hs
 refine wpAny_pyIter_slot hT PySem.F.slot_set_iter (wpAny_call_entry PySem.F.slot_set_iter hT z7j ?_ (PySem.F.args_set_iter_1 _))
 unfold Builtin.«frozenset.__iter__»
 refine wpAny_bind (wpAny_pure ?_)
 refine wpAny_bind ?_
 unfold Builtin.Frozenset.sizeOf
 refine wpAny_bind (wpAny_setEntries_of hos hds hf (wpAny_pure ?_))
 refine wpAny_bind ?_
 unfold setDrawn
 refine wpAny_bind (wpAny_setState_of hos hds hf ?_)
 dsimp only
 unfold setsByText
 refine wpAny_bind (wpAny_bind (wpAny_askSetting (wpAny_pure ?_)))
 refine wpAny_pure ?_
 show wpAny _ _ (if (!(w.params.followText "set-order") && (!t.plain && decide (es.size > 1)))=true then _ else _) _ _ _
 rw[if_pos hd]
 refine wpAny_bind (z9t es.size _ _ _ (by simp) fun ps d hp=>?_)
 have hl:ps.length=es.size:=by rw[hp.length_eq];simp
 refine wpAny_bind (wpAny_newTuple ?_ (by have:=sizeLine_eq;unfold scanBound at hb;simp;omega))
 unfold setEpoch
 refine wpAny_bind (wpAny_bind (wpAny_setState_of (s:={ s with heap:=s.heap.push _,drawn:=d }) (Heap.get?_push_of_some _ hos) hds hf (wpAny_pure ?_)))
 refine wpAny_bind ?_
 unfold newFields
 refine wpAny_newObj_type (wpAny_pure ⟨_,rfl,"set_iterator",_,⟨_,Heap.get?_push_size _ rfl,rfl⟩,slot_si_next.lookup,?_⟩)
 have:=hQ ps d hp
 show Q (.ref (s.heap.push _).objs.size) _
 rw[Heap.size_push]
 exact this
end
end L2
namespace L2
open PySem PySem.Spec PyProof.Rows
theorem z9v:Slot "set_iterator" "__iter__" "set_iterator.__iter__" :=
 .of (owner:="set_iterator") (n:="__iter__") (by rw[typeLookup_type,builtinLookup_eq_fast];kernel_rfl) (by decide +kernel) (by decide +kernel) (by decide +kernel)
  (by first | exact .inl (by decide +kernel) | exact .inr (by decide +kernel)) (by rw[isSubtype_type];kernel_rfl)
theorem y4t:entryFor table "set_iterator.__iter__" = some Builtin.«dict_keyiterator.__iter__»:=entryFor_alias (id':="dict_keyiterator.__iter__") (by kernel_rfl) rfl (by decide +kernel) (by kernel_rfl)
theorem y7m (a:Value):argsOk "set_iterator.__iter__" ⟨[a],[]⟩:=by unfold argsOk;kernel_rfl
section
variable {prog:Program} {w:World} {A:Around} {E:Value->Shared->Prop} {s:Shared}
theorem x3j {it a:Addr} {first:Value} {i n ep:Nat} {Q:Value->Shared->Prop} (hi:SI s.heap it first i a n ep) (h:Q (.ref it) s):wpAny (model prog w) A (pyIter (.ref it)) Q E s:=by
 refine wpAny_pyIter_slot hi.typeIs z9v (wpAny_call_entry z9v hi.typeIs y4t ?_ (y7m _))
 show wpAny _ _ (ret (.ref it)) _ _ s
 exact wpAny_pure ⟨_,rfl,"set_iterator",_,hi.typeIs,slot_si_next.lookup,h⟩
theorem SI.at {h h':Heap} {it a:Addr} {first:Value} {i n ep:Nat} (x:SI h it first i a n ep) (k:∀ o,h.get? it=some o->h'.get? it=some o):SI h' it first i a n ep:=let ⟨o,h1,r⟩:=x;⟨o,k _ h1,r⟩
theorem SAt.at {h h':Heap} {a:Addr} {es:Array (Int × Value)} {ep:Nat} {t:SetTable} (x:SAt h a es ep t) (k:∀ o,h.get? a=some o->h'.get? a=some o):SAt h' a es ep t:=let ⟨o,h1,r⟩:=x;⟨o,k _ h1,r⟩
theorem x7y {r:Addr} {Q:Bool->Shared->Prop} (hT:s.TypeIs (.ref r) "set") (h:Q false s):wpAny (model prog w) A (Builtin.List.listLengthHint (.ref r)) Q E s:=by
 unfold Builtin.List.listLengthHint
 refine wpAny_bind (wpAny_specialOf hT PySem.F.slot_set_len.lookup ?_)
 generalize hid:("set.__len__" : String)=id0
 wp_delta
 rw[show splitId id0=some ("set","__len__") from by subst hid;decide +kernel]
 subst hid
 refine wpAny_bind (wpAny_isInstance (T:="set") (b:=true) hT (by rw[isSubtype_type];kernel_rfl) ?_)
 refine wpAny_ite_split (fun hab=>absurd hab (by decide)) (fun _=>?_)
 refine wpAny_ite_split (fun _=>?_) (fun hab=>absurd (by decide +kernel) hab)
 refine wpAny_bind (wpAny_typeOf hT ?_)
 exact wpAny_pure h
theorem y0x (hh:A.handled=none) (I a:Addr) (hne:a≠I) (es:Array (Int × Value)) (ep:Nat) (t:SetTable) (ord:List Value) (hl:ord.length=es.size) (sl:Nat->Nat)
 (hN:∀ (i:Nat) (v:Value) (s:Shared),ord[i]?=some v->SAt s.heap a es ep t->∀ (A:Around) (E:Value->Shared->Prop) (Q:Option (Value × Nat)->Shared->Prop),Q (some (v,sl (i+1))) s->wpAny (model prog w) A (setNext a (sl i) i ep) Q E s)
 (hE:∀ (s:Shared),SAt s.heap a es ep t->∀ (A:Around) (E:Value->Shared->Prop) (Q:Option (Value × Nat)->Shared->Prop),Q none s->wpAny (model prog w) A (setNext a (sl es.size) es.size ep) Q E s) :
 Walks prog w A I [I,a] [I] es.size (fun i v=>ord[i]?=some v) (fun i h=>SI h I (.int (sl i) 0) i a es.size ep/\SAt h a es ep t) where
 sub:=fun b hb=>by simp at hb;simp[hb]
 frame:=fun _ _ _ st hk=>⟨st.1.at fun o e=>hk I (by simp) o e,st.2.at fun o e=>hk a (by simp) o e⟩
 item:=fun i s Q E hi st hQ=>by
  have hg:ord[i]?=some (ord[i]'(by omega)):=by simp[hl,hi]
  refine x9p hne st.1 st.2 (hN i _ s hg st.2) fun h' hit' hs'=>?_
  exact hQ _ h' s.toks hg ⟨hit',st.2.at fun o e=>hs'.extBut a o hne e⟩ fun b o hb e=>hs'.extBut b o (fun h=>hb (by simp[h])) e
 done:=fun s Q E st hQ=>w1i hh st.1 st.2 (hE s st.2) fun h' he'=>hQ h' s.toks fun b o hb e=>he' b o (fun h=>hb (by simp[h])) e
 self:=fun _ _ _ _ st hQ=>x3j st.1 hQ
theorem y7o (hh:A.handled=none) (I a tp:Addr) (hne:a≠I) (hnt:tp≠I) (es:Array (Int × Value)) (ep:Nat) (t:SetTable) (ps:List Nat) (hp:ps.Perm (List.range es.size)) (otp:Obj) (ntp:Nat) (hdt:otp.data=.seq (ps.map fun (j:Nat)=>rawInt j).toArray ntp) :
 Walks prog w A I [I,a,tp] [I] es.size (fun i v=>(ps.map fun j=>((es[j]?).map (·.2)).getD .none)[i]?=some v) (fun i h=>SI h I (.ref tp) i a es.size ep/\SAt h a es ep t/\h.get? tp=some otp) where
 sub:=fun b hb=>by simp at hb;simp[hb]
 frame:=fun _ _ _ st hk=>⟨st.1.at fun o e=>hk I (by simp) o e,st.2.1.at fun o e=>hk a (by simp) o e,hk tp (by simp) _ st.2.2⟩
 item:=fun i s Q E hi st hQ=>by
  have hl:ps.length=es.size:=by rw[hp.length_eq];simp
  have hg:ps[i]?=some (ps[i]'(by omega)):=by simp[hl,hi]
  have hlt:ps[i]'(by omega) < es.size:=by
   have:=hp.mem_iff.mp (List.getElem_mem (l:=ps) (n:=i) (by omega))
   simpa using this
  have he:es[ps[i]'(by omega)]?=some ((es[ps[i]'(by omega)]'hlt).1,(es[ps[i]'(by omega)]'hlt).2):=by simp[hlt]
  refine x9r st.1 st.2.1 st.2.2 hdt hg he fun h' hit' hs'=>?_
  refine hQ _ h' s.toks (by rw[List.getElem?_map,hg];simp[hlt]) ⟨hit',st.2.1.at fun o e=>hs'.extBut a o hne e,hs'.extBut tp _ hnt st.2.2⟩ fun b o hb e=>hs'.extBut b o (fun h=>hb (by simp[h])) e
 done:=fun s Q E st hQ=>by
  have hl:ps.length=es.size:=by rw[hp.length_eq];simp
  exact w1j hh st.1 st.2.1 st.2.2 hdt (by simp[hl]) fun h' he'=>hQ h' s.toks fun b o hb e=>he' b o (fun h=>hb (by simp[h])) e
 self:=fun _ _ _ _ st hQ=>x3j st.1 hQ
end
end L2
namespace L2
open PySem PySem.Spec PyProof.Rows
section
variable {prog:Program} {w:World} {A:Around} {E:Value->Shared->Prop} {s:Shared}
structure Itr1 (prog:Program) (w:World) (s:Shared) (a:Addr) (es:Array (Int × Value)) (I:Addr) (h2:Heap) (fp:List Addr) (P:Nat->Value->Prop) (St:Nat->Heap->Prop):Prop where
 walks:∀ A:Around,A.handled=none->Walks prog w A I fp [I] es.size P St
 start:St 0 h2
 keeps:∀ b o,s.heap.get? b=some o->h2.get? b=some o
 fp:∀ b∈fp,b=a∨s.heap.objs.size<=b
 new:s.heap.objs.size<=I
 perm:∀ acc:Array Value,ItemsOf P acc es.size->acc.toList.Perm (es.toList.map (·.2))
theorem y4s {ord:List Value} {n:Nat} {acc:Array Value} (hl:ord.length=n) (h:ItemsOf (fun i v=>ord[i]?=some v) acc n):acc.toList=ord:=by
 refine List.ext_getElem (by simp[h.1,hl]) fun i h1 h2=>?_
 have:ord[i]?=some (acc[i]'(by simpa using h1)):=h.2 i _ (by simp at h1;simp[h1])
 rw[List.getElem?_eq_getElem h2]at this
 have:=Option.some.inj this
 simpa using this.symm
theorem it_T {a:Addr} {es:Array (Int × Value)} {ep:Nat} {t:SetTable} {Q:Value->Shared->Prop} (hT:s.TypeIs (.ref a) "set") (hs:SAt s.heap a es ep t) (hb:es.size < scanBound) (ht:TabOk (ledOf w) t) (hsz:t.place.size=es.size)
 (hQ:∀ (I:Addr) (h2:Heap) (d:Drawn) (fp:List Addr) (P:Nat->Value->Prop) (St:Nat->Heap->Prop),Itr1 prog w s a es I h2 fp P St->Q (.ref I) { s with heap:=h2,drawn:=d }):wpAny (model prog w) A (pyIter (.ref a)) Q E s:=by
 have hlt:a < s.heap.objs.size:=by obtain⟨o,h1,_⟩:=hs;exact Heap.lt_size h1
 have hne:a≠s.heap.objs.size:=Nat.ne_of_lt hlt
 by_cases hx:w.params.followText "set-order" = true
 ·refine y3e hT hs (by rw[hx];rfl) ?_
  refine hQ s.heap.objs.size _ s.drawn [s.heap.objs.size,a] _ _ ⟨fun A hh=>y0x hh s.heap.objs.size a hne es ep t ((pickOrder (w.params.setOrder a ep) es).toList.map (·.2)) (by have:=(z8o (w.params.setOrder a ep) es).length_eq;simpa using this) (fun _=>0)
   (fun i v s hv hs A E Q q=>x4p hx hs ?_) (fun s hs A E Q q=>x4p hx hs ?_),⟨⟨_,Heap.get?_push_size _ rfl,rfl,rfl⟩,hs.at fun o e=>Heap.get?_push_of_some _ e⟩,fun b o e=>Heap.get?_push_of_some _ e,fun b hb=>?_,Nat.le_refl _,fun acc hi=>?_⟩
  ·rw[List.getElem?_map,Array.getElem?_toList]at hv
   cases hg:(pickOrder (w.params.setOrder a ep) es)[i]? with
   | none=>rw[hg]at hv;cases hv
   | some e=>rw[hg]at hv;cases hv;exact q
  ·have hl:(pickOrder (w.params.setOrder a ep) es).size=es.size:=by have:=(z8o (w.params.setOrder a ep) es).length_eq;simpa using this
   rw[Array.getElem?_eq_none (by omega)]
   exact q
  ·simp at hb;rcases hb with z | z
   ·exact .inr (by rw[z];exact Nat.le_refl _)
   ·exact .inl z
  ·rw[y4s (by have:=(z8o (w.params.setOrder a ep) es).length_eq;simpa using this) hi]
   exact (z8o _ _).map _
 ·have hx':w.params.followText "set-order" = false:=by simpa using hx
  have hled:t.led=true:=by rw[ht.1];show (!(w.params.followText "set-order"))=true;rw[hx'];rfl
  by_cases hd:(!t.plain && decide (es.size > 1))=true
  ·refine x2k hT hs hb (by rw[hx',hd];rfl) fun ps d hp=>?_
   have hl:ps.length=es.size:=by rw[hp.length_eq];simp
   refine hQ (s.heap.objs.size+1) _ d [s.heap.objs.size+1,a,s.heap.objs.size] _ _ ⟨fun A hh=>y7o hh (s.heap.objs.size+1) a s.heap.objs.size (Nat.ne_of_lt (Nat.lt_succ_of_lt hlt)) (Nat.ne_of_lt (Nat.lt_succ_self _)) es ep t ps hp _ _ rfl,⟨⟨_,Heap.get?_push_at (by rw[Heap.size_push]) rfl,rfl,rfl⟩,hs.at fun o e=>Heap.get?_push_of_some _ (Heap.get?_push_of_some _ e),Heap.get?_push_of_some _ (Heap.get?_push_size _ rfl)⟩,fun b o e=>Heap.get?_push_of_some _ (Heap.get?_push_of_some _ e),fun b hb=>?_,Nat.le_succ _,fun acc hi=>?_⟩
   ·simp at hb;rcases hb with z | z | z
    ·exact .inr (by rw[z];exact Nat.le_succ _)
    ·exact .inl z
    ·exact .inr (by rw[z];exact Nat.le_refl _)
   ·rw[y4s (by simp[hl]) hi]
    refine (hp.map _).trans (List.Perm.of_eq ?_)
    refine List.ext_getElem (by simp) fun i h1 h2=>?_
    have:i < es.size:=by simpa using h1
    simp[this]
  ·have hd':(!t.plain && decide (es.size > 1))=false:=by simpa using hd
   refine y3e hT hs (by rw[hx',hd'];rfl) ?_
   refine hQ s.heap.objs.size _ s.drawn [s.heap.objs.size,a] _ _ ⟨fun A hh=>y0x hh s.heap.objs.size a hne es ep t (es.toList.map (·.2)) (by simp) (fun i=>if h:0 < i/\i - 1 < t.place.size then t.place[i - 1]'h.2+1 else 0)
    (fun i v s hv hs A E Q q=>x0e hx' hs hd' hled ?_) (fun s hs A E Q q=>x0e hx' hs hd' hled ?_),⟨⟨_,Heap.get?_push_size _ rfl,rfl,by simp⟩,hs.at fun o e=>Heap.get?_push_of_some _ e⟩,fun b o e=>Heap.get?_push_of_some _ e,fun b hb=>?_,Nat.le_refl _,fun acc hi=>?_⟩
   ·have hil:i < es.size:=by
     have:=(List.getElem?_eq_some_iff.mp hv).1
     simpa using this
    have hbl:SetTable.below t.place (if h:0 < i/\i - 1 < t.place.size then t.place[i - 1]'h.2+1 else 0)=i:=by
     by_cases z:i=0
     ·subst z;simp;exact y3n ht.2
     ·rw[dif_pos ⟨by omega,by omega⟩,y3o ht.2 (by omega)];omega
    rw[hbl]
    have e1:es[i]?=some (es[i]'hil):=by simp[hil]
    have e2:t.place[i]?=some (t.place[i]'(by omega)):=by simp[hsz,hil]
    rw[e1,e2]
    have e3:(es[i]'hil).2=v:=by
     rw[List.getElem?_map,Array.getElem?_toList,e1]at hv
     exact Option.some.inj hv
    have e4:(if h:0 < i+1/\i+1 - 1 < t.place.size then t.place[i+1 - 1]'h.2+1 else 0)=t.place[i]'(by omega)+1:=by
     rw[dif_pos ⟨by omega,by omega⟩];simp
    rw[e4]at q
    rw[←e3]at q
    exact q
   ·have hbl:SetTable.below t.place (if h:0 < es.size/\es.size - 1 < t.place.size then t.place[es.size - 1]'h.2+1 else 0)=es.size:=by
     by_cases z:es.size=0
     ·rw[dif_neg (by omega),y3n ht.2,z]
     ·rw[dif_pos ⟨by omega,by omega⟩,y3o ht.2 (by omega)];omega
    rw[hbl,Array.getElem?_eq_none (Nat.le_refl _)]
    exact q
   ·simp at hb;rcases hb with z | z
    ·exact .inr (by rw[z];exact Nat.le_refl _)
    ·exact .inl z
   ·rw[y4s (by simp) hi]
end
end L2
namespace L2
open PySem PySem.Spec PyProof.Rows
section
variable {prog:Program} {w:World} {A:Around} {E:Value->Shared->Prop} {s:Shared}
theorem x6l {a:Addr} {es:Array (Int × Value)} {ep:Nat} {t:SetTable} {Q:List Value->Shared->Prop} (hh:A.handled=none) (hT:s.TypeIs (.ref a) "set") (hs:SAt s.heap a es ep t) (hb:es.size < scanBound) (ht:TabOk (ledOf w) t) (hsz:t.place.size=es.size)
 (h:∀ (vs:List Value) (h':Heap) (tk:Nat) (d:Drawn),vs.Perm (es.toList.map (·.2))->(∀ b o,s.heap.get? b=some o->h'.get? b=some o)->s.heap.objs.size < h'.objs.size->Q vs { s with heap:=h',toks:=tk,drawn:=d }):wpAny (model prog w) A (collect (.ref a)) Q E s:=by
 have hlt:a < s.heap.objs.size:=by obtain⟨o,h1,_⟩:=hs;exact Heap.lt_size h1
 have hn:es.size<=sizeLine:=by unfold scanBound at hb;have:=sizeLine_eq;omega
 unfold collect
 refine wpAny_bind (wpAny_runValue (codeAny_builtin entry_proto_collect' ?_))
 show wpAny _ _ (do again (.builtin "list.__iadd__" ⟨[←newList [],.ref a],[]⟩)) _ _ s
 refine wpAny_bind (wpAny_newList (wpAny_pure ⟨Code.quiet_builtin _ (by decide +kernel),codeAny_builtin entry_list_iadd' ?_⟩))
 show wpAny _ _ (Builtin.List.listExtendWith (.ref s.heap.objs.size) (.ref a) (.ref s.heap.objs.size)) _ _ { s with heap:=s.heap.push (seqObj "list" #[] 0) }
 unfold Builtin.List.listExtendWith
 have hT1:Shared.TypeIs { s with heap:=s.heap.push (seqObj "list" #[] 0) } (.ref a) "set":=by obtain⟨o,h1,h2⟩:=hT;exact⟨o,Heap.get?_push_of_some _ h1,h2⟩
 have hs1:SAt (s.heap.push (seqObj "list" #[] 0)) a es ep t:=hs.at fun o e=>Heap.get?_push_of_some _ e
 refine wpAny_bind (wpAny_typeOf (T:="set") hT1 ?_)
 have h1:Builtin.List.listSameRef (.ref s.heap.objs.size) (.ref a)=false:=by
  have:s.heap.objs.size≠a:=Nat.ne_of_gt hlt
  simp[Builtin.List.listSameRef,this]
 have h2:(Value.type "set" == Value.type "list")=false:=by decide
 have h3:(Value.type "set" == Value.type "tuple")=false:=by decide
 simp only[h1,h2,h3,Bool.or_false,Bool.false_eq_true,if_false]
 refine wpAny_bind (it_T hT1 hs1 hb ht hsz fun I hp d fp P St X=>?_)
 have hS:(s.heap.push (seqObj "list" #[] 0)).get? s.heap.objs.size=some (seqObj "list" #[] 0):=Heap.get?_push_size _ rfl
 have hszp:(s.heap.push (seqObj "list" #[] 0)).objs.size=s.heap.objs.size+1:=Heap.size_push ..
 have hSf:s.heap.objs.size ∉ fp:=fun z=>by
  rcases X.fp _ z with e | e
  ·exact absurd e (Nat.ne_of_gt hlt)
  ·have e':s.heap.objs.size+1<=s.heap.objs.size:=by rw[←hszp];exact e
   exact absurd e' (Nat.not_succ_le_self _)
 have hSI:s.heap.objs.size ∉ [I]:=fun z=>hSf ((X.walks A.in1 hh).sub _ z)
 have hS1:=X.keeps _ _ hS
 have W:=(X.walks A.in1 hh).toS
 have hT2:Shared.TypeIs { s with heap:=hp,drawn:=d } (.ref a) "set":=by obtain⟨o,e1,e2⟩:=hT1;exact⟨o,X.keeps _ _ e1,e2⟩
 refine wpAny_bind (wpAny_holding (x7y hT2 ?_))
 have key:∀ (h0:Heap) (c₁ tk:Nat),St 0 h0->(∀ b o,b≠s.heap.objs.size->hp.get? b=some o->h0.get? b=some o)->h0.get? s.heap.objs.size=some { cls:=.type "list",data:=.seq #[] c₁ } ->
  ∀ R:Result->Shared->Prop,(∀ (acc:Array Value) (h':Heap) (tk':Nat) (c:Nat),acc.toList.Perm (es.toList.map (·.2))->(∀ b o,s.heap.get? b=some o->h'.get? b=some o)->h'.get? s.heap.objs.size=some { cls:=.type "list",dict:=none,data:=.seq acc c,slots:=#[] }->R (.ok (.ret (.ref s.heap.objs.size))) { s with heap:=h',toks:=tk',drawn:=d }) ->
  codeAny (model prog w) A (.builtin "list.extend.loop" ⟨[.ref s.heap.objs.size,.ref I,.ref s.heap.objs.size],[]⟩) R { s with heap:=h0,toks:=tk,drawn:=d }:=by
  intro h0 c₁ tk hst hk hS0 R hR
  refine codeAny_extend_loopS W hn s.heap.objs.size hSf (.ref s.heap.objs.size) es.size 0 _ #[] c₁ rfl (Nat.zero_le _) hst hS0 (ItemsOf.nil _) fun s' acc' c' hm hS' hacc=>?_
  rw[Moved.eq_with hm]
  refine hR acc' s'.heap s'.toks c' (X.perm acc' hacc) (fun b o e=>?_) hS'
  have hbS:b≠s.heap.objs.size:=Nat.ne_of_lt (Heap.lt_size e)
  refine hm.heap b o (fun z=>?_) (hk b o hbS (X.keeps b o (Heap.get?_push_of_some _ e)))
  rcases List.mem_cons.mp z with z | z
  ·exact hbS z
  ·have zI:b=I:=List.mem_singleton.mp z
   have:=X.new
   rw[hszp]at this
   have hbl:=Heap.lt_size e
   rw[zI]at hbl
   exact absurd (Nat.lt_of_lt_of_le hbl (Nat.le_trans (Nat.le_succ _) this)) (Nat.lt_irrefl _)
 have fin:∀ (acc:Array Value) (h':Heap) (tk':Nat) (c:Nat),acc.toList.Perm (es.toList.map (·.2))->(∀ b o,s.heap.get? b=some o->h'.get? b=some o)->h'.get? s.heap.objs.size=some { cls:=.type "list",dict:=none,data:=.seq acc c,slots:=#[] } ->
  wpAny (model prog w) A (do
   let o ←load s.heap.objs.size
   match o.data with
   | .seq xs _=>pure xs.toList
   | _=>unsupported "internal:collect") Q E { s with heap:=h',toks:=tk',drawn:=d }:=fun acc h' tk' c hp' hk hg=>by
  refine wpAny_bind (wpAny_load hg ?_)
  exact wpAny_pure (h acc.toList h' tk' d hp' hk (Heap.lt_size hg))
 refine wpAny_ite_split (fun _=>?_) (fun _=>wpAny_pure ⟨plainId_quiet PySem.F.plain_extend_loop _,key _ _ _ X.start (fun b o _ e=>e) hS1 _ fin⟩)
 refine wpAny_bind (wpAny_rule ?_)
 refine wpAny_bind ?_
 show wpAny _ _ (updateSeq s.heap.objs.size (·.push .none) >>= fun _=>updateSeq s.heap.objs.size (·.pop)) _ _ _
 refine wpAny_bind (wpAny_updateSeq hS1 rfl ?_)
 have hS₂:=Heap.get?_update_self (Obj.mapSeq (·.push Value.none)) hS1 rfl
 refine wpAny_updateSeq (hz:=by seq_fits) hS₂ rfl ?_
 have hS₃:=Heap.get?_update_self (Obj.mapSeq (·.pop)) hS₂ rfl
 refine wpAny_pure ⟨plainId_quiet PySem.F.plain_extend_loop _,key _ _ _ ?_ (fun b o hb e=>?_) hS₃ _ fin⟩
 ·refine (X.walks A.in1 hh).frame 0 _ _ X.start fun b hb o e=>?_
  have hbS:b≠s.heap.objs.size:=fun z=>hSf (z ▸ hb)
  exact (Heap.get?_update_other _ _ (Ne.symm hbS)).trans ((Heap.get?_update_other _ _ (Ne.symm hbS)).trans e)
 ·exact (Heap.get?_update_other _ _ (Ne.symm hb)).trans ((Heap.get?_update_other _ _ (Ne.symm hb)).trans e)
end
end L2
namespace L2
open PySem PySem.Spec PyProof.Rows
theorem z9o:∀ (D l:List Int),D.Nodup->(∀ x∈D,x∈l)->D.length<=l.length
 | [],_,_,_=>Nat.zero_le _
 | x::D,l,nd,h=>by
  obtain⟨h1,h2⟩:=List.nodup_cons.mp nd
  have hx:=h x List.mem_cons_self
  have:=z9o D (l.erase x) h2 fun y hy=>(List.mem_erase_of_ne (fun (e:y=x)=>h1 (e ▸ hy))).mpr (h y (List.mem_cons_of_mem _ hy))
  rw[List.length_erase_of_mem hx]at this
  have:=List.length_pos_of_mem hx
  simp only[List.length_cons];omega
theorem y0b:∀ (D l:List Int),D.Nodup->(∀ x∈D,x∈l)->l.length=D.length->l.Nodup
 | [],l,_,_,hl=>by
  have:l=[]:=List.eq_nil_of_length_eq_zero hl
  rw[this];exact List.nodup_nil
 | x::D,l,nd,h,hl=>by
  obtain⟨h1,h2⟩:=List.nodup_cons.mp nd
  have hx:=h x List.mem_cons_self
  have hsub:∀ y∈D,y∈l.erase x:=fun y hy=>(List.mem_erase_of_ne (fun (e:y=x)=>h1 (e ▸ hy))).mpr (h y (List.mem_cons_of_mem _ hy))
  have hle:(l.erase x).length=D.length:=by rw[List.length_erase_of_mem hx,hl];rfl
  have ih:=y0b D (l.erase x) h2 hsub hle
  have hn:¬ x∈l.erase x:=fun z=>by
   have:=z9o (x::D) (l.erase x) nd fun y hy=>by
    rcases List.mem_cons.mp hy with e | e
    ·rw[e];exact z
    ·exact hsub y e
   rw[hle]at this
   simp only[List.length_cons]at this
   omega
  exact (List.perm_cons_erase hx).nodup_iff.mpr (List.nodup_cons.mpr ⟨hn,ih⟩)
theorem y3b:∀ (ns acc:List Int),acc.Nodup->(ns.foldl addI acc).Nodup
 | [],_,h=>h
 | n::ns,acc,h=>by rw[List.foldl_cons];exact y3b ns _ (x2b h)
theorem y6q:∀ (ns acc:List Int) (x:Int),x∈ns.foldl addI acc↔x∈acc∨x∈ns
 | [],acc,x=>by simp
 | n::ns,acc,x=>by
  rw[List.foldl_cons,y6q ns (addI acc n) x,x0k,List.mem_cons]
  constructor
  ·rintro ((h | h) | h)
   ·exact .inl h
   ·exact .inr (.inl h)
   ·exact .inr (.inr h)
  ·rintro (h | h | h)
   ·exact .inl (.inl h)
   ·exact .inl (.inr h)
   ·exact .inr h
theorem mem_uniq {ns:List Int} {x:Int}:x∈uniq ns↔x∈ns:=by unfold uniq;rw[y6q];simp
def y2l (ns zs:List Int):Prop:=zs.Pairwise (· < ·)/\∀ x,x∈zs↔x∈ns
theorem x3p {ns ks zs:List Int} (hm:∀ x,x∈ks↔x∈ns) (hl:ks.length=(uniq ns).length) (hp:zs.Perm ks) (hs:zs.Pairwise (·<=·)):y2l ns zs:=by
 have hnd:ks.Nodup:=y0b (uniq ns) ks (y3b ns [] List.nodup_nil) (fun x hx=>(hm x).mpr (mem_uniq.mp hx)) hl
 have hz:zs.Nodup:=hp.nodup_iff.mpr hnd
 refine⟨?_,fun x=>(hp.mem_iff).trans (hm x)⟩
 have:=hs.and hz
 exact this.imp fun ⟨h1,h2⟩=>by
  have h2':_≠_:=h2
  omega
theorem y1x:∀ (vs:List Value),(∀ v∈vs,∃ k t,v=Value.int k t)->∃ ks,IntsAre vs ks/\∀ x,x∈ks↔∃ t,Value.int x t∈vs
 | [],_=>⟨[],.nil,fun x=>by simp⟩
 | v::vs,h=>by
  obtain⟨k,t,rfl⟩:=h v List.mem_cons_self
  obtain⟨ks,hI,hm⟩:=y1x vs fun u hu=>h u (List.mem_cons_of_mem _ hu)
  refine⟨k::ks,.cons k t hI,fun x=>?_⟩
  rw[List.mem_cons,hm x]
  constructor
  ·rintro (e | ⟨t',e⟩)
   ·exact⟨t,by rw[e];exact List.mem_cons_self⟩
   ·exact⟨t',List.mem_cons_of_mem _ e⟩
  ·rintro⟨t',e⟩
   rcases List.mem_cons.mp e with z | z
   ·cases z;exact .inl rfl
   ·exact .inr ⟨t',z⟩
section
variable {prog:Program} {w:World} {A:Around} {E:Value->Shared->Prop} {s:Shared}
theorem x7a {a:Addr} {ns:List Int} {Q:Value->Shared->Prop} (hh:A.handled=none) (hS:SetT prog w (ledOf w) s.heap a (fun k'=>decide (k'∈uniq ns)) (uniq ns).length) (h64:(uniq ns).length < 64)
 (h:∀ (l:Addr) (h':Heap) (tk:Nat) (d:Drawn) (out:List Value) (zs:List Int) (n:Nat),s.heap.objs.size<=l->h'.get? l=some { cls:=.type "list",data:=.seq out.toArray n }->IntsAre out zs->y2l ns zs->(∀ b o,s.heap.get? b=some o->h'.get? b=some o)->Q (.ref l) { s with heap:=h',toks:=tk,drawn:=d }) :
 wpAny (model prog w) A (call (.builtin "sorted") [.ref a]) Q E s:=by
 obtain⟨o,es,ep,t,ho,hex,hd,hel,hmem,hb,hf,hn,ht⟩:=hS
 have hsz:t.place.size=es.size:=by
  have:(t.place.size == es.size && decide (t.fill<=t.mask))=true:=hf
  simp at this;exact this.1
 refine Calls.call_function_entry kind_sorted plain_sorted entry_sorted (args_sorted1 _) ?_
 unfold Builtin.«sorted»
 refine wpAny_bind (m:=checkCount "sorted" 1 1 _) (wpAny_pure ?_)
 refine wpAny_bind (x6l hh ⟨o,ho,hex.1⟩ ⟨o,ho,hd,hf⟩ hb ht hsz fun vs h1 tk d hp hk hgr=>?_)
 have hvl:vs.length=(uniq ns).length:=by rw[hp.length_eq];simp[hn]
 obtain⟨ks,hI,hmk⟩:∃ ks,IntsAre vs ks/\∀ x,x∈ks↔x∈ns:=by
  obtain⟨ks,hI,hm⟩:=y1x vs fun v hv=>by
   obtain⟨e,he,e2⟩:=List.mem_map.mp (hp.mem_iff.mp hv)
   obtain⟨k,hk'⟩:=hel.keys e he
   obtain⟨t',e3⟩:=Value.isInt_shape (show Value.isInt k e.2=true from hk')
   exact⟨k,t',by rw[←e2,e3]⟩
  refine⟨ks,hI,fun x=>(hm x).trans ?_⟩
  have hx:x∈ns↔∃ e∈es.toList,(intKind prog w).is x e.2=true:=by
   rw[←hmem x,decide_eq_true_eq,mem_uniq]
  rw[hx]
  constructor
  ·rintro⟨t',hv⟩
   obtain⟨e,he,e2⟩:=List.mem_map.mp (hp.mem_iff.mp hv)
   exact⟨e,he,by rw[show e.2=Value.int x t' from e2];exact intKind_is _ _ _ _⟩
  ·rintro⟨e,he,hk'⟩
   obtain⟨t',e3⟩:=Value.isInt_shape (show Value.isInt x e.2=true from hk')
   exact⟨t',hp.mem_iff.mpr (List.mem_map.mpr ⟨e,he,e3⟩)⟩
 have hkl:ks.length=(uniq ns).length:=by
  have:∀ {vs:List Value} {ns:List Int},IntsAre vs ns->vs.length=ns.length:=by
   intro vs ns x
   induction x with
   | nil=>rfl
   | cons n t _ ih=>simp[ih]
  rw[←this hI,hvl]
 refine wpAny_bind (wpAny_newList ?_ (by have:=sizeLine_eq;omega))
 have hoL:(h1.push (seqObj "list" vs.toArray 0)).get? h1.objs.size=some (seqObj "list" vs.toArray 0):=Heap.get?_push_size _ rfl
 refine wpAny_bind (wpAny_holding (wpAny_call_entry slot_list_sort ⟨_,hoL,rfl⟩ entry_list_sort (list_sort_tree hoL hI (by omega) fun out ns' a1 a2 a3=>⟨_,rfl,?_⟩) (args_list_sort _)))
 obtain⟨n',hat⟩:=sortedHeap_at (out:=out) hoL
 have hle:s.heap.objs.size<=h1.objs.size:=Nat.le_of_lt hgr
 refine wpAny_pure ⟨_,rfl,h h1.objs.size _ tk d out.toList ns' n' hle (by simpa using hat) a1 (x3p hmk hkl a2 a3) fun b o' e=>?_⟩
 have e1:=Heap.get?_push_of_some (seqObj "list" vs.toArray 0) (hk b o' e)
 have hb1:b < h1.objs.size:=Heap.lt_size (hk b o' e)
 rw[sortedHeap_old (Nat.ne_of_lt hb1) (Heap.lt_size e1)]
 exact e1
end
end L2
namespace L2
open PySem PySem.Spec PyProof.Rows
abbrev z4x (L:Bool):Obj:={ cls:=.type "set",dict:=none,data:=.set #[] 0 (.fresh 0 0 L) }
section
variable {prog:Program} {w:World} {A:Around} {E:Value->Shared->Prop} {s:Shared}
theorem new_T (a:Value) {Q₁:Value->Shared->Prop} (h:Q₁ (.ref s.heap.objs.size) { s with heap:=s.heap.push (z4x (ledOf w)) }) :
 codeAny (model prog w) A (.call (.builtin "set.__new__") ⟨[.type "set",a],[]⟩) (wants Q₁ E) s:=by
 refine codeAny_of_tree ?_
 show wpAny _ A.in1 (do checkBuiltinCall "set.__new__" ⟨[.type "set",a],[]⟩;again (.builtin "set.__new__" ⟨[.type "set",a],[]⟩)) _ _ s
 refine wpAny_bind (wpAny_of_eq (F.newCall_set_1 a) (wpAny_pure ⟨plainId_quiet F.plain_set_new _,codeAny_builtin F.entry_set_new ?_⟩))
 rw[Around.under_plainId F.plain_set_new _]
 unfold Builtin.«set.__new__» Builtin.Frozenset.newClass
 have hsub:=sub_set_self
 obtain⟨hp,g,d,tk,os⟩:=s
 dsimp only
 wp_walk
 refine wpAny_askSetting (wpAny_pure ?_)
 dsimp only
 simp only[newObj]
 refine wpAny_bind (wpAny_alloc (wpAny_pure ?_))
 exact wpAny_pure h
theorem w0n (L:Bool) {h:Heap} {a:Addr} (ho:h.get? a=some (z4x L)):SetT prog w L h a (fun k'=>decide (k'∈uniq [])) (uniq []).length:=by
 refine⟨_,#[],0,_,ho,⟨rfl,rfl,rfl⟩,rfl,fun e he=>by simp at he,fun k=>by simp[uniq],by decide,by rfl,rfl,x2y L 0 0⟩
set_option maxHeartbeats 3200000 in
theorem w2k {l:Addr} {items:Array Value} {ns:List Int} {Q:Value->Shared->Prop} (hh:A.handled=none) (hl:s.heap.IsList l items) (hi:IntsAre items.toList ns) (hb:ns.length+1 < scanBound)
 (h:∀ (h':Heap) (tk:Nat),SetT prog w (ledOf w) h' s.heap.objs.size (fun k'=>decide (k'∈uniq ns)) (uniq ns).length->(∀ b o,b < s.heap.objs.size->s.heap.get? b=some o->h'.get? b=some o)->Q (.ref s.heap.objs.size) { s with heap:=h',toks:=tk }) :
 wpAny (model prog w) A (call (.type "set") [.ref l]) Q E s:=by
 have hlen:items.size=ns.length:=by
  have:∀ {vs:List Value} {ns:List Int},IntsAre vs ns->vs.length=ns.length:=by
   intro vs ns x
   induction x with
   | nil=>rfl
   | cons n t _ ih=>simp[ih]
  have:=this hi;simpa using this
 obtain⟨c,tl,hmro⟩:=F.called_set.mro
 have hmade:=F.called_set.made
 have hsub:=F.called_set.sub
 refine wpAny_call (codeAny_of_tree ?_)
 show wpAny _ _ (callAny (.type "set") _) _ _ _
 refine wpAny_pure ⟨Code.quiet_builtin _ (by decide +kernel),codeAny_builtin F.entry_type_call ?_⟩
 rw[Around.under_plain (weight_type_call_type "set" [.ref l] []) rfl]
 have h1:=F.called_set.notType
 have h2:=F.called_set.canCreate
 have hct:=F.typeCall_set_1 (.ref l)
 repeat (any_goals (first | assumption | wp_step))
 refine codeAny_mono (new_T (.ref l) (E:=E) (Q₁:=fun obj s₁=>obj=.ref s.heap.objs.size/\s₁={ s with heap:=s.heap.push (z4x (ledOf w)) }) ⟨rfl,rfl⟩) fun r s₁ hr=>?_
 cases r with
 | error e=>exact hr
 | ok fl =>
  cases fl with
  | ret obj =>
   obtain⟨rfl,rfl⟩:=hr
   have hS:(s.heap.push (z4x (ledOf w))).get? s.heap.objs.size=some (z4x (ledOf w)):=Heap.get?_push_size _ rfl
   have hT:Shared.TypeIs { s with heap:=s.heap.push (z4x (ledOf w)) } (.ref s.heap.objs.size) "set":=⟨_,hS,rfl⟩
   have hli:=F.called_set.init.lookup
   have hbi:=F.called_set.init.bind (.ref s.heap.objs.size)
   repeat (any_goals (first | assumption | wp_step))
   refine codeAny_mono (codeAny_call_builtin (R:=wants (fun r s₂=>r=.none/\∃ h' tk,s₂={ s with heap:=h',toks:=tk }/\SetT prog w (ledOf w) h' s.heap.objs.size (fun k'=>decide (k'∈uniq ns)) (uniq ns).length /\
    (∀ b o,b < s.heap.objs.size->s.heap.get? b=some o->h'.get? b=some o)) E) F.called_set.init.plain F.entry_set_init (check_set_init_1 hT ?_)) fun r₂ s₂ hr₂=>?_
   ·obtain⟨ol,hol,hcl,nl,hdl⟩:=hl
    obtain⟨ocls,odict,odata,oslots⟩:=ol
    simp only at hcl hdl
    subst hcl;subst hdl
    have hol':(s.heap.push (z4x (ledOf w))).get? l=some { cls:=.type "list",dict:=odict,data:=.seq items nl,slots:=oslots }:=Heap.get?_push_of_some _ hol
    have hsls:=F.sub_list_set
    have hslf:=F.sub_list_frozenset
    have hne:(Value.type "list" == Value.type "dict")=false:=by decide
    have hl1:(s.heap.push (z4x (ledOf w))).IsList l items:=⟨_,hol',rfl,nl,rfl⟩
    unfold Builtin.«set.__init__» noKeywords Builtin.Frozenset.updateFrom
    generalize hPI:pyIter=PI
    wp_walk
    subst hPI
    refine wpAny_pyIter_list hl1 ?_
    refine wpAny_bind (wpAny_runValue ?_)
    have hlS:l < s.heap.objs.size:=Heap.lt_size hol
    have hh3:A.in1.in1.in1.handled=none:=by simp[hh]
    have hneI:l≠(s.heap.push (z4x (ledOf w))).objs.size:=by
     rw[Heap.size_push];exact Nat.ne_of_lt (Nat.lt_succ_of_lt hlS)
    have hSf:s.heap.objs.size ∉ [(s.heap.push (z4x (ledOf w))).objs.size,l]:=by
     rw[Heap.size_push];simp only[List.mem_cons,List.not_mem_nil,or_false,not_or]
     exact⟨Nat.ne_of_lt (Nat.lt_succ_self _),Nat.ne_of_gt hlS⟩
    have hval:∀ (i:Nat) (v:Value),items[i]?=some v->∃ t,v=.int (ns.getD i 0) t:=fun i v hv =>
     IntsAre.int_at hi i v (by rw[Array.getElem?_toList];exact hv)
    have W:=(Walks.list (prog:=prog) (w:=w) hh3 (s.heap.push (z4x (ledOf w))).objs.size l hneI items).toS
    rw[hlen]at W
    refine w1z (L:=ledOf w) W s.heap.objs.size hSf hval hb (ns.length - 0) 0 _ (by omega) (Nat.zero_le _) ⟨⟨_,Heap.get?_push_size _ rfl,rfl,rfl⟩,(hl1.push _)⟩ ?hS0 ?hR
    case hS0 =>
     exact w0n (ledOf w) (Heap.get?_push_of_some _ hS)
    case hR =>
     intro s' hm hS'
     obtain⟨h',g',d',tk',os'⟩:=s'
     have eg:g'=s.gens:=hm.gens
     have ed:d'=s.drawn:=hm.drawn
     have eo:os'=s.os:=hm.os
     subst eg;subst ed;subst eo
     show wpAny _ _ _ _ _ _
     refine wpAny_pure ?_
     show wpAny _ _ (ret Value.none) _ _ _
     refine wpAny_pure ⟨rfl,h',tk',rfl,hS',fun b o hb e=>?_⟩
     have hb1:b≠s.heap.objs.size:=Nat.ne_of_lt hb
     have hb2:b≠(s.heap.push (z4x (ledOf w))).objs.size:=by
      rw[Heap.size_push];exact Nat.ne_of_lt (Nat.lt_succ_of_lt hb)
     exact hm.heap b o (by simp only[List.mem_cons,List.not_mem_nil,or_false,not_or];exact⟨hb1,hb2⟩) (Heap.get?_push_of_some _ (Heap.get?_push_of_some _ e))
   ·cases r₂ with
    | error e=>exact hr₂
    | ok fl₂ =>
     cases fl₂ with
     | ret r =>
      obtain⟨rfl,h',tk,rfl,hS',hk'⟩:=hr₂
      repeat (any_goals (first | assumption | wp_step))
      exact h _ _ hS' hk'
     | _=>exact hr₂.elim
  | _=>exact hr.elim
end
end L2
namespace L2
open PySem PySem.Spec PyProof.Rows
section
variable {X:Cx}
def x1h (te:TE):TE:=fun σ H Q=>te σ H fun x H1=>∃ (p:Addr) (ns:List Int),x=.ref p/\H1 p=some (.lst (ns.map V.int))/\ns.length < 64/\∀ (l:Addr) (zs:List Int),H1 l=none->y2l ns zs->Q (.ref l) (upd H1 l (.lst (zs.map V.int)))
theorem y5z {e:Expr} {te:TE} {p1 p2 p3 pos:Pos} (hc:X.calm=true) (hms:X.mg "sorted" = none) (hmt:X.mg "set" = none) (he:PE X e te) (hgs:Gl X "sorted":=by rfl) (hgt:Gl X "set":=by rfl)
 (h1:starEach [.Call (.Name "set" p2) [e] [] p3] X.env=[(false,eval (.Call (.Name "set" p2) [e] [] p3) X.env)]:=by rfl) (h2:starEach [e] X.env=[(false,eval e X.env)]:=by rfl) :
 PE X (.Call (.Name "sorted" p1) [.Call (.Name "set" p2) [e] [] p3] [] pos) (x1h te):=by
 intro pins s σ H Q I h
 refine wpAny_Call_Name_kw (z7g I hgs hms boot_sorted ?_)
 refine PyProof.Rows.callWith_builtin1 ?_ h1 rfl
 rw[h1]
 refine Calls.spliced_cons ?_
 show wpAny _ _ (eval (.Call (.Name "set" p2) [e] [] p3) X.env) _ _ _
 refine wpAny_Call_Name_kw (z7g I hgt hmt (show bootBuiltins "set" = some (.type "set") by decide +kernel) ?_)
 refine PyProof.Rows.callWith_type1 ?_ h2 rfl
 rw[h2]
 refine Calls.spliced_cons ?_
 show wpAny _ _ (eval e X.env) _ _ _
 refine (thn (he pins s σ H _ I h) fun v s1 ⟨x,H1,I1,r,p,ns,ex,hp,hl,q⟩=>Calls.spliced_nil ?_)
 subst ex
 cases (show v=Value.ref p from r)
 obtain⟨_,its,n,hr,hg⟩:=(show ObjOk X.prog X.w H1 s1.heap p (.lst (ns.map V.int)) from I1.hok p _ hp)
 have hI:IntsAre its ns:=x2m hr
 refine w2k (I1.ok.hd hc) (items:=its.toArray) ⟨_,hg,rfl,n,rfl⟩ (by simpa using hI) (by unfold scanBound;omega) fun h' tk hS hk=>?_
 refine Calls.spliced_nil ?_
 have hul:(uniq ns).length < 64:=by
  have:=y4r ns []
  have h3:(uniq ns).length<=ns.length:=by simpa[uniq] using this
  omega
 have hk0:∀ b o,s1.heap.get? b=some o->h'.get? b=some o:=fun b o e=>hk b o (Heap.lt_size e) e
 refine x7a (s:={ s1 with heap:=h',toks:=tk }) (I1.ok.hd hc) hS hul fun l h2 tk2 d out zs n2 hle hat hI2 hR hk2=>?_
 have hsz:s1.heap.objs.size<=h'.objs.size:=by
  obtain⟨o,_,_,_,ho,_⟩:=hS
  exact Nat.le_of_lt (Heap.lt_size ho)
 have hll:s1.heap.objs.size<=l:=Nat.le_trans hsz hle
 have J:Inv X pins σ (upd H1 l (.lst (zs.map V.int))) { s1 with heap:=h2,toks:=tk2 }:=I1.laid (fun b u e=>hk2 b u (hk0 b u e)) hll ⟨by
  have e1:∀ {vs:List Value} {ns:List Int},IntsAre vs ns->vs.length=ns.length:=by
   intro vs ns x
   induction x with
   | nil=>rfl
   | cons n t _ ih=>simp[ih]
  have hz:zs.length<=ns.length:=z9o zs ns (hR.1.imp fun h=>by
   intro z;omega) fun x hx=>(hR.2 x).mp hx
  have:=sizeLine_eq
  simp;omega,out,n2,y0y hI2,hat⟩
 have J2:=J.call (g':=s1.gens) (t':=tk2) (d':=d) (ch:=[]) (Un.kept fun _ _ e=>e) J.hok J.bare (fun b z=>nomatch z)
 exact⟨.ref l,_,J2,rfl,q l zs (I1.hok.fresh hll) hR⟩
end
end L2
namespace L2
theorem mApp {α:Type} {a:α} {s t:List α} (h:a∈s++t):a∈s∨a∈t:=List.mem_append.mp h
end L2
namespace My
open PySem L2 PySem.Spec PyProof.Rows
abbrev z5t:Stmt:=top 4
abbrev z6v:List Str:=["one","two","lamp"]
abbrev x7r:List Str:=["one","two","lamp","rest_of_one","rest_of_two"]
theorem sc_merged:FnScope x7r z6v (z0f z5t):=⟨rfl,rfl,rfl,by decide +kernel,rfl,by decide +kernel,by decide +kernel⟩
abbrev z2x:Stmt:=top 5
abbrev z3s:List Str:=["wish","taken"]
abbrev y8q:List Str:=["wish","taken","letter"]
theorem sc_left_open:FnScope y8q z3s (z0f z2x):=⟨rfl,rfl,rfl,by decide +kernel,rfl,by decide +kernel,by decide +kernel⟩
abbrev z3b:Stmt:=top 6
abbrev z3g:List Str:=["letters"]
abbrev y8u:List Str:=["letters"]
theorem y5r:FnScope y8u z3g (z0f z3b):=⟨rfl,rfl,rfl,by decide +kernel,rfl,by decide +kernel,by decide +kernel⟩
abbrev z5u:Stmt:=top 7
abbrev z6a:List Str:=["letters"]
abbrev x7s:List Str:=["letters","marks","letter"]
theorem sc_marked:FnScope x7s z6a (z0f z5u):=⟨rfl,rfl,rfl,by decide +kernel,rfl,by decide +kernel,by decide +kernel⟩
abbrev z3a:Stmt:=top 11
abbrev z3u:List Str:=["count","taken"]
abbrev y8t:List Str:=["count","taken","lamp"]
theorem sc_free_lamp:FnScope y8t z3u (z0f z3a):=⟨rfl,rfl,rfl,by decide +kernel,rfl,by decide +kernel,by decide +kernel⟩
abbrev z2z:Stmt:=top 13
abbrev z3t:List Str:=["wishes","trail","number"]
abbrev y8s:List Str:=["wishes","trail","number","shorter","steps","in_hand","letters","pair"]
theorem sc_gone_back:FnScope y8s z3t (z0f z2z):=⟨rfl,rfl,rfl,by decide +kernel,rfl,by decide +kernel,by decide +kernel⟩
abbrev z2g:Stmt:=top 14
abbrev z4j:List Str:=["wishes","steps","in_hand","pair"]
abbrev y1r:List Str:=["wishes","steps","in_hand","pair","hand","letter","why"]
theorem sc_step_back:FnScope y1r z4j (z0f z2g):=⟨rfl,rfl,rfl,by decide +kernel,rfl,by decide +kernel,by decide +kernel⟩
abbrev z5r:Stmt:=top 15
abbrev z6t:List Str:=["count","wishes"]
abbrev x7p:List Str:=["count","wishes","tally","steps"]
theorem sc_solved:FnScope x7p z6t (z0f z5r):=⟨rfl,rfl,rfl,by decide +kernel,rfl,by decide +kernel,by decide +kernel⟩
abbrev z5s:Stmt:=top 16
abbrev z6u:List Str:=["count","tally","eager"]
abbrev x7q:List Str:=["count","tally","eager","steps","number","letter"]
theorem sc_search:FnScope x7q z6u (z0f z5s):=⟨rfl,rfl,rfl,by decide +kernel,rfl,by decide +kernel,by decide +kernel⟩
abbrev z4u:Stmt:=top 17
abbrev z5j:List Str:=["tally","number"]
abbrev x4w:List Str:=["tally","number","behind","trail","step"]
theorem sc_go_back:FnScope x4w z5j (z0f z4u):=⟨rfl,rfl,rfl,by decide +kernel,rfl,by decide +kernel,by decide +kernel⟩
abbrev z2o:Stmt:=top 18
abbrev z3e:List Str:=["count","tally","eager"]
abbrev y6m:List Str:=["count","tally","eager","letter"]
theorem sc_next_guess:FnScope y6m z3e (z0f z2o):=⟨rfl,rfl,rfl,by decide +kernel,rfl,by decide +kernel,by decide +kernel⟩
abbrev z2n:Stmt:=top 19
abbrev z3d:List Str:=["count","tally"]
abbrev y6l:List Str:=["count","tally"]
theorem y4d:FnScope y6l z3d (z0f z2n):=⟨rfl,rfl,rfl,by decide +kernel,rfl,by decide +kernel,by decide +kernel⟩
abbrev z4q:Stmt:=top 21
abbrev z6j:List Str:=["statement","setting"]
abbrev x4s:List Str:=["statement","setting","values","part"]
theorem sc_true_in:FnScope x4s z6j (z0f z4q):=⟨rfl,rfl,rfl,by decide +kernel,rfl,by decide +kernel,by decide +kernel⟩
abbrev z3x:Stmt:=top 22
abbrev z4i:List Str:=["part","values","setting"]
abbrev x2e:List Str:=["part","values","setting","last","first"]
theorem sc_value_of:FnScope x2e z4i (z0f z3x):=⟨rfl,rfl,rfl,by decide +kernel,rfl,by decide +kernel,by decide +kernel⟩
abbrev z3y:Stmt:=top 23
abbrev z4k:List Str:=["count","statement"]
abbrev x2f:List Str:=["count","statement","lamps","wishes","letters","part","two","one"]
theorem sc_sheet_of:FnScope x2f z4k (z0f z3y):=⟨rfl,rfl,rfl,by decide +kernel,rfl,by decide +kernel,by decide +kernel⟩
abbrev z2w:Stmt:=top 24
abbrev z3r:List Str:=["word","own","one","two"]
abbrev y8p:List Str:=["word","own","one","two"]
theorem y5q:FnScope y8p z3r (z0f z2w):=⟨rfl,rfl,rfl,by decide +kernel,rfl,by decide +kernel,by decide +kernel⟩
abbrev z4p:Stmt:=top 25
abbrev z6i:List Str:=["count","statement"]
abbrev x4r:List Str:=["count","statement","sheet","answer"]
theorem sc_weighed:FnScope x4r z6i (z0f z4p):=⟨rfl,rfl,rfl,by decide +kernel,rfl,by decide +kernel,by decide +kernel⟩
abbrev z2b:Stmt:=top 26
abbrev z2d:List Str:=["statement"]
abbrev y4p:List Str:=["statement","outer_first","waiting","part"]
theorem sc_inner_first:FnScope y4p z2d (z0f z2b):=⟨rfl,rfl,rfl,by decide +kernel,rfl,by decide +kernel,by decide +kernel⟩
abbrev z5w:Stmt:=top 28
abbrev z6x:List Str:=["_law_number","_law_prime","_law_many"]
abbrev x7u:List Str:=["_law_number","_law_prime","_law_many"]
theorem x3n:FnScope x7u z6x (z0f z5w):=⟨rfl,rfl,rfl,by decide +kernel,rfl,by decide +kernel,by decide +kernel⟩
abbrev z4r:Stmt:=top 29
abbrev z4v:List Str:=["_law_found"]
abbrev x4t:List Str:=["_law_found"]
theorem x1l:FnScope x4t z4v (z0f z4r):=⟨rfl,rfl,rfl,by decide +kernel,rfl,by decide +kernel,by decide +kernel⟩
abbrev z9w:Stmt:=top 30
abbrev y2z:List Str:=["_law_script","_law_k"]
abbrev w1v:List Str:=["_law_script","_law_k"]
theorem x9s:FnScope w1v y2z (z0f z9w):=⟨rfl,rfl,rfl,by decide +kernel,rfl,by decide +kernel,by decide +kernel⟩
abbrev z4t:Stmt:=top 31
abbrev z5i:List Str:=["_law_found","_law_due"]
abbrev x4v:List Str:=["_law_found","_law_due","_law_left","_law_right","_law_one","_law_two"]
theorem sc_l_alike:FnScope x4v z5i (z0f z4t):=⟨rfl,rfl,rfl,by decide +kernel,rfl,by decide +kernel,by decide +kernel⟩
abbrev z1v:Stmt:=top 32
abbrev z2t:List Str:=["_law_cell","_law_count"]
abbrev y2p:List Str:=["_law_cell","_law_count","_law_setting","_law_k"]
theorem sc_l_setting_of:FnScope y2p z2t (z0f z1v):=⟨rfl,rfl,rfl,by decide +kernel,rfl,by decide +kernel,by decide +kernel⟩
abbrev z4n:Stmt:=top 33
abbrev z6w:List Str:=["_law_sort","_law_one","_law_two"]
abbrev x0i:List Str:=["_law_sort","_law_one","_law_two","_law_truth"]
theorem sc_l_pair:FnScope x0i z6w (z0f z4n):=⟨rfl,rfl,rfl,by decide +kernel,rfl,by decide +kernel,by decide +kernel⟩
abbrev z2s:Stmt:=top 34
abbrev z5e:List Str:=["_law_cells","_law_setting"]
abbrev y3c:List Str:=["_law_cells","_law_setting","_law_rows","_law_truths","_law_cell","_law_way","_law_two","_law_one","_law_lamp"]
theorem sc_l_stated:FnScope y3c z5e (z0f z2s):=⟨rfl,rfl,rfl,by decide +kernel,rfl,by decide +kernel,by decide +kernel⟩
abbrev z4s:Stmt:=top 35
abbrev z5h:List Str:=["_law_one","_law_two","_law_lamp"]
abbrev x4u:List Str:=["_law_one","_law_two","_law_lamp","_law_rows","_law_most","_law_letter"]
theorem sc_l_merge:FnScope x4u z5h (z0f z4s):=⟨rfl,rfl,rfl,by decide +kernel,rfl,by decide +kernel,by decide +kernel⟩
abbrev z1w:Stmt:=top 36
abbrev z2h:List Str:=["_law_known","_law_step"]
abbrev y2q:List Str:=["_law_known","_law_step","_law_one","_law_two","_law_lamp","_law_wish"]
theorem sc_l_right_step:FnScope y2q z2h (z0f z1w):=⟨rfl,rfl,rfl,by decide +kernel,rfl,by decide +kernel,by decide +kernel⟩
abbrev z2y:Stmt:=top 37
abbrev z4l:List Str:=["_law_wishes","_law_steps"]
abbrev y8r:List Str:=["_law_wishes","_law_steps","_law_known","_law_step"]
theorem sc_l_refuted:FnScope y8r z4l (z0f z2y):=⟨rfl,rfl,rfl,by decide +kernel,rfl,by decide +kernel,by decide +kernel⟩
abbrev z5v:Stmt:=top 38
abbrev z7n:List Str:=["_law_found","_law_count"]
abbrev x7t:List Str:=["_law_found","_law_count","_law_lit"]
theorem sc_l_full:FnScope x7t z7n (z0f z5v):=⟨rfl,rfl,rfl,by decide +kernel,rfl,by decide +kernel,by decide +kernel⟩
abbrev z3z:Stmt:=top 39
abbrev z5f:List Str:=["_law_found"]
abbrev x2g:List Str:=["_law_found"]
theorem y7z:FnScope x2g z5f (z0f z3z):=⟨rfl,rfl,rfl,by decide +kernel,rfl,by decide +kernel,by decide +kernel⟩
abbrev z2p:Stmt:=top 40
abbrev z3f:List Str:=["_law_statement","_law_setting"]
abbrev y6n:List Str:=["_law_statement","_law_setting","_law_one","_law_two"]
theorem sc_l_truth_of:FnScope y6n z3f (z0f z2p):=⟨rfl,rfl,rfl,by decide +kernel,rfl,by decide +kernel,by decide +kernel⟩
abbrev z1x:Stmt:=top 41
abbrev z2u:List Str:=["_law_count","_law_statement"]
abbrev y2r:List Str:=["_law_count","_law_statement","_law_rows","_law_k","_law_row"]
theorem sc_l_first_true:FnScope y2r z2u (z0f z1x):=⟨rfl,rfl,rfl,by decide +kernel,rfl,by decide +kernel,by decide +kernel⟩
abbrev z2a:Stmt:=top 42
abbrev z3j:List Str:=["_law_statement","_law_count"]
abbrev y4o:List Str:=["_law_statement","_law_count","_law_todo","_law_letters","_law_wishes","_law_lamp","_law_part","_law_open_now","_law_one","_law_two"]
theorem sc_l_sheet_due:FnScope y4o z3j (z0f z2a):=⟨rfl,rfl,rfl,by decide +kernel,rfl,by decide +kernel,by decide +kernel⟩
abbrev s_law:Stmt:=top 43
abbrev p_law:List Str:=["_law_script"]
abbrev n_law:List Str:=["_law_script","_law_head","_law_count","_law_setting","_law_statement","_law_truth","_law_truths","_law_lit","_law_told","_law_found","_law_wishes"]
theorem sc_law:FnScope n_law p_law (z0f s_law):=⟨rfl,rfl,rfl,by decide +kernel,rfl,by decide +kernel,by decide +kernel⟩
abbrev z2q:Stmt:=z3o (top 9) 0
abbrev z2e:List Str:=["self","wishes"]
abbrev y6o:List Str:=["self","wishes","wish"]
theorem sc_Tally_init:FnScope y6o z2e (z0f z2q):=⟨rfl,rfl,rfl,by decide +kernel,rfl,by decide +kernel,by decide +kernel⟩
abbrev z1j:Stmt:=z3o (top 9) 1
abbrev z1f:List Str:=["self","wish"]
abbrev y0i:List Str:=["self","wish","number","letters","letter"]
theorem sc_Tally_put_wish:FnScope y0i z1f (z0f z1j):=⟨rfl,rfl,rfl,by decide +kernel,rfl,by decide +kernel,by decide +kernel⟩
abbrev z3c:Stmt:=z3o (top 9) 2
abbrev z2i:List Str:=["self","letter","why"]
abbrev y8v:List Str:=["self","letter","why"]
theorem y5s:FnScope y8v z2i (z0f z3c):=⟨rfl,rfl,rfl,by decide +kernel,rfl,by decide +kernel,by decide +kernel⟩
abbrev z1i:Stmt:=z3o (top 9) 3
abbrev z1k:List Str:=["self"]
abbrev y0h:List Str:=["self","pair"]
theorem sc_Tally_take_off:FnScope y0h z1k (z0f z1i):=⟨rfl,rfl,rfl,by decide +kernel,rfl,by decide +kernel,by decide +kernel⟩
abbrev z1b:Stmt:=z3o (top 9) 4
abbrev z0y:List Str:=["self","letter","change"]
abbrev z7x:List Str:=["self","letter","change","number"]
theorem sc_Tally_count_letter:FnScope z7x z0y (z0f z1b):=⟨rfl,rfl,rfl,by decide +kernel,rfl,by decide +kernel,by decide +kernel⟩
abbrev z1p:Stmt:=z3o (top 9) 5
abbrev z1h:List Str:=["self","number"]
abbrev y1s:List Str:=["self","number"]
theorem y0g:FnScope y1s z1h (z0f z1p):=⟨rfl,rfl,rfl,by decide +kernel,rfl,by decide +kernel,by decide +kernel⟩
abbrev z1a:Stmt:=z3o (top 9) 6
abbrev z0x:List Str:=["self"]
abbrev z7w:List Str:=["self"]
theorem z7c:FnScope z7w z0x (z0f z1a):=⟨rfl,rfl,rfl,by decide +kernel,rfl,by decide +kernel,by decide +kernel⟩
abbrev z2c:Stmt:=z3o (top 9) 7
abbrev z2f:List Str:=["self"]
abbrev y4q:List Str:=["self","number"]
theorem sc_Tally_go_on:FnScope y4q z2f (z0f z2c):=⟨rfl,rfl,rfl,by decide +kernel,rfl,by decide +kernel,by decide +kernel⟩
theorem x5z {α:Type} (l:List α):l.filter (fun _=>true)=l:=List.filter_eq_self.mpr fun _ _=>rfl
def onceF (acc:List Int) (n:Int):List Int:=if n∈acc then acc else acc++[n]
def once (ns:List Int):List Int:=ns.foldl onceF []
theorem x4g (ns:List Int) (n:Int):once (ns++[n])=onceF (once ns) n:=by simp[once,List.foldl_append]
theorem x5c {acc:List Int} {n x:Int}:x∈onceF acc n↔x∈acc∨x=n:=by
 unfold onceF
 split
 ·rename_i h
  constructor
  ·exact .inl
  ·rintro (h' | rfl)
   ·exact h'
   ·exact h
 ·simp
theorem y6r:∀ (ns acc:List Int) (x:Int),x∈ns.foldl onceF acc↔x∈acc∨x∈ns
 | [],acc,x=>by simp
 | n::ns,acc,x=>by
  rw[List.foldl_cons,y6r ns,x5c,List.mem_cons]
  constructor
  ·rintro ((h | h) | h)
   ·exact .inl h
   ·exact .inr (.inl h)
   ·exact .inr (.inr h)
  ·rintro (h | h | h)
   ·exact .inl (.inl h)
   ·exact .inl (.inr h)
   ·exact .inr h
theorem mem_once {ns:List Int} {x:Int}:x∈once ns↔x∈ns:=by
 unfold once;rw[y6r];simp
theorem x4h (acc:List Int) (n:Int):(onceF acc n).length<=acc.length+1:=by
 unfold onceF;split<;>simp
theorem y6y:∀ (ns acc:List Int),(ns.foldl onceF acc).length<=acc.length+ns.length
 | [],acc=>by simp
 | n::ns,acc=>by
  rw[List.foldl_cons,List.length_cons]
  have h1:=y6y ns (onceF acc n)
  have h2:=x4h acc n
  omega
theorem z8t (ns:List Int):(once ns).length<=ns.length:=by
 have:=y6y ns []
 simpa[once] using this
def z3h (ns ts:List Int):List Int:=(once ns).filter fun n=>!decide (-n∈ts)
def z3n (ns ts:List Int):Bool:=ns.any fun n=>decide (n∈ts)
theorem y8h {acc:List Int} {n:Int} (h:acc.Nodup):(onceF acc n).Nodup:=by
 unfold onceF
 split
 ·exact h
 ·rename_i hn
  exact List.nodup_append.mpr ⟨h,by simp,fun a ha b hb=>by
   have:b=n:=by simpa using hb
   intro e
   exact hn (by rw[←this,←e];exact ha)⟩
theorem y2a:∀ (ns acc:List Int),acc.Nodup->(ns.foldl onceF acc).Nodup
 | [],_,h=>h
 | n::ns,acc,h=>by rw[List.foldl_cons];exact y2a ns _ (y8h h)
theorem z7o (ns:List Int):(once ns).Nodup:=y2a ns [] List.nodup_nil
theorem y6c (ns ts:List Int):(z3h ns ts).Nodup:=(z7o ns).sublist List.filter_sublist
theorem z7a:∀ {l:List Int} {a:Int},l.Nodup->a∈l->(l.filter fun x=>!decide (x=a)).length+1=l.length
 | [],_,_,h=>by simp at h
 | b::l,a,nd,h=>by
  obtain⟨h1,h2⟩:=List.nodup_cons.mp nd
  by_cases e:b=a
  ·subst e
   have:(l.filter fun x=>!decide (x=b))=l:=List.filter_eq_self.mpr fun x hx=>by
    have:x≠b:=fun z=>h1 (z ▸ hx)
    simp[this]
   rw[List.filter_cons,if_neg (by simp),this,List.length_cons]
  ·have hm:a∈l:=by
    rcases List.mem_cons.mp h with z | z
    ·exact absurd z.symm e
    ·exact z
   rw[List.filter_cons,if_pos (by simp[e]),List.length_cons,List.length_cons,z7a h2 hm]
def cnt (w T:List Int):Option Nat:=if z3n w T=true then none else some (z3h w T).length
theorem y1v (w T:List Int) (x:Int):z3n w (T++[x])=(z3n w T || decide (x∈w)):=by
 unfold z3n
 rw[Bool.eq_iff_iff,List.any_eq_true]
 simp only[Bool.or_eq_true,List.any_eq_true,decide_eq_true_eq,List.mem_append,List.mem_singleton]
 constructor
 ·rintro⟨n,hn,h | h⟩
  ·exact .inl ⟨n,hn,h⟩
  ·exact .inr (h ▸ hn)
 ·rintro (⟨n,hn,h⟩ | h)
  ·exact⟨n,hn,.inl h⟩
  ·exact⟨x,h,.inr rfl⟩
theorem y8g (w T:List Int) (x:Int):z3h w (T++[x])=(z3h w T).filter fun n=>!decide (n=-x):=by
 unfold z3h
 rw[List.filter_filter]
 refine List.filter_congr fun n _=>?_
 have e:decide (-n∈T++[x])=(decide (-n∈T) || decide (n=-x)):=by
  rw[Bool.eq_iff_iff]
  simp only[decide_eq_true_eq,Bool.or_eq_true,List.mem_append,List.mem_singleton]
  constructor
  ·rintro (h | h)
   ·exact .inl h
   ·exact .inr (by omega)
  ·rintro (h | h)
   ·exact .inl h
   ·exact .inr (by omega)
 rw[e,Bool.not_or,Bool.and_comm]
def z1e (W:List (List Int)) (T:List Int):Option Nat:=W.findIdx? fun w=>decide (cnt w T=some 0)
def oneAt (W:List (List Int)) (T:List Int):Option Nat:=W.findIdx? fun w=>decide (cnt w T=some 1)
def z2v (W:List (List Int)) (T:List Int):Option (Int × Nat) :=
 match z1e W T with
 | some _=>none
 | none=>match oneAt W T with
  | none=>none
  | some i=>some ((z3h (W.getD i []) T).headD 0,i)
inductive Run (W:List (List Int)):List Int->List (Int × Nat)->Prop where
 | stop {T:List Int} (h:z2v W T=none):Run W T []
 | step {T:List Int} {x:Int} {i:Nat} {r:List (Int × Nat)} (h:z2v W T=some (x,i)) (hr:Run W (T++[x]) r):Run W T ((x,i)::r)
theorem z9n {W:List (List Int)} {T:List Int} {x:Int} {i:Nat} (h:z2v W T=some (x,i)) :
 z1e W T=none/\oneAt W T=some i/\∃ w,W[i]?=some w/\z3n w T=false/\z3h w T=[x]/\x∈w/\¬ x∈T/\¬ -x∈T:=by
 unfold z2v at h
 cases hb:z1e W T with
 | some j=>rw[hb]at h;cases h
 | none =>
  rw[hb]at h
  cases ho:oneAt W T with
  | none=>rw[ho]at h;cases h
  | some j =>
   rw[ho]at h
   have h':((z3h (W.getD j []) T).headD 0,j)=(x,i):=Option.some.inj h
   have e2:j=i:=congrArg (·.2) h'
   subst e2
   have e1:(z3h (W.getD j []) T).headD 0=x:=congrArg (·.1) h'
   refine⟨rfl,rfl,?_⟩
   unfold oneAt at ho
   obtain⟨hj,hc,_⟩:=List.findIdx?_eq_some_iff_getElem.mp ho
   have hw:W[j]?=some W[j]:=by simp[hj]
   have hg:W.getD j []=W[j]:=by simp[hj]
   rw[hg]at e1
   have hc':cnt W[j] T=some 1:=of_decide_eq_true hc
   unfold cnt at hc'
   by_cases hk:z3n W[j] T=true
   ·rw[if_pos hk]at hc';cases hc'
   ·rw[if_neg hk]at hc'
    have hl:(z3h W[j] T).length=1:=Option.some.inj hc'
    have hk':z3n W[j] T=false:=by simpa using hk
    obtain⟨y,hy⟩:=List.length_eq_one_iff.mp hl
    have:y=x:=by rw[hy]at e1;exact e1
    subst this
    have hm:y∈z3h W[j] T:=by rw[hy];exact List.mem_singleton.mpr rfl
    obtain⟨m1,m2⟩:=List.mem_filter.mp hm
    have hyw:=mem_once.mp m1
    refine⟨_,hw,hk',hy,hyw,fun z=>?_,fun z=>?_⟩
    ·unfold z3n at hk'
     rw[List.any_eq_false]at hk'
     exact hk' y hyw (decide_eq_true z)
    ·rw[decide_eq_true z]at m2;cases m2
def live (W:List (List Int)) (T:List Int):Nat:=(W.filter fun w=>!z3n w T).length
theorem w0j (W:List (List Int)) (T:List Int):live W T<=W.length:=List.length_filter_le _ _
theorem y2d {α:Type} {p q:α->Bool}:∀ {l:List α} {a:α},(∀ x∈l,q x=true->p x=true)->a∈l->p a=true->q a=false->(l.filter q).length < (l.filter p).length
 | [],_,_,h,_,_=>by simp at h
 | b::l,a,hi,h,hp,hq=>by
  have hsub:(l.filter q).length<=(l.filter p).length:=by
   have:∀ l:List α,(∀ x∈l,q x=true->p x=true)->(l.filter q).length<=(l.filter p).length:=by
    intro l
    induction l with
    | nil=>intro _;simp
    | cons c r ih =>
     intro hc
     have:=ih fun x hx=>hc x (List.mem_cons_of_mem _ hx)
     rw[List.filter_cons,List.filter_cons]
     cases hqc:q c with
     | true =>
      rw[hc c List.mem_cons_self hqc]
      simp;omega
     | false =>
      cases p c<;>simp<;>omega
   exact this l fun x hx=>hi x (List.mem_cons_of_mem _ hx)
  rw[List.filter_cons,List.filter_cons]
  rcases List.mem_cons.mp h with e | e
  ·subst e
   rw[hp,hq]
   simp;omega
  ·have ih:=y2d (fun x hx=>hi x (List.mem_cons_of_mem _ hx)) e hp hq
   cases hqb:q b with
   | true=>rw[hi b List.mem_cons_self hqb];simp;omega
   | false=>cases p b<;>simp<;>omega
theorem w0i {W:List (List Int)} {T:List Int} {x:Int} {i:Nat} (h:z2v W T=some (x,i)):live W (T++[x]) < live W T:=by
 obtain⟨_,_,w,hw,hk,_,hx,_⟩:=z9n h
 refine y2d (fun v _ hv=>?_) (List.mem_of_getElem? hw) (by simp[hk]) ?_
 ·rw[y1v]at hv
  cases e:z3n v T with
  | true=>rw[e]at hv;simp at hv
  | false=>rfl
 ·rw[y1v];simp[hx]
def mk (l:List Int):List (Key × V):=l.map fun n=>(Sum.inl n,V.bl true)
theorem x9l (l:List Int) (n:Int):((mk l).any fun kv=>decide (kv.1=(Sum.inl n:Key)))=decide (n∈l):=by
 rw[Bool.eq_iff_iff,List.any_eq_true]
 constructor
 ·rintro⟨kv,hm,e⟩
  obtain⟨x,hx,rfl⟩:=List.mem_map.mp hm
  have e':(Sum.inl x:Key)=Sum.inl n:=of_decide_eq_true e
  cases e'
  exact decide_eq_true hx
 ·intro h
  exact⟨(Sum.inl n,V.bl true),List.mem_map.mpr ⟨n,of_decide_eq_true h,rfl⟩,decide_eq_true rfl⟩
theorem z7b (l:List Int) (n:Int):(valV (mk l) (Sum.inl n:Key)).isSome=decide (n∈l):=by
 rw[←y0l,x9l]
theorem y9y (l:List Int) (n:Int):putK (mk l) (Sum.inl n:Key) (V.bl true)=mk (onceF l n):=by
 unfold putK
 rw[x9l]
 unfold onceF
 by_cases h:n∈l
 ·rw[if_pos (decide_eq_true h),if_pos h]
  unfold mk
  rw[List.map_map]
  refine List.map_congr_left fun x hx=>?_
  show (if (Sum.inl x:Key)=Sum.inl n then ((Sum.inl x:Key),V.bl true) else (Sum.inl x,V.bl true))=_
  split<;>rfl
 ·rw[if_neg (by simp[h]),if_neg h]
  simp[mk]
theorem w0k (l:List Int):((mk l).map fun p=>kV p.1)=l.map V.int:=by
 unfold mk;rw[List.map_map];rfl
theorem x0j (l:List Int):(mk l).length=l.length:=by simp[mk]
def y0n (K:W.Frag):Sp:=fun vs H Q _=>∃ (a:Addr) (ns:List Int),vs=[.ref a]/\SqL K H a (ns.map V.int)/\ns.length<=100000/\∀ p H',H p=none->Same H H'->H' p=some (.dK (mk (once ns)))->Q (.ref p) H'
section
variable {P:Program} {w:World} {K:W.Frag} {mg:Str->Option Value} {base:Heap}
theorem x4k (Df:Def K mg "marked" z5u z6a):Cal P w K mg base 1 "marked" z6a (y0n K):=by
 refine Df.cal sc_marked (fun vs H Q E h=>?_) (fun f cdv A outer s H vs Q E hr h=>?_)
 ·obtain⟨a,ns,rfl,_⟩:=h;rfl
 ·obtain⟨a,ns,rfl,hS,hz,q⟩:=h
  have hu:=hu_of hr
  refine⟨_,(z0b (z0n (i:=1) sc_marked.nd rfl (Or.inl rfl) z8q)
 (z0b (z4c PassesOwn.never rfl (z1u (pv 0)) (z1l (i:=2) sc_marked.nd rfl (Or.inl rfl))
 (z0e (y4h hu (pv 1) (pv 2) pe_bl rfl)))
 (z0e (z0o (pv 1))))),?_⟩
  intro p hp
  refine⟨_,rfl,a,rfl,⟨_,((smR H).upd hp).seq hS⟩,z4o (K:=K) (a:=a) (xs:=ns.map V.int) (fun i σ H2=>∃ v,σ=[some (.ref a),some (.ref p),v]/\Same H H2/\H2 p=some (.dK (mk (once (ns.take i)))))
   ⟨none,rfl,(smR H).upd hp,z0c⟩ (fun i σ H2 _ ⟨_,_,e,_⟩=>e.seq hS) ?_ ?_⟩
  ·rintro i y σ H2 hi ⟨v,rfl,sm,h2⟩
   obtain⟨n,hni,rfl⟩:=getV hi
   refine⟨_,rfl,_,rfl,p,_,rfl,DPut.k (k:=Sum.inl n) h2 (z1r ?_),?_⟩
   ·have h1:=z8t (ns.take i)
    have h3:(ns.take i).length<=ns.length:=by simp;omega
    rw[x0j];omega
   ·refine⟨_,rfl,sm.upd hp,?_⟩
    rw[z0c,y9y,List.take_add_one,hni,Option.toList_some,x4g]
  ·rintro σ H2 ⟨v,rfl,sm,h2⟩
   refine⟨_,rfl,q p H2 hp sm ?_⟩
   rw[h2];simp
end
def y9q (K:W.Frag):Sp:=fun vs H Q _=>∃ (a:Addr) (ns:List Int),vs=[.ref a]/\SqL K H a (ns.map V.int)/\ns.length<=100000/\∀ l H',H l=none->Same H H'->H' l=some (.lst ((once ns).map V.int))->Q (.ref l) H'
def x3d (K:W.Frag):Sp:=fun vs H Q _=>∃ (a p:Addr) (ns ts:List Int),vs=[.ref a,.ref p]/\SqL K H a (ns.map V.int)/\H p=some (.dK (mk ts))/\ns.length<=100000/\(z3n ns ts=true->Q .non H) /\
 (z3n ns ts=false->∀ l H',H l=none->Same H H'->H' l=some (.lst ((z3h ns ts).map V.int))->Q (.ref l) H')
section
variable {P:Program} {w:World} {K:W.Frag} {mg:Str->Option Value} {base:Heap}
theorem y6j (B:Blt mg) (c_marked:Cal P w K mg base 1 "marked" z6a (y0n K)) (Df:Def K mg "each_once" z3b z3g):Cal P w K mg base 2 "each_once" z3g (y9q K):=by
 refine Df.cal y5r (fun vs H Q E h=>?_) (fun f cdv A outer s H vs Q E hr h=>?_)
 ·obtain⟨a,ns,rfl,_⟩:=h;rfl
 ·obtain⟨a,ns,rfl,hS,hz,q⟩:=h
  refine⟨_,(z0e (z0o (z7e (x2r rfl) (by rfl) B.list_ z5n (z0a (z1d c_marked hr (by decide) (z0a (pv 0) z0d)) z0d)))),?_⟩
  refine⟨_,rfl,a,ns,rfl,hS,hz,fun p H1 hp sm h1=>⟨p,_,rfl,.inl h1,fun l hl=>q l _ (sm.free hl) (sm.upd (sm.free hl)) ?_⟩⟩
  rw[z0c,w0k]
theorem y6g (B:Blt mg) (c_each_once:Cal P w K mg base 2 "each_once" z3g (y9q K)) (Df:Def K mg "left_open" z2x z3s):Cal P w K mg base 3 "left_open" z3s (x3d K):=by
 refine Df.cal sc_left_open (fun vs H Q E h=>?_) (fun f cdv A outer s H vs Q E hr h=>?_)
 ·obtain⟨a,p,ns,ts,rfl,_⟩:=h;rfl
 ·obtain⟨a,p,ns,ts,rfl,hS,hp,hz,q1,q2⟩:=h
  have hu:=hu_of hr
  refine⟨_,(z0b (z4c PassesOwn.never rfl (z1u (pv 0)) (z1l (i:=2) sc_left_open.nd rfl (Or.inl rfl))
 (z0e (ps_if (z8n (x0c hu (pv 2) (pv 1)))
 (z0e (z0o z6g))
 z0q)))
 (z0e (z0o (z6s (fvn:=["taken"]) (js:=[1]) rfl (z1u (z1d c_each_once hr (by decide) (z0a (pv 0) z0d))) (.cons rfl (by first | exact .inl rfl | exact .inr rfl) rfl .nil) ⟨by decide +kernel,rfl,by decide +kernel,rfl,by decide +kernel,by decide +kernel⟩ (fun _ _ _ _ _=>(z7d (z8n (z6h hu (pe_un z1c (pv 0)) (pv 1))))) (fun _ _ _ _ _=>(pv 0)))))),?_⟩
  refine⟨_,rfl,a,rfl,⟨_,hS⟩,z4o (K:=K) (a:=a) (xs:=ns.map V.int) (fun i σ H2=>∃ v,σ=[some (.ref a),some (.ref p),v]/\H2=H/\∀ n∈ns.take i,¬ n∈ts)
   ⟨none,rfl,rfl,by simp⟩ (fun i σ H2 _ ⟨_,_,e,_⟩=>by rw[e];exact hS) ?_ ?_⟩
  ·rintro i y σ H2 hi ⟨v,rfl,rfl,hno⟩
   obtain⟨n,hni,rfl⟩:=getV hi
   refine⟨_,rfl,_,rfl,p,_,rfl,DGet.k (k:=Sum.inl n) hp,_,rfl,?_⟩
   rw[z7b]
   refine ite2 (fun c=>?_) (fun c=>?_)
   ·refine q1 ?_
    exact List.any_eq_true.mpr ⟨n,List.mem_of_getElem? hni,c⟩
   ·refine⟨_,rfl,rfl,fun m hm=>?_⟩
    rw[List.take_add_one,hni]at hm
    rcases mApp hm with z | z
    ·exact hno m z
    ·have:m=n:=by simpa using z
     rw[this];exact fun z=>c (decide_eq_true z)
  ·rintro σ H2 ⟨v,rfl,rfl,hno⟩
   have hk:z3n ns ts=false:=by
    unfold z3n
    rw[List.any_eq_false]
    intro n hm z
    exact hno n (by simpa using hm) (of_decide_eq_true z)
   refine⟨_,rfl,a,ns,rfl,hS,hz,fun l H1 hl sm h1=>⟨l,rfl,⟨_,qLo h1⟩,?_⟩⟩
   have hp1:=sm _ _ hp
   refine z5m (xs:=once ns) (g:=V.int) (fun n=>!decide (-n∈ts)) V.int (z1o (by have:=z8t ns;omega)) (qLo h1) (fun x _ R hR=>?_) (fun x _ _ R hR=>⟨_,rfl,hR⟩) (fun l2 hl2=>?_)
   ·refine⟨_,rfl,x,rfl,_,rfl,p,_,rfl,DGet.k (k:=Sum.inl (-x)) hp1,_,rfl,?_⟩
    rw[z7b];exact hR
   ·exact q2 hk l2 _ (sm.free hl2) (sm.upd (sm.free hl2)) z0c
end
def wv:Option Int->V
 | none=>.non
 | some j=>.int j
def wd:Option Int->D
 | none=>.non
 | some j=>.int j
abbrev Pr:=Addr × Int × Option Int
def refs (qs:List Pr):List V:=qs.map fun q=>V.ref q.1
def TrOk (H:Hp) (qs:List Pr):Prop:=∀ q∈qs,H q.1=some (.tup [.int q.2.1,wv q.2.2])
def lets (qs:List Pr):List Int:=qs.map fun q=>q.2.1
theorem TrOk.mono {H H':Hp} {qs:List Pr} (h:TrOk H qs) (e:Same H H'):TrOk H' qs:=fun q hq=>e _ _ (h q hq)
theorem TrOk.snoc {H:Hp} {qs:List Pr} {q:Pr} (h:TrOk H qs) (hq:H q.1=some (.tup [.int q.2.1,wv q.2.2])):TrOk H (qs++[q]):=fun x hx=>by
 rcases mApp hx with z | z
 ·exact h x z
 ·have:x=q:=by simpa using z
  rw[this];exact hq
theorem z7m (qs:List Pr):(refs qs).length=qs.length:=by simp[refs]
abbrev Wr:=Addr × List Int
def wrefs (ws:List Wr):List V:=ws.map fun p=>V.ref p.1
def WsOk (H:Hp) (ws:List Wr):Prop:=∀ p∈ws,H p.1=some (.lst (p.2.map V.int))
def wl (ws:List Wr):List (List Int):=ws.map fun p=>p.2
theorem WsOk.mono {H H':Hp} {ws:List Wr} (h:WsOk H ws) (e:Same H H'):WsOk H' ws:=fun q hq=>e _ _ (h q hq)
theorem z2l (ws:List Wr):(wrefs ws).length=ws.length:=by simp[wrefs]
theorem z4a (ws:List Wr):(wl ws).length=ws.length:=by simp[wl]
theorem w0z {ws:List Wr} {i:Nat} {y:V} (h:(wrefs ws)[i]?=some y):∃ q,ws[i]?=some q/\y=.ref q.1:=by
 obtain⟨q,h1,h2⟩:=getV (f:=fun p:Wr=>V.ref p.1) h
 exact⟨q,h1,h2⟩
def cV:Option Nat->V
 | none=>.non
 | some n=>.int n
def idxs (W:List (List Int)) (n:Int):List Nat:=(List.range W.length).filter fun i=>decide (n∈W.getD i [])
abbrev Mp:=Int × Addr × List Nat
def mkvs (M:List Mp):List (Key × V):=M.map fun m=>((Sum.inl m.1:Key),V.ref m.2.1)
def iv (l:List Nat):List V:=l.map fun (i:Nat)=>V.int i
def lookM (M:List Mp) (n:Int):Option Mp:=M.find? fun m=>decide (m.1=n)
def ilook (M:List Mp) (n:Int):List Nat:=match lookM M n with
 | some m=>m.2.2
 | none=>[]
structure MIs (H:Hp) (M:List Mp):Prop where
 ok:∀ m∈M,H m.2.1=some (.lst (iv m.2.2))
 kn:(M.map (·.1)).Nodup
 an:(M.map (·.2.1)).Nodup
theorem z8j (n:Int):∀ M:List Mp,valV (mkvs M) (Sum.inl n:Key)=(lookM M n).map fun m=>V.ref m.2.1
 | []=>rfl
 | m::M=>by
  show valV (((Sum.inl m.1:Key),V.ref m.2.1)::mkvs M) (Sum.inl n:Key)=_
  unfold lookM
  by_cases e:m.1=n
  ·rw[y0j (by rw[e]),List.find?_cons];simp[e]
  ·rw[y0k (fun z=>e (Sum.inl.inj z)),List.find?_cons,z8j n M];simp[e,lookM]
theorem z4m {M:List Mp} {n:Int} {m:Mp} (h:lookM M n=some m):m∈M/\m.1=n:=by
 unfold lookM at h
 exact⟨List.mem_of_find?_eq_some h,by have:=List.find?_some h;simpa using this⟩
theorem w0l {M:List Mp} (kn:(M.map (·.1)).Nodup) {m m':Mp} (h:m∈M) (h':m'∈M) (e:m.1=m'.1):m=m':=by
 induction M with
 | nil=>simp at h
 | cons a M ih =>
  rw[List.map_cons,List.nodup_cons]at kn
  rcases List.mem_cons.mp h with z | z<;>rcases List.mem_cons.mp h' with y | y
  ·rw[z,y]
  ·exact absurd (List.mem_map.mpr ⟨m',y,by rw[←e,z]⟩) kn.1
  ·exact absurd (List.mem_map.mpr ⟨m,z,by rw[e,y]⟩) kn.1
  ·exact ih kn.2 z y
theorem w0w {M:List Mp} (an:(M.map (·.2.1)).Nodup) {m m':Mp} (h:m∈M) (h':m'∈M) (e:m.2.1=m'.2.1):m=m':=by
 induction M with
 | nil=>simp at h
 | cons a M ih =>
  rw[List.map_cons,List.nodup_cons]at an
  rcases List.mem_cons.mp h with z | z<;>rcases List.mem_cons.mp h' with y | y
  ·rw[z,y]
  ·exact absurd (List.mem_map.mpr ⟨m',y,by rw[←e,z]⟩) an.1
  ·exact absurd (List.mem_map.mpr ⟨m,z,by rw[e,y]⟩) an.1
  ·exact ih an.2 z y
def addM (M:List Mp) (n:Int) (i:Nat):List Mp:=M.map fun m=>if m.1=n then (m.1,m.2.1,m.2.2++[i]) else m
theorem x8n (M:List Mp) (n:Int) (i:Nat):mkvs (addM M n i)=mkvs M:=by
 unfold mkvs addM
 rw[List.map_map]
 refine List.map_congr_left fun m _=>?_
 by_cases e:m.1=n<;>simp[e]
theorem x6t (M:List Mp) (n:Int) (i:Nat) (x:Int):lookM (addM M n i) x=(lookM M x).map fun m=>if m.1=n then (m.1,m.2.1,m.2.2++[i]) else m:=by
 unfold lookM addM
 induction M with
 | nil=>rfl
 | cons m M ih =>
  rw[List.map_cons,List.find?_cons,List.find?_cons]
  have e:(if m.1=n then (m.1,m.2.1,m.2.2++[i]) else m:Mp).1=m.1:=by split<;>rfl
  rw[e]
  by_cases h:m.1=x
  ·simp[h]
  ·simp only[h,decide_false];exact ih
theorem x2u {M:List Mp} {n:Int} {i:Nat} {m:Mp} (hm:lookM M n=some m) (x:Int):ilook (addM M n i) x=if x=n then ilook M n++[i] else ilook M x:=by
 unfold ilook
 rw[x6t]
 by_cases e:x=n
 ·subst e
  rw[if_pos rfl,hm]
  have:=(z4m hm).2
  simp[this]
 ·rw[if_neg e]
  cases h:lookM M x with
  | none=>rfl
  | some m' =>
   have:=(z4m h).2
   have e':¬ m'.1=n:=fun z=>e (this ▸ z)
   simp[e']
theorem x2d {M:List Mp} {n:Int} {i:Nat} {p:Addr} (hm:lookM M n=none) (x:Int):ilook (M++[(n,p,[i])]) x=if x=n then ilook M n++[i] else ilook M x:=by
 unfold ilook
 have e0:lookM (M++[(n,p,[i])]) x=(lookM M x).or (if n=x then some (n,p,[i]) else none):=by
  unfold lookM
  rw[List.find?_append]
  congr 1
  by_cases h:n=x<;>simp[h]
 rw[e0]
 by_cases e:x=n
 ·subst e
  rw[hm];simp
 ·rw[if_neg e]
  have:¬ n=x:=fun z=>e z.symm
  rw[if_neg this]
  cases lookM M x<;>rfl
theorem MIs.add {H:Hp} {M:List Mp} {n:Int} {i:Nat} {m:Mp} (h:MIs H M) (hm:lookM M n=some m):MIs (upd H m.2.1 (.lst (iv m.2.2++[.int i]))) (addM M n i):=by
 obtain⟨hm1,hm2⟩:=z4m hm
 refine⟨fun m' h'=>?_,?_,?_⟩
 ·obtain⟨m0,h0,rfl⟩:=List.mem_map.mp h'
  by_cases e:m0.1=n
  ·have:m0=m:=w0l h.kn h0 hm1 (e.trans hm2.symm)
   subst this
   rw[if_pos e]
   show upd H m0.2.1 _ m0.2.1=some (.lst (iv (m0.2.2++[i])))
   rw[z0c];simp[iv]
  ·rw[if_neg e]
   have:m0.2.1≠m.2.1:=fun z=>e (by rw[w0w h.an h0 hm1 z];exact hm2)
   rw[z0g this];exact h.ok m0 h0
 ·have:(addM M n i).map (·.1)=M.map (·.1):=by
   unfold addM;rw[List.map_map]
   refine List.map_congr_left fun m _=>?_
   show (if m.1=n then _ else m:Mp).1=m.1
   split<;>rfl
  rw[this];exact h.kn
 ·have:(addM M n i).map (·.2.1)=M.map (·.2.1):=by
   unfold addM;rw[List.map_map]
   refine List.map_congr_left fun m _=>?_
   show (if m.1=n then _ else m:Mp).2.1=m.2.1
   split<;>rfl
  rw[this];exact h.an
theorem MIs.new {H H':Hp} {M:List Mp} {n:Int} {i:Nat} {p:Addr} (h:MIs H M) (hm:lookM M n=none) (hp:∀ m∈M,m.2.1≠p) (hk:∀ m∈M,H' m.2.1=H m.2.1) (hp2:H' p=some (.lst (iv [i]))):MIs H' (M++[(n,p,[i])]):=by
 refine⟨fun m h'=>?_,?_,?_⟩
 ·rcases mApp h' with z | z
  ·rw[hk m z];exact h.ok m z
  ·have:m=(n,p,[i]):=by simpa using z
   rw[this];exact hp2
 ·rw[List.map_append]
  refine List.nodup_append.mpr ⟨h.kn,by simp,fun a ha b hb e=>?_⟩
  have hb':b=n:=by simpa using hb
  obtain⟨m,hm1,hm2⟩:=List.mem_map.mp ha
  unfold lookM at hm
  have:=List.find?_eq_none.mp hm m hm1
  exact this (decide_eq_true (by rw[hm2,e,hb']))
 ·rw[List.map_append]
  refine List.nodup_append.mpr ⟨h.an,by simp,fun a ha b hb e=>?_⟩
  have hb':b=p:=by simpa using hb
  obtain⟨m,hm1,hm2⟩:=List.mem_map.mp ha
  exact hp m hm1 (by rw[hm2,e,hb'])
theorem MIs.mono {H H':Hp} {M:List Mp} (h:MIs H M) (e:∀ m∈M,H' m.2.1=H m.2.1):MIs H' M:=⟨fun m hm=>by rw[e m hm];exact h.ok m hm,h.kn,h.an⟩
theorem x5m {W:List (List Int)} {i:Nat} {w:List Int} (h:W[i]?=some w) (x:Int):idxs (W.take (i+1)) x=idxs (W.take i) x++(if x∈w then [i] else []):=by
 have hi:i < W.length:=(List.getElem?_eq_some_iff.mp h).1
 have e1:(W.take (i+1)).length=i+1:=by simp;omega
 have e2:(W.take i).length=i:=by simp;omega
 unfold idxs
 rw[e1,e2,List.range_succ,List.filter_append]
 congr 1
 ·refine List.filter_congr fun j hj=>?_
  have hj':j < i:=by simpa using hj
  have a1:(W.take (i+1)).getD j []=W.getD j []:=by rw[List.getD_eq_getElem?_getD,List.getD_eq_getElem?_getD,List.getElem?_take_of_lt (by omega)]
  have a2:(W.take i).getD j []=W.getD j []:=by rw[List.getD_eq_getElem?_getD,List.getD_eq_getElem?_getD,List.getElem?_take_of_lt (by omega)]
  rw[a1,a2]
 ·have a1:(W.take (i+1)).getD i []=w:=by rw[List.getD_eq_getElem?_getD,List.getElem?_take_of_lt (by omega),h];rfl
  rw[List.filter_cons,List.filter_nil]
  simp only[a1]
  by_cases e:x∈w<;>simp[e]
def total (W:List (List Int)):Nat:=(W.map List.length).sum
theorem x1f {W:List (List Int)} {i:Nat} {w:List Int} (h:W[i]?=some w):total (W.take (i+1))=total (W.take i)+w.length:=by
 unfold total
 rw[List.take_add_one,h];simp
theorem x6y (W:List (List Int)) (i:Nat):total (W.take i)<=total W:=by
 unfold total
 have:W=W.take i++W.drop i:=(List.take_append_drop i W).symm
 rw[show (W.map List.length).sum=((W.take i++W.drop i).map List.length).sum by rw[←this],List.map_append,List.sum_append]
 omega
def Keep (c:Addr) (H H':Hp):Prop:=∀ b o,b≠c->H b=some o->H' b=some o
theorem Keep.refl (c:Addr) (H:Hp):Keep c H H:=fun _ _ _ h=>h
theorem Keep.trans {c:Addr} {H H1 H2:Hp} (a:Keep c H H1) (b:Keep c H1 H2):Keep c H H2:=fun x o n h=>b x o n (a x o n h)
theorem Keep.of {c:Addr} {H H':Hp} (s:Same H H'):Keep c H H':=fun x o _ h=>s x o h
theorem Keep.upd {c:Addr} {H H':Hp} {o:HO} (a:Keep c H H'):Keep c H (L2.upd H' c o):=fun x u n h=>by rw[z0g n];exact a x u n h
theorem x3s {α:Type} {n j:Nat} (f:Nat->α) (v:α):((List.range n).map f).set j v=(List.range n).map fun i=>if i=j then v else f i:=by
 refine List.ext_getElem (by simp) fun i h1 h2=>?_
 rw[List.getElem_set]
 simp only[List.getElem_map,List.getElem_range]
 by_cases e:j=i
 ·subst e;simp
 ·have:¬ i=j:=fun z=>e z.symm
  simp[e,this]
theorem x5k {n i:Nat} (h:i < n):ixN n (i:Int)=some i:=by
 unfold ixN
 rw[if_pos (by omega),if_pos (by omega)];simp
theorem z3k {α:Type} {l:List α} {j:Nat} {a:α} (h:l[j]?=some a) (x:α):x∈l.take (j+1)↔x∈l.take j∨x=a:=by
 rw[List.take_add_one,h];simp
theorem y0a {l:List Nat} {j:Nat} {a:Nat} (nd:l.Nodup) (h:l[j]?=some a):¬ a∈l.take j:=fun z=>by
 obtain⟨j',hj',e⟩:=List.mem_iff_getElem.mp z
 rw[List.getElem_take]at e
 have hjl:j < l.length:=(List.getElem?_eq_some_iff.mp h).1
 have hj2:j' < j:=by simp at hj';omega
 have e2:l[j]'hjl=a:=by rw[List.getElem?_eq_getElem hjl]at h;exact Option.some.inj h
 have:=(List.getElem_inj (h₀:=by omega) (h₁:=hjl) nd).mp (e.trans e2.symm)
 omega
theorem x9b {l:List Nat} {j:Nat} {y:V} (h:(iv l)[j]?=some y):∃ i,l[j]?=some i/\y=.int (i:Int):=getV h
theorem x0l {H:Hp} {M:List Mp} {pd pe:Addr} (x:Int) (hd:H pd=some (.dK (mkvs M))) (hM:MIs H M) (hpe:H pe=none) :
 ∃ o,DGet (upd H pe (.lst [])) pd (.int x) o/\∃ b:Addr,(upd H pe (.lst [])) b=some (.lst (iv (ilook M x)))/\(b=pe∨∃ m∈M,b=m.2.1)/\o.getD (.ref pe)=.ref b:=by
 have npe:pd≠pe:=z0h hd hpe
 refine⟨_,DGet.k (k:=Sum.inl x) (by rw[z0g npe];exact hd),?_⟩
 rw[z8j]
 cases hl:lookM M x with
 | none =>
  refine⟨pe,?_,.inl rfl,rfl⟩
  rw[z0c];unfold ilook;rw[hl];rfl
 | some m =>
  obtain⟨h1,h2⟩:=z4m hl
  refine⟨m.2.1,?_,.inr ⟨m,h1,rfl⟩,rfl⟩
  rw[z0g (z0h (hM.ok m h1) hpe)]
  unfold ilook;rw[hl];exact hM.ok m h1
def soN (v T:List Int):Nat:=((once v).filter fun n=>decide (n∈T)).length
def leftN (v T:List Int):Nat:=(z3h v T).length
theorem x6k {l:List Int} (nd:l.Nodup) (a:Int):(l.filter fun n=>decide (n=a)).length=if a∈l then 1 else 0:=by
 induction l with
 | nil=>rfl
 | cons b l ih =>
  have h:=List.nodup_cons.mp nd
  rw[List.filter_cons]
  by_cases e:b=a
  ·subst e
   have:(l.filter fun n=>decide (n=b))=[]:=List.filter_eq_nil_iff.mpr fun n hn=>by
    simp;intro z;subst z;exact h.1 hn
   simp[this]
  ·have e':¬ a=b:=fun z=>e z.symm
   simp[e,e',ih h.2]
theorem y9t {v T:List Int} {x:Int} (hx:¬ x∈T):soN v (T++[x])=soN v T+(if x∈v then 1 else 0):=by
 unfold soN
 have e:=x6k (z7o v) x
 have:∀ l:List Int,(l.filter fun n=>decide (n∈T++[x])).length=(l.filter fun n=>decide (n∈T)).length+(l.filter fun n=>decide (n=x)).length:=by
  intro l
  induction l with
  | nil=>rfl
  | cons b l ih =>
   rw[List.filter_cons,List.filter_cons,List.filter_cons]
   by_cases h1:b∈T
   ·have h2:b≠x:=fun z=>hx (z ▸ h1)
    simp[h1,h2]at ih ⊢;omega
   ·by_cases h2:b=x
    ·simp[h1,h2,hx]at ih ⊢;omega
    ·simp[h1,h2]at ih ⊢;omega
 rw[this,e]
 congr 1
 by_cases h:x∈v
 ·rw[if_pos h,if_pos (mem_once.mpr h)]
 ·rw[if_neg h,if_neg (fun z=>h (mem_once.mp z))]
theorem y3d {v T:List Int} {x:Int} (hx:¬ x∈T):leftN v (T++[x])+(if -x∈v then 1 else 0)=leftN v T:=by
 unfold leftN
 rw[y8g]
 by_cases h:-x∈v
 ·rw[if_pos h]
  have hm:-x∈z3h v T:=List.mem_filter.mpr ⟨mem_once.mpr h,by simp[hx]⟩
  exact z7a (y6c v T) hm
 ·rw[if_neg h]
  have:(z3h v T).filter (fun n=>!decide (n=-x))=z3h v T:=List.filter_eq_self.mpr fun n hn=>by
   have:n≠-x:=fun e=>h (e ▸ mem_once.mp (List.mem_filter.mp hn).1)
   simp[this]
  rw[this];rfl
theorem kept_soN {v T:List Int}:z3n v T=true↔soN v T≠0:=by
 unfold z3n soN
 rw[List.any_eq_true]
 constructor
 ·rintro⟨n,hn,e⟩
  have:n∈(once v).filter fun n=>decide (n∈T):=List.mem_filter.mpr ⟨mem_once.mpr hn,e⟩
  intro z
  rw[List.length_eq_zero_iff.mp z]at this
  cases this
 ·intro h
  obtain⟨n,hn⟩:=List.exists_mem_of_length_pos (Nat.pos_of_ne_zero h)
  obtain⟨a,b⟩:=List.mem_filter.mp hn
  exact⟨n,mem_once.mp a,b⟩
theorem y7g (v T:List Int):cnt v T=if soN v T=0 then some (leftN v T) else none:=by
 unfold cnt
 by_cases h:soN v T=0
 ·have:¬ z3n v T=true:=fun z=>kept_soN.mp z h
  rw[if_neg this,if_pos h];rfl
 ·rw[if_pos (kept_soN.mpr h),if_neg h]
structure FG (so left F G:List Int):Prop where
 fn:F.Nodup
 gn:G.Nodup
 f:∀ j,j∈F↔∃ i:Nat,j=(i:Int)/\so[i]?=some 0/\left[i]?=some 0
 g:∀ j,j∈G↔∃ i:Nat,j=(i:Int)/\so[i]?=some 0/\left[i]?=some 1
theorem FG.sort {so left so' left' F G F' G':List Int} {i:Nat} (h:FG so left F G) (hs:∀ k,k≠i->so'[k]?=so[k]?) (hl:∀ k,k≠i->left'[k]?=left[k]?) (fn:F'.Nodup) (gn:G'.Nodup)
 (hF:∀ j,j∈F'↔(j∈F/\j≠(i:Int))∨(j=(i:Int)/\so'[i]?=some 0/\left'[i]?=some 0)) (hG:∀ j,j∈G'↔(j∈G/\j≠(i:Int))∨(j=(i:Int)/\so'[i]?=some 0/\left'[i]?=some 1)):FG so' left' F' G':=by
 refine⟨fn,gn,fun j=>?_,fun j=>?_⟩
 ·rw[hF]
  constructor
  ·rintro (⟨a,b⟩ | ⟨a,b,c⟩)
   ·obtain⟨k,e,p,q⟩:=(h.f j).mp a
    have hk:k≠i:=fun z=>b (by rw[e,z])
    exact⟨k,e,by rw[hs k hk];exact p,by rw[hl k hk];exact q⟩
   ·exact⟨i,a,b,c⟩
  ·rintro⟨k,e,p,q⟩
   by_cases hk:k=i
   ·subst hk;exact .inr ⟨e,p,q⟩
   ·exact .inl ⟨(h.f j).mpr ⟨k,e,by rw[←hs k hk];exact p,by rw[←hl k hk];exact q⟩,fun z=>hk (by omega)⟩
 ·rw[hG]
  constructor
  ·rintro (⟨a,b⟩ | ⟨a,b,c⟩)
   ·obtain⟨k,e,p,q⟩:=(h.g j).mp a
    have hk:k≠i:=fun z=>b (by rw[e,z])
    exact⟨k,e,by rw[hs k hk];exact p,by rw[hl k hk];exact q⟩
   ·exact⟨i,a,b,c⟩
  ·rintro⟨k,e,p,q⟩
   by_cases hk:k=i
   ·subst hk;exact .inr ⟨e,p,q⟩
   ·exact .inl ⟨(h.g j).mpr ⟨k,e,by rw[←hs k hk];exact p,by rw[←hl k hk];exact q⟩,fun z=>hk (by omega)⟩
theorem FG.skip {so left so' left' F G:List Int} {i:Nat} (h:FG so left F G) (hs:∀ k,k≠i->so'[k]?=so[k]?) (hl:∀ k,k≠i->left'[k]?=left[k]?) (h1:∀ z,left[i]?=some z->1 < z) (h2:∀ z,left'[i]?=some z->1 < z):FG so' left' F G:=by
 have key:∀ (c j:Int),(c=0∨c=1)->((∃ k:Nat,j=(k:Int)/\so[k]?=some 0/\left[k]?=some c)↔∃ k:Nat,j=(k:Int)/\so'[k]?=some 0/\left'[k]?=some c):=by
  intro c j hc
  constructor
  ·rintro⟨k,e,p,q⟩
   have hk:k≠i:=fun z=>by have:=h1 c (z ▸ q);omega
   exact⟨k,e,by rw[hs k hk];exact p,by rw[hl k hk];exact q⟩
  ·rintro⟨k,e,p,q⟩
   have hk:k≠i:=fun z=>by have:=h2 c (z ▸ q);omega
   exact⟨k,e,by rw[←hs k hk];exact p,by rw[←hl k hk];exact q⟩
 exact⟨h.fn,h.gn,fun j=>(h.f j).trans (key 0 j (.inl rfl)),fun j=>(h.g j).trans (key 1 j (.inr rfl))⟩
structure Tly where
 aw:Addr
 at_:Addr
 ad:Addr
 ap:Addr
 aso:Addr
 al:Addr
 af:Addr
 ao:Addr
 ws:List Wr
 qs:List Pr
 T:List Int
 M:List Mp
 so:List Int
 left:List Int
 F:List Int
 G:List Int
def flds (x:Tly):List (Str × V):=putF "forcing" (.ref x.ao) (putF "failing" (.ref x.af) (putF "left" (.ref x.al) (putF "so" (.ref x.aso) (putF "places" (.ref x.ap) (putF "taken" (.ref x.ad) (putF "trail" (.ref x.at_) (putF "wishes" (.ref x.aw) [])))))))
theorem z8z (x:Tly):(flds x).lookup ("wishes" : Str)=some (.ref x.aw):=by
 unfold flds
 rw[z0j,if_neg (by decide +kernel),z0j,if_neg (by decide +kernel),z0j,if_neg (by decide +kernel),z0j,if_neg (by decide +kernel),z0j,if_neg (by decide +kernel),z0j,if_neg (by decide +kernel),z0j,if_neg (by decide +kernel),z0j,if_pos rfl]
theorem z7r (x:Tly):(flds x).lookup ("trail" : Str)=some (.ref x.at_):=by
 unfold flds
 rw[z0j,if_neg (by decide +kernel),z0j,if_neg (by decide +kernel),z0j,if_neg (by decide +kernel),z0j,if_neg (by decide +kernel),z0j,if_neg (by decide +kernel),z0j,if_neg (by decide +kernel),z0j,if_pos rfl]
theorem z5a (x:Tly):(flds x).lookup ("taken" : Str)=some (.ref x.ad):=by
 unfold flds
 rw[z0j,if_neg (by decide +kernel),z0j,if_neg (by decide +kernel),z0j,if_neg (by decide +kernel),z0j,if_neg (by decide +kernel),z0j,if_neg (by decide +kernel),z0j,if_pos rfl]
theorem y2b (x:Tly):(flds x).lookup ("places" : Str)=some (.ref x.ap):=by
 unfold flds
 rw[z0j,if_neg (by decide +kernel),z0j,if_neg (by decide +kernel),z0j,if_neg (by decide +kernel),z0j,if_neg (by decide +kernel),z0j,if_pos rfl]
theorem fl_so (x:Tly):(flds x).lookup ("so" : Str)=some (.ref x.aso):=by
 unfold flds
 rw[z0j,if_neg (by decide +kernel),z0j,if_neg (by decide +kernel),z0j,if_neg (by decide +kernel),z0j,if_pos rfl]
theorem z9p (x:Tly):(flds x).lookup ("left" : Str)=some (.ref x.al):=by
 unfold flds
 rw[z0j,if_neg (by decide +kernel),z0j,if_neg (by decide +kernel),z0j,if_pos rfl]
theorem z7t (x:Tly):(flds x).lookup ("failing" : Str)=some (.ref x.af):=by
 unfold flds
 rw[z0j,if_neg (by decide +kernel),z0j,if_pos rfl]
theorem z7s (x:Tly):(flds x).lookup ("forcing" : Str)=some (.ref x.ao):=by
 unfold flds
 rw[z0j,if_pos rfl]
theorem fl_no (x:Tly) {m:Str} (h1:¬ m="forcing") (h2:¬ m="failing") (h3:¬ m="left") (h4:¬ m="so") (h5:¬ m="places") (h6:¬ m="taken") (h7:¬ m="trail") (h8:¬ m="wishes"):(flds x).lookup m=none:=by
 unfold flds
 rw[z0j,if_neg h1,z0j,if_neg h2,z0j,if_neg h3,z0j,if_neg h4,z0j,if_neg h5,z0j,if_neg h6,z0j,if_neg h7,z0j,if_neg h8]
 rfl
theorem fl_nx (x:Tly) {m:Str} (h:¬ m="forcing"/\¬ m="failing"/\¬ m="left"/\¬ m="so"/\¬ m="places"/\¬ m="taken"/\¬ m="trail"/\¬ m="wishes"):(flds x).lookup m=none:=fl_no x h.1 h.2.1 h.2.2.1 h.2.2.2.1 h.2.2.2.2.1 h.2.2.2.2.2.1 h.2.2.2.2.2.2.1 h.2.2.2.2.2.2.2
structure TyAt (C:Addr) (H:Hp) (p:Addr) (x:Tly):Prop where
 ob:∃ dx,H p=some (.ins C dx (flds x))
 hw:H x.aw=some (.lst (wrefs x.ws))
 ht:H x.at_=some (.lst (refs x.qs))
 hd:H x.ad=some (.dK (mk x.T))
 hp:H x.ap=some (.dK (mkvs x.M))
 hM:MIs H x.M
 hs:H x.aso=some (.lst (x.so.map V.int))
 hl:H x.al=some (.lst (x.left.map V.int))
 hf:H x.af=some (.dK (mk x.F))
 hg:H x.ao=some (.dK (mk x.G))
 wo:WsOk H x.ws
 to:TrOk H x.qs
 nl:x.aw≠x.at_/\x.aw≠x.aso/\x.aw≠x.al/\x.at_≠x.aso/\x.at_≠x.al/\x.aso≠x.al
 nd:x.ad≠x.ap/\x.ad≠x.af/\x.ad≠x.ao/\x.ap≠x.af/\x.ap≠x.ao/\x.af≠x.ao
 nm:∀ m∈x.M,m.2.1≠x.aw/\m.2.1≠x.at_/\m.2.1≠x.aso/\m.2.1≠x.al
 nw:∀ r∈x.ws,r.1≠x.aw/\r.1≠x.at_/\r.1≠x.aso/\r.1≠x.al/\∀ m∈x.M,r.1≠m.2.1
def foot (p:Addr) (x:Tly) (b:Addr):Prop:=b=p∨b=x.aw∨b=x.at_∨b=x.ad∨b=x.ap∨b=x.aso∨b=x.al∨b=x.af∨b=x.ao∨∃ m∈x.M,b=m.2.1
structure Fr (p:Addr) (x x':Tly) (H H':Hp):Prop where
 out:∀ b o,H b=some o->¬ foot p x b->H' b=some o
 inn:∀ b,foot p x' b->foot p x b∨H b=none
theorem Fr.refl (p:Addr) (x:Tly) (H:Hp):Fr p x x H H:=⟨fun _ _ h _=>h,fun _ h=>.inl h⟩
theorem Fr.trans {p:Addr} {x y z:Tly} {H H1 H2:Hp} (a:Fr p x y H H1) (b:Fr p y z H1 H2):Fr p x z H H2:=by
 have step:∀ c,H1 c=none->foot p x c∨H c=none:=fun c h=>by
  cases e:H c with
  | none=>exact .inr rfl
  | some o =>
   by_cases hf:foot p x c
   ·exact .inl hf
   ·rw[a.out c o e hf]at h;cases h
 refine⟨fun c o h hf=>b.out c o (a.out c o h hf) fun hy=>?_,fun c hz=>?_⟩
 ·rcases a.inn c hy with z | z
  ·exact hf z
  ·rw[h]at z;cases z
 ·rcases b.inn c hz with hy | h
  ·exact a.inn c hy
  ·exact step c h
theorem Fr.same {p:Addr} {x:Tly} {H H':Hp} (s:Same H H'):Fr p x x H H':=⟨fun b o h _=>s b o h,fun _ h=>.inl h⟩
theorem TyAt.same {C:Addr} {H H':Hp} {p:Addr} {x:Tly} (h:TyAt C H p x) (s:Same H H'):TyAt C H' p x :=
 ⟨let ⟨dx,e⟩:=h.ob;⟨dx,s _ _ e⟩,s _ _ h.hw,s _ _ h.ht,s _ _ h.hd,s _ _ h.hp,h.hM.mono fun m hm=>by rw[s _ _ (h.hM.ok m hm),h.hM.ok m hm],s _ _ h.hs,s _ _ h.hl,s _ _ h.hf,s _ _ h.hg,h.wo.mono s,h.to.mono s,h.nl,h.nd,h.nm,h.nw⟩
theorem z5q {p:Addr} {x x':Tly} {H:Hp} {z:Addr} {o:HO} (hz:foot p x z) (hi:∀ b,foot p x' b->foot p x b∨H b=none):Fr p x x' H (upd H z o) :=
 ⟨fun b u h hf=>by rw[z0g (fun e=>hf (by rw[e];exact hz))];exact h,hi⟩
section
variable {C:Addr} {H:Hp} {p:Addr} {x:Tly} (h:TyAt C H p x)
include h
theorem TyAt.p_ne {z:Addr} {o:HO} (hz:H z=some o) (hk:∀ C dx fs,o≠.ins C dx fs):p≠z:=by
 obtain⟨dx,e⟩:=h.ob
 exact ne_of e hz (fun q=>hk _ _ _ q.symm)
theorem TyAt.t_ne {z:Addr} {o:HO} (hz:H z=some o) (hk:∀ vs,o≠.tup vs):∀ q∈x.qs,q.1≠z:=fun q hq=>ne_of (h.to q hq) hz (fun e=>hk _ e.symm)
theorem TyAt.setF (F':List Int):TyAt C (upd H x.af (.dK (My.mk F'))) p { x with F:=F' }:=by
 have k1:∀ {z:Addr} {vs:List V},H z=some (.lst vs)->upd H x.af (.dK (My.mk F')) z=some (.lst vs):=fun {z vs} e=>by rw[z0g (ne_of e h.hf (by intro q;cases q))];exact e
 have k2:∀ {z:Addr} {o:HO},z≠x.af->H z=some o->upd H x.af (.dK (My.mk F')) z=some o:=fun n e=>by rw[z0g n];exact e
 obtain⟨dx,e⟩:=h.ob
 exact⟨⟨dx,k2 (h.p_ne h.hf (by intro a b c q;cases q)) e⟩,k1 h.hw,k1 h.ht,k2 h.nd.2.1 h.hd,k2 h.nd.2.2.2.1 h.hp,h.hM.mono fun m hm=>by rw[k1 (h.hM.ok m hm),h.hM.ok m hm],k1 h.hs,k1 h.hl,z0c,k2 h.nd.2.2.2.2.2.symm h.hg,fun r hr=>k1 (h.wo r hr),fun q hq=>k2 (h.t_ne h.hf (by intro a q;cases q) q hq) (h.to q hq),h.nl,h.nd,h.nm,h.nw⟩
theorem TyAt.setG (G':List Int):TyAt C (upd H x.ao (.dK (My.mk G'))) p { x with G:=G' }:=by
 have k1:∀ {z:Addr} {vs:List V},H z=some (.lst vs)->upd H x.ao (.dK (My.mk G')) z=some (.lst vs):=fun {z vs} e=>by rw[z0g (ne_of e h.hg (by intro q;cases q))];exact e
 have k2:∀ {z:Addr} {o:HO},z≠x.ao->H z=some o->upd H x.ao (.dK (My.mk G')) z=some o:=fun n e=>by rw[z0g n];exact e
 obtain⟨dx,e⟩:=h.ob
 exact⟨⟨dx,k2 (h.p_ne h.hg (by intro a b c q;cases q)) e⟩,k1 h.hw,k1 h.ht,k2 h.nd.2.2.1 h.hd,k2 h.nd.2.2.2.2.1 h.hp,h.hM.mono fun m hm=>by rw[k1 (h.hM.ok m hm),h.hM.ok m hm],k1 h.hs,k1 h.hl,k2 h.nd.2.2.2.2.2 h.hf,z0c,fun r hr=>k1 (h.wo r hr),fun q hq=>k2 (h.t_ne h.hg (by intro a q;cases q) q hq) (h.to q hq),h.nl,h.nd,h.nm,h.nw⟩
theorem TyAt.setT (T':List Int):TyAt C (upd H x.ad (.dK (My.mk T'))) p { x with T:=T' }:=by
 have k1:∀ {z:Addr} {vs:List V},H z=some (.lst vs)->upd H x.ad (.dK (My.mk T')) z=some (.lst vs):=fun {z vs} e=>by rw[z0g (ne_of e h.hd (by intro q;cases q))];exact e
 have k2:∀ {z:Addr} {o:HO},z≠x.ad->H z=some o->upd H x.ad (.dK (My.mk T')) z=some o:=fun n e=>by rw[z0g n];exact e
 obtain⟨dx,e⟩:=h.ob
 exact⟨⟨dx,k2 (h.p_ne h.hd (by intro a b c q;cases q)) e⟩,k1 h.hw,k1 h.ht,z0c,k2 h.nd.1.symm h.hp,h.hM.mono fun m hm=>by rw[k1 (h.hM.ok m hm),h.hM.ok m hm],k1 h.hs,k1 h.hl,k2 h.nd.2.1.symm h.hf,k2 h.nd.2.2.1.symm h.hg,fun r hr=>k1 (h.wo r hr),fun q hq=>k2 (h.t_ne h.hd (by intro a q;cases q) q hq) (h.to q hq),h.nl,h.nd,h.nm,h.nw⟩
theorem TyAt.setS (so':List Int):TyAt C (upd H x.aso (.lst (so'.map V.int))) p { x with so:=so' }:=by
 have k1:∀ {z:Addr} {kvs:List (Key × V)},H z=some (.dK kvs)->upd H x.aso (.lst (so'.map V.int)) z=some (.dK kvs):=fun {z vs} e=>by rw[z0g (ne_of e h.hs (by intro q;cases q))];exact e
 have k2:∀ {z:Addr} {o:HO},z≠x.aso->H z=some o->upd H x.aso (.lst (so'.map V.int)) z=some o:=fun n e=>by rw[z0g n];exact e
 obtain⟨dx,e⟩:=h.ob
 exact⟨⟨dx,k2 (h.p_ne h.hs (by intro a b c q;cases q)) e⟩,k2 h.nl.2.1 h.hw,k2 h.nl.2.2.2.1 h.ht,k1 h.hd,k1 h.hp,h.hM.mono fun m hm=>by rw[k2 (h.nm m hm).2.2.1 (h.hM.ok m hm),h.hM.ok m hm],z0c,k2 h.nl.2.2.2.2.2.symm h.hl,k1 h.hf,k1 h.hg,fun r hr=>k2 (h.nw r hr).2.2.1 (h.wo r hr),fun q hq=>k2 (h.t_ne h.hs (by intro a q;cases q) q hq) (h.to q hq),h.nl,h.nd,h.nm,h.nw⟩
theorem TyAt.setL (left':List Int):TyAt C (upd H x.al (.lst (left'.map V.int))) p { x with left:=left' }:=by
 have k1:∀ {z:Addr} {kvs:List (Key × V)},H z=some (.dK kvs)->upd H x.al (.lst (left'.map V.int)) z=some (.dK kvs):=fun {z vs} e=>by rw[z0g (ne_of e h.hl (by intro q;cases q))];exact e
 have k2:∀ {z:Addr} {o:HO},z≠x.al->H z=some o->upd H x.al (.lst (left'.map V.int)) z=some o:=fun n e=>by rw[z0g n];exact e
 obtain⟨dx,e⟩:=h.ob
 exact⟨⟨dx,k2 (h.p_ne h.hl (by intro a b c q;cases q)) e⟩,k2 h.nl.2.2.1 h.hw,k2 h.nl.2.2.2.2.1 h.ht,k1 h.hd,k1 h.hp,h.hM.mono fun m hm=>by rw[k2 (h.nm m hm).2.2.2 (h.hM.ok m hm),h.hM.ok m hm],k2 h.nl.2.2.2.2.2 h.hs,z0c,k1 h.hf,k1 h.hg,fun r hr=>k2 (h.nw r hr).2.2.2.1 (h.wo r hr),fun q hq=>k2 (h.t_ne h.hl (by intro a q;cases q) q hq) (h.to q hq),h.nl,h.nd,h.nm,h.nw⟩
theorem TyAt.setQ {qs':List Pr} (ho:TrOk H qs'):TyAt C (upd H x.at_ (.lst (refs qs'))) p { x with qs:=qs' }:=by
 have k1:∀ {z:Addr} {kvs:List (Key × V)},H z=some (.dK kvs)->upd H x.at_ (.lst (refs qs')) z=some (.dK kvs):=fun {z vs} e=>by rw[z0g (ne_of e h.ht (by intro q;cases q))];exact e
 have k2:∀ {z:Addr} {o:HO},z≠x.at_->H z=some o->upd H x.at_ (.lst (refs qs')) z=some o:=fun n e=>by rw[z0g n];exact e
 obtain⟨dx,e⟩:=h.ob
 exact⟨⟨dx,k2 (h.p_ne h.ht (by intro a b c q;cases q)) e⟩,k2 h.nl.1 h.hw,z0c,k1 h.hd,k1 h.hp,h.hM.mono fun m hm=>by rw[k2 (h.nm m hm).2.1 (h.hM.ok m hm),h.hM.ok m hm],k2 h.nl.2.2.2.1.symm h.hs,k2 h.nl.2.2.2.2.1.symm h.hl,k1 h.hf,k1 h.hg,fun r hr=>k2 (h.nw r hr).2.1 (h.wo r hr),fun q hq=>k2 (ne_of (ho q hq) h.ht (by intro z;cases z)) (ho q hq),h.nl,h.nd,h.nm,h.nw⟩
end
structure TallyCls (K:W.Frag) (mg:Str->Option Value) (C:Addr):Prop where
 cl:Cls K C
 n1:NoAttr K C "wishes"
 n2:NoAttr K C "trail"
 n3:NoAttr K C "taken"
 n4:NoAttr K C "places"
 n5:NoAttr K C "so"
 n6:NoAttr K C "left"
 n7:NoAttr K C "failing"
 n8:NoAttr K C "forcing"
 mgC:mg "Tally" = some (.ref C)
 mks:PySem.W.makesIn K C=true
 kc:PySem.W.keepIn K (.ref C)=true
theorem iteN {c A B:Prop} [Decidable c] (h:¬ c) (b:B):if decide c=true then A else B:=by
 rw[decide_eq_false h];exact iteF b
theorem y9c (l:List Int) (n:Int):dropK (mk l) (Sum.inl n:Key)=mk (l.filter fun z=>!decide (z=n)):=by
 unfold dropK mk
 rw[List.filter_map]
 congr 1
 refine List.filter_congr fun z _=>?_
 show decide ((Sum.inl z:Key)≠Sum.inl n)=!decide (z=n)
 by_cases h:z=n
 ·subst h;simp
 ·simp[h]
theorem x8q (l:List Int) (n:Int):valV (mk l) (Sum.inl n:Key)=none->l.filter (fun z=>!decide (z=n))=l:=fun e=>by
 have h:=z7b l n
 rw[e]at h
 have hn:¬ n∈l:=fun z=>by rw[decide_eq_true z]at h;cases h
 exact List.filter_eq_self.mpr fun z hz=>by
  have:z≠n:=fun q=>hn (q ▸ hz)
  simp[this]
def wo (l:List Int) (i:Nat):List Int:=l.filter fun z=>!decide (z=(i:Int))
theorem mem_wo {l:List Int} {i:Nat} {j:Int}:j∈wo l i↔j∈l/\j≠(i:Int):=by unfold wo;rw[List.mem_filter];simp
theorem z5p {l:List Int} {i:Nat} (h:l.Nodup):(wo l i).Nodup:=h.sublist List.filter_sublist
theorem x8o (l:List Int) (i:Nat):(wo l i).length<=l.length:=List.length_filter_le _ _
def y9l (C:Addr):Sp:=fun vs H Q _=>∃ (p:Addr) (x:Tly) (i:Nat) (a b:Int),vs=[.ref p,.int i]/\TyAt C H p x/\x.so[i]?=some a/\x.left[i]?=some b/\x.F.length<=16700000/\x.G.length<=16700000/\x.F.Nodup/\x.G.Nodup /\
 ∀ (F' G':List Int) (H':Hp),TyAt C H' p { x with F:=F',G:=G' }->Fr p x { x with F:=F',G:=G' } H H'->F'.Nodup->G'.Nodup->(∀ j,j∈F'↔(j∈x.F/\j≠(i:Int))∨(j=(i:Int)/\a=0/\b=0))->(∀ j,j∈G'↔(j∈x.G/\j≠(i:Int))∨(j=(i:Int)/\a=0/\b=1))->Q .non H'
theorem x9e {p:Addr} {x:Tly}:foot p x x.af:=.inr (.inr (.inr (.inr (.inr (.inr (.inr (.inl rfl)))))))
theorem x9d {p:Addr} {x:Tly}:foot p x x.ao:=.inr (.inr (.inr (.inr (.inr (.inr (.inr (.inr (.inl rfl))))))))
section
variable {P:Program} {w:World} {K:W.Frag} {mg:Str->Option Value} {base:Heap} {C:Addr}
theorem x1w (T:TallyCls K mg C) (Df:MDef K C "sort_in" "Tally.sort_in" z1p z1h):MCal P w K mg base 1 C "sort_in" z1h (y9l C):=by
 refine Df.cal y0g (fun vs H Q E h=>?_) (fun f cdv A outer s H vs Q E hr h=>?_)
 ·obtain⟨p,x,i,a,b,rfl,_⟩:=h;rfl
 ·obtain⟨p,x,i,a,b,rfl,hx,ha,hb,hzF,hzG,nF,nG,q⟩:=h
  have hu:=hu_of hr
  have cl:=T.cl
  refine⟨_,(z0b (z0r (x0a (z1m (pv 0) rfl) (pv 1) z6g ⟨rfl,rfl,rfl,rfl⟩))
 (z0b (z0r (x0a (z1m (pv 0) rfl) (pv 1) z6g ⟨rfl,rfl,rfl,rfl⟩))
 (z0e (ps_if (z0k op_eq (pe_ix ix_list (z1m (pv 0) rfl) (pv 1) (fun _ _=>rfl)) z0i (z0p _))
 (z0e (ps_if (z0k op_eq (pe_ix ix_list (z1m (pv 0) rfl) (pv 1) (fun _ _=>rfl)) z0i (z0p _))
 (z0e (y4h hu (z1m (pv 0) rfl) (pv 1) pe_bl rfl))
 (z0e (ps_if (z0k op_eq (pe_ix ix_list (z1m (pv 0) rfl) (pv 1) (fun _ _=>rfl)) z0i (z0p _))
 (z0e (y4h hu (z1m (pv 0) rfl) (pv 1) pe_bl rfl))
 z0q))))
 z0q)))),?_⟩
  refine z7y (fun σ Hx=>σ=[some (.ref p),some (.int i)]/\TyAt C Hx p { x with F:=wo x.F i }/\Fr p x { x with F:=wo x.F i } H Hx) (fun N hN=>?_) ?_
  ·obtain⟨dx,ob⟩:=hx.ob
   refine⟨_,rfl,p,C,dx,_,_,rfl,ob,T.cl,T.n7,z7t x,x.af,rfl,.inl ⟨_,.inl hx.hf⟩,_,rfl,_,Sum.inl (i:Int),hx.hf,rfl,fun v _=>?_,fun e=>?_⟩
   ·rw[y9c]
    exact hN _ _ ⟨rfl,hx.setF _,z5q x9e fun _ h=>.inl h⟩
   ·have ew:wo x.F i=x.F:=x8q _ _ e
    refine hN _ _ ⟨rfl,?_,?_⟩
    ·rw[ew];exact hx
    ·rw[ew];exact Fr.refl _ _ _
  rintro σ H1 ⟨rfl,hx1,fr1⟩
  refine z7y (fun σ Hx=>σ=[some (.ref p),some (.int i)]/\TyAt C Hx p { x with F:=wo x.F i,G:=wo x.G i }/\Fr p x { x with F:=wo x.F i,G:=wo x.G i } H Hx) (fun N hN=>?_) ?_
  ·obtain⟨dx,ob⟩:=hx1.ob
   refine⟨_,rfl,p,C,dx,_,_,rfl,ob,T.cl,T.n8,z7s _,x.ao,rfl,.inl ⟨_,.inl hx1.hg⟩,_,rfl,_,Sum.inl (i:Int),hx1.hg,rfl,fun v _=>?_,fun e=>?_⟩
   ·rw[y9c]
    exact hN _ _ ⟨rfl,hx1.setG _,fr1.trans (z5q x9d fun _ h=>.inl h)⟩
   ·have ew:wo x.G i=x.G:=x8q _ _ e
    refine hN _ _ ⟨rfl,?_,?_⟩
    ·rw[ew];exact hx1
    ·rw[ew];exact fr1
  rintro σ H2 ⟨rfl,hx2,fr2⟩
  obtain⟨dx,ob⟩:=hx2.ob
  have hat:atI (x.so.map V.int) (i:Int)=some (.int a):=z4f (by simp[ha])
  have hbt:atI (x.left.map V.int) (i:Int)=some (.int b):=z4f (by simp[hb])
  have nFi:¬ (i:Int)∈wo x.F i:=fun z=>(mem_wo.mp z).2 rfl
  have nGi:¬ (i:Int)∈wo x.G i:=fun z=>(mem_wo.mp z).2 rfl
  have lF:=x8o x.F i
  have lG:=x8o x.G i
  refine⟨_,rfl,p,C,dx,_,_,rfl,ob,T.cl,T.n5,fl_so _,_,rfl,x.aso,_,_,_,rfl,rfl,qLo hx2.hs,hat,rfl,_,rfl,ite2 (fun c=>?_) (fun c=>?_)⟩
  ·have a0:a=0:=by have:=of_decide_eq_true c;injection this
   refine⟨_,rfl,p,C,dx,_,_,rfl,ob,T.cl,T.n6,z9p _,_,rfl,x.al,_,_,_,rfl,rfl,qLo hx2.hl,hbt,rfl,_,rfl,ite2 (fun c2=>?_) (fun c2=>?_)⟩
   ·have b0:b=0:=by have:=of_decide_eq_true c2;injection this
    refine⟨_,rfl,p,C,dx,_,_,rfl,ob,T.cl,T.n7,z7t _,_,rfl,x.af,_,rfl,DPut.k (k:=Sum.inl (i:Int)) hx2.hf (z1r (by rw[x0j];show (wo x.F i).length<=_;omega)),?_⟩
    rw[y9y]
    have eF:onceF (wo x.F i) (i:Int)=wo x.F i++[(i:Int)]:=by unfold onceF;rw[if_neg nFi]
    show Q .non (upd H2 x.af (.dK (mk (onceF (wo x.F i) (i:Int)))))
    rw[eF]
    refine q _ _ _ (hx2.setF _) (fr2.trans (z5q x9e fun _ h=>.inl h)) ?_ (z5p nG) (fun j=>?_) (fun j=>?_)
    ·rw[List.nodup_append]
     exact⟨z5p nF,by simp,fun u hu v hv=>by
      have:v=(i:Int):=by simpa using hv
      rw[this];intro z;exact nFi (z ▸ hu)⟩
    ·rw[List.mem_append,mem_wo];simp[a0,b0]
    ·rw[mem_wo];simp[b0]
   ·have b0:b≠0:=fun z=>c2 (by rw[z];exact decide_eq_true rfl)
    refine⟨_,rfl,p,C,dx,_,_,rfl,ob,T.cl,T.n6,z9p _,_,rfl,x.al,_,_,_,rfl,rfl,qLo hx2.hl,hbt,rfl,_,rfl,ite2 (fun c3=>?_) (fun c3=>?_)⟩
    ·have b1:b=1:=by have:=of_decide_eq_true c3;injection this
     refine⟨_,rfl,p,C,dx,_,_,rfl,ob,T.cl,T.n8,z7s _,_,rfl,x.ao,_,rfl,DPut.k (k:=Sum.inl (i:Int)) hx2.hg (z1r (by rw[x0j];show (wo x.G i).length<=_;omega)),?_⟩
     rw[y9y]
     have eG:onceF (wo x.G i) (i:Int)=wo x.G i++[(i:Int)]:=by unfold onceF;rw[if_neg nGi]
     show Q .non (upd H2 x.ao (.dK (mk (onceF (wo x.G i) (i:Int)))))
     rw[eG]
     refine q _ _ _ (hx2.setG _) (fr2.trans (z5q x9d fun _ h=>.inl h)) (z5p nF) ?_ (fun j=>?_) (fun j=>?_)
     ·rw[List.nodup_append]
      exact⟨z5p nG,by simp,fun u hu v hv=>by
       have:v=(i:Int):=by simpa using hv
       rw[this];intro z;exact nGi (z ▸ hu)⟩
     ·rw[mem_wo];simp[b1]
     ·rw[List.mem_append,mem_wo];simp[a0,b1]
    ·have b1:b≠1:=fun z=>c3 (by rw[z];exact decide_eq_true rfl)
     refine q _ _ _ hx2 fr2 (z5p nF) (z5p nG) (fun j=>?_) (fun j=>?_)
     ·rw[mem_wo];simp[b0]
     ·rw[mem_wo];simp[b1]
  ·have a0:a≠0:=fun z=>c (by rw[z];exact decide_eq_true rfl)
   refine q _ _ _ hx2 fr2 (z5p nF) (z5p nG) (fun j=>?_) (fun j=>?_)
   ·rw[mem_wo];simp[a0]
   ·rw[mem_wo];simp[a0]
end
theorem y5x:∀ (c:Nat) (lo:Int) (l:List Int),l.Nodup->(∀ x∈l,lo < x/\x<=lo+c)->l.length<=c
 | 0,lo,l,_,h=>by
  cases l with
  | nil=>simp
  | cons x r=>have:=h x List.mem_cons_self;omega
 | c+1,lo,l,nd,h=>by
  have hf:(l.filter fun x=>!decide (x=lo+(c:Int)+1)).length<=c:=by
   refine y5x c lo _ (nd.sublist List.filter_sublist) fun x hx=>?_
   obtain⟨h1,h2⟩:=List.mem_filter.mp hx
   have h3:=h x h1
   have h4:x≠lo+(c:Int)+1:=by simpa using h2
   omega
  by_cases e:lo+(c:Int)+1∈l
  ·have:=z7a nd e;omega
  ·have:(l.filter fun x=>!decide (x=lo+(c:Int)+1))=l:=List.filter_eq_self.mpr fun x hx=>by
    have:x≠lo+(c:Int)+1:=fun z=>e (z ▸ hx)
    simp[this]
   rw[this]at hf;omega
def addAt (xs:List Int) (ks:List Nat) (c:Int):List Int:=(List.range xs.length).map fun k=>xs.getD k 0+(if k∈ks then c else 0)
theorem z5o (xs:List Int) (ks:List Nat) (c:Int):(addAt xs ks c).length=xs.length:=by simp[addAt]
theorem z6m (xs:List Int) (c:Int):addAt xs [] c=xs:=by
 refine List.ext_getElem? fun k=>?_
 unfold addAt
 by_cases h:k < xs.length
 ·rw[List.getElem?_map,List.getElem?_range h];simp[h]
 ·rw[List.getElem?_eq_none (by simp;omega),List.getElem?_eq_none (by omega)]
theorem z3i {xs:List Int} {ks:List Nat} {c:Int} {k:Nat} (h:k < xs.length):(addAt xs ks c)[k]?=some (xs.getD k 0+(if k∈ks then c else 0)):=by
 unfold addAt
 rw[List.getElem?_map,List.getElem?_range h];rfl
theorem z9s {xs:List Int} {ks:List Nat} {c:Int} {k:Nat} (h:¬ k < xs.length):(addAt xs ks c)[k]?=none:=List.getElem?_eq_none (by rw[z5o];omega)
theorem y3p {xs:List Int} {ks:List Nat} {c:Int} {j k:Nat} (hk:ks[j]?=some k) (hn:¬ k∈ks.take j):(addAt xs (ks.take j) c).set k (xs.getD k 0+c)=addAt xs (ks.take (j+1)) c:=by
 unfold addAt
 rw[x3s]
 refine List.map_congr_left fun t _=>?_
 by_cases e:t=k
 ·subst e;rw[if_pos rfl,if_pos ((z3k hk t).mpr (.inr rfl))]
 ·rw[if_neg e]
  by_cases z:t∈ks.take j
  ·rw[if_pos z,if_pos ((z3k hk t).mpr (.inl z))]
  ·rw[if_neg z,if_neg (fun y=>((z3k hk t).mp y).elim z e)]
theorem y2k {xs:List Int} {ks:List Nat} {c:Int} {j k t:Nat} (hk:ks[j]?=some k) (ht:t≠k):(addAt xs (ks.take (j+1)) c)[t]?=(addAt xs (ks.take j) c)[t]?:=by
 by_cases h:t < xs.length
 ·rw[z3i h,z3i h]
  by_cases z:t∈ks.take j
  ·rw[if_pos z,if_pos ((z3k hk t).mpr (.inl z))]
  ·rw[if_neg z,if_neg (fun y=>((z3k hk t).mp y).elim z ht)]
 ·rw[z9s h,z9s h]
theorem FG.lenF {so left F G:List Int} (h:FG so left F G):F.length<=so.length:=by
 refine y5x so.length (-1) F h.fn fun j hj=>?_
 obtain⟨i,e,p,_⟩:=(h.f j).mp hj
 have:=(List.getElem?_eq_some_iff.mp p).1
 omega
theorem FG.lenG {so left F G:List Int} (h:FG so left F G):G.length<=so.length:=by
 refine y5x so.length (-1) G h.gn fun j hj=>?_
 obtain⟨i,e,p,_⟩:=(h.g j).mp hj
 have:=(List.getElem?_eq_some_iff.mp p).1
 omega
def y0p (C:Addr):Sp:=fun vs H Q _=>∃ (p:Addr) (x:Tly) (l c:Int),vs=[.ref p,.int l,.int c]/\(c=1∨c=-1)/\TyAt C H p x/\FG x.so x.left x.F x.G/\x.left.length=x.so.length/\x.so.length<=16700000/\(∀ y,∀ i∈ilook x.M y,i < x.so.length)/\(∀ y,(ilook x.M y).Nodup) /\
 ∀ (F' G':List Int) (H':Hp),TyAt C H' p { x with so:=addAt x.so (ilook x.M l) c,left:=addAt x.left (ilook x.M (-l)) (-c),F:=F',G:=G' }->Fr p x { x with so:=addAt x.so (ilook x.M l) c,left:=addAt x.left (ilook x.M (-l)) (-c),F:=F',G:=G' } H H' ->
  FG (addAt x.so (ilook x.M l) c) (addAt x.left (ilook x.M (-l)) (-c)) F' G'->Q .non H'
theorem x0s {p:Addr} {x:Tly}:foot p x x.aso:=.inr (.inr (.inr (.inr (.inr (.inl rfl)))))
theorem x0t {p:Addr} {x:Tly}:foot p x x.al:=.inr (.inr (.inr (.inr (.inr (.inr (.inl rfl))))))
theorem y3h {p:Addr} {x:Tly} {m:Mp} (h:m∈x.M):foot p x m.2.1:=.inr (.inr (.inr (.inr (.inr (.inr (.inr (.inr (.inr ⟨m,h,rfl⟩))))))))
theorem z3q {C:Addr} {H:Hp} {p:Addr} {x:Tly} (h:TyAt C H p x) {z:Addr} (hz:H z=none):¬ foot p x z:=by
 rintro (e | e | e | e | e | e | e | e | e | ⟨m,hm,e⟩)
 ·obtain⟨dx,ob⟩:=h.ob;rw[e,ob]at hz;cases hz
 ·rw[e,h.hw]at hz;cases hz
 ·rw[e,h.ht]at hz;cases hz
 ·rw[e,h.hd]at hz;cases hz
 ·rw[e,h.hp]at hz;cases hz
 ·rw[e,h.hs]at hz;cases hz
 ·rw[e,h.hl]at hz;cases hz
 ·rw[e,h.hf]at hz;cases hz
 ·rw[e,h.hg]at hz;cases hz
 ·rw[e,h.hM.ok m hm]at hz;cases hz
section
variable {P:Program} {w:World} {K:W.Frag} {mg:Str->Option Value} {base:Heap} {C:Addr}
theorem y1q (T:TallyCls K mg C) (m_sort_in:MCal P w K mg base 1 C "sort_in" z1h (y9l C)) (Df:MDef K C "count_letter" "Tally.count_letter" z1b z0y):MCal P w K mg base 2 C "count_letter" z0y (y0p C):=by
 refine Df.cal sc_Tally_count_letter (fun vs H Q E h=>?_) (fun f cdv A outer s H vs Q E hr h=>?_)
 ·obtain⟨p,x,l,c,rfl,_⟩:=h;rfl
 ·obtain⟨p,x,l,c,rfl,hc,hx,hFG,hll,hn,hlt,hnd,q⟩:=h
  have hu:=hu_of hr
  have cl:=T.cl
  refine⟨_,(z0b (z4c PassesOwn.never rfl (z1u (x0b hu (z1m (pv 0) rfl) (pv 1) (z0u z0d) ⟨rfl,rfl,rfl,rfl⟩)) (z1l (i:=3) sc_Tally_count_letter.nd rfl (Or.inl rfl))
 (z0b (x3v (z1m (pv 0) rfl) (pv 3) x0q (pv 2) x9c y9u)
 (z0e (ps_if (z0k op_le (pe_ix ix_list (z1m (pv 0) rfl) (pv 3) (fun _ _=>rfl)) z0i (z0p _))
 (z0e (z0r (z6d m_sort_in cl hr (by decide) (pv 0) (z0a (pv 3) z0d))))
 z0q))))
 (z0e (z4c PassesOwn.never rfl (z1u (x0b hu (z1m (pv 0) rfl) (pe_un z1c (pv 1)) (z0u z0d) ⟨rfl,rfl,rfl,rfl⟩)) (z1l (i:=3) sc_Tally_count_letter.nd rfl (Or.inl rfl))
 (z0b (x3v (z1m (pv 0) rfl) (pv 3) x0q (pv 2) w2g y9u)
 (z0e (ps_if (z0k op_le (pe_ix ix_list (z1m (pv 0) rfl) (pv 3) (fun _ _=>rfl)) z0i (z0p _))
 (z0e (z0r (z6d m_sort_in cl hr (by decide) (pv 0) (z0a (pv 3) z0d))))
 z0q)))))),?_⟩
  have noS:∀ y:Tly,(flds y).lookup ("sort_in" : Str)=none:=fun y=>fl_nx y (by decide +kernel)
  refine z7y (fun σ Hx=>∃ (F' G':List Int) (v:Option V),σ=[some (.ref p),some (.int l),some (.int c),v]/\TyAt C Hx p { x with so:=addAt x.so (ilook x.M l) c,F:=F',G:=G' }/\Fr p x { x with so:=addAt x.so (ilook x.M l) c,F:=F',G:=G' } H Hx/\FG (addAt x.so (ilook x.M l) c) x.left F' G') (fun N hN=>?_) ?_
  ·obtain⟨dx,ob⟩:=hx.ob
   refine⟨_,rfl,p,C,dx,_,_,rfl,ob,T.cl,T.n4,y2b x,x.ap,rfl,.inl ⟨_,.inl hx.hp⟩,_,rfl,by decide,fun pe hpe=>?_⟩
   obtain⟨o,ho,b,hb,hbb,eo⟩:=x0l l hx.hp hx.hM hpe
   have s1:Same H (upd H pe (.lst [])):=(smR H).upd hpe
   have hx1:=hx.same s1
   have hpe1:¬ foot p x pe:=z3q hx hpe
   generalize upd H pe (.lst [])=H1 at s1 hx1 ho hb
   have stay:∀ (y:Tly) (Hx:Hp),y.M=x.M->Fr p x y H1 Hx->TyAt C Hx p y->Hx b=some (.lst (iv (ilook x.M l))):=fun y Hx ey fr hy=>by
    rcases hbb with e | ⟨m,hm,e⟩
    ·exact fr.out b _ hb (by rw[e];exact hpe1)
    ·have h1:=hx1.hM.ok m hm
     have h2:=hy.hM.ok m (by rw[ey];exact hm)
     rw[e]at hb ⊢
     rw[h1]at hb
     rw[h2];exact hb
   refine⟨o,ho,b,eo,⟨_,qLo hb⟩,z6k (K:=K) (a:=b) (xs:=iv (ilook x.M l)) (fun j σ Hx=>∃ (F' G':List Int) (v:Option V),σ=[some (.ref p),some (.int l),some (.int c),v]/\TyAt C Hx p { x with so:=addAt x.so ((ilook x.M l).take j) c,F:=F',G:=G' }/\Fr p x { x with so:=addAt x.so ((ilook x.M l).take j) c,F:=F',G:=G' } H1 Hx/\FG (addAt x.so ((ilook x.M l).take j) c) x.left F' G')
    ⟨x.F,x.G,none,rfl,by rw[List.take_zero,z6m];exact hx1,by rw[List.take_zero,z6m];exact Fr.refl _ _ _,by rw[List.take_zero,z6m];exact hFG⟩ (fun j σ Hx _ hh=>by
    obtain⟨F',G',v,rfl,hy,fr,_⟩:=hh
    exact qLo (stay _ _ (by rfl) fr hy)) ?_ ?_⟩
   ·rintro j y σ Hx N2 B2 hj ⟨F',G',v,rfl,hy,fr,fg⟩ hN2
    obtain⟨k,hk,rfl⟩:=x9b hj
    have hkn:k < x.so.length:=hlt l k (List.mem_of_getElem? hk)
    have hnt:=y0a (hnd l) hk
    obtain⟨dy,oy⟩:=hy.ob
    have hget:((addAt x.so ((ilook x.M l).take j) c).map V.int)[k]?=some (.int (x.so.getD k 0)):=by
     rw[List.getElem?_map,z3i hkn,if_neg hnt];simp
    refine⟨_,rfl,p,C,dy,_,_,rfl,oy,T.cl,T.n5,fl_so _,_,rfl,x.aso,_,k,.int (x.so.getD k 0),rfl,rfl,qLo hy.hs,hget,_,rfl,_,_,rfl,rfl,x.aso,_,_,k,rfl,rfl,hy.hs,x5k (by simpa[z5o] using hkn),?_⟩
    have est:((addAt x.so ((ilook x.M l).take j) c).map V.int).set k (.int (x.so.getD k 0+c))=(addAt x.so ((ilook x.M l).take (j+1)) c).map V.int:=by
     rw[←y3p hk hnt,List.map_set]
    dsimp only
    rw[est]
    have hy2:=hy.setS (addAt x.so ((ilook x.M l).take (j+1)) c)
    have fr2:Fr p x { x with so:=addAt x.so ((ilook x.M l).take (j+1)) c,F:=F',G:=G' } H1 (upd Hx x.aso (.lst ((addAt x.so ((ilook x.M l).take (j+1)) c).map V.int))):=fr.trans (z5q x0s fun _ h=>.inl h)
    generalize upd Hx x.aso (.lst ((addAt x.so ((ilook x.M l).take (j+1)) c).map V.int))=H2 at hy2 fr2
    obtain⟨dz,oz⟩:=hy2.ob
    have hlk:x.left[k]?=some (x.left.getD k 0):=by
     have:k < x.left.length:=by omega
     simp[this]
    have hlat:atI (x.left.map V.int) (k:Int)=some (.int (x.left.getD k 0)):=z4f (by rw[List.getElem?_map,hlk];rfl)
    have hs':∀ t,t≠k->(addAt x.so ((ilook x.M l).take (j+1)) c)[t]?=(addAt x.so ((ilook x.M l).take j) c)[t]?:=fun t ht=>y2k hk ht
    refine⟨_,rfl,p,C,dz,_,_,rfl,oz,T.cl,T.n6,z9p _,_,rfl,x.al,_,_,_,rfl,rfl,qLo hy2.hl,hlat,_,_,rfl,rfl,_,rfl,ite2 (fun c1=>?_) (fun c1=>?_)⟩
    ·refine⟨_,rfl,p,dz,_,rfl,oz,noS _,_,rfl,p,_,k,_,_,rfl,hy2,z3i hkn,hlk,by have:=fg.lenF;rw[z5o]at this;show F'.length<=_;omega,by have:=fg.lenG;rw[z5o]at this;show G'.length<=_;omega,fg.fn,fg.gn,fun F2 G2 H3 hy3 fr3 n1 n2 mF mG=>?_⟩
     refine hN2 _ _ ⟨F2,G2,_,rfl,hy3,fr2.trans fr3,fg.sort hs' (fun _ _=>rfl) n1 n2 (fun i=>?_) (fun i=>?_)⟩
     ·rw[mF,z3i hkn,hlk];simp
     ·rw[mG,z3i hkn,hlk];simp
    ·have c1':¬ x.left.getD k 0<=2:=fun z=>c1 (decide_eq_true z)
     exact hN2 _ _ ⟨F',G',_,rfl,hy2,fr2,fg.skip hs' (fun _ _=>rfl) (fun z hz=>by rw[hlk]at hz;cases hz;omega) (fun z hz=>by rw[hlk]at hz;cases hz;omega)⟩
   ·rintro σ Hx ⟨F',G',v,rfl,hy,fr,fg⟩
    have el:(ilook x.M l).take (iv (ilook x.M l)).length=ilook x.M l:=by simp[iv]
    rw[el]at hy fr fg
    exact hN _ _ ⟨F',G',v,rfl,hy,(Fr.same s1).trans fr,fg⟩
  rintro σ H1 ⟨F1,G1,v1,rfl,hy1,fr1,fg1⟩
  obtain⟨dx,ob⟩:=hy1.ob
  refine⟨_,rfl,p,C,dx,_,_,rfl,ob,T.cl,T.n4,y2b _,x.ap,rfl,.inl ⟨_,.inl hy1.hp⟩,_,rfl,_,rfl,by decide,fun pe hpe=>?_⟩
  obtain⟨o,ho,b,hb,hbb,eo⟩:=x0l (-l) hy1.hp hy1.hM hpe
  have s1:Same H1 (upd H1 pe (.lst [])):=(smR H1).upd hpe
  have hx1:=hy1.same s1
  have hpe1:=z3q hy1 hpe
  generalize upd H1 pe (.lst [])=H2 at s1 hx1 ho hb
  have stay:∀ (y:Tly) (Hx:Hp),y.M=x.M->Fr p { x with so:=addAt x.so (ilook x.M l) c,F:=F1,G:=G1 } y H2 Hx->TyAt C Hx p y->Hx b=some (.lst (iv (ilook x.M (-l)))):=fun y Hx ey fr hy=>by
   rcases hbb with e | ⟨m,hm,e⟩
   ·exact fr.out b _ hb (by rw[e];exact hpe1)
   ·have h1:=hx1.hM.ok m hm
    have h2:=hy.hM.ok m (by rw[ey];exact hm)
    rw[e]at hb ⊢
    rw[h1]at hb
    rw[h2];exact hb
  refine⟨o,ho,b,eo,⟨_,qLo hb⟩,z6k (K:=K) (a:=b) (xs:=iv (ilook x.M (-l))) (fun j σ Hx=>∃ (F' G':List Int) (v:Option V),σ=[some (.ref p),some (.int l),some (.int c),v]/\TyAt C Hx p { x with so:=addAt x.so (ilook x.M l) c,left:=addAt x.left ((ilook x.M (-l)).take j) (-c),F:=F',G:=G' }/\Fr p { x with so:=addAt x.so (ilook x.M l) c,F:=F1,G:=G1 } { x with so:=addAt x.so (ilook x.M l) c,left:=addAt x.left ((ilook x.M (-l)).take j) (-c),F:=F',G:=G' } H2 Hx/\FG (addAt x.so (ilook x.M l) c) (addAt x.left ((ilook x.M (-l)).take j) (-c)) F' G')
   ⟨F1,G1,v1,rfl,by rw[List.take_zero,z6m];exact hx1,by rw[List.take_zero,z6m];exact Fr.refl _ _ _,by rw[List.take_zero,z6m];exact fg1⟩ (fun j σ Hx _ hh=>by
    obtain⟨F',G',v,rfl,hy,fr,_⟩:=hh
    exact qLo (stay _ _ (by rfl) fr hy)) ?_ ?_⟩
  ·rintro j y σ Hx N2 B2 hj ⟨F',G',v,rfl,hy,fr,fg⟩ hN2
   obtain⟨k,hk,rfl⟩:=x9b hj
   have hkn:k < x.so.length:=hlt (-l) k (List.mem_of_getElem? hk)
   have hkl:k < x.left.length:=by omega
   have hnt:=y0a (hnd (-l)) hk
   obtain⟨dy,oy⟩:=hy.ob
   have hget:((addAt x.left ((ilook x.M (-l)).take j) (-c)).map V.int)[k]?=some (.int (x.left.getD k 0)):=by
    rw[List.getElem?_map,z3i hkl,if_neg hnt];simp
   refine⟨_,rfl,p,C,dy,_,_,rfl,oy,T.cl,T.n6,z9p _,_,rfl,x.al,_,k,.int (x.left.getD k 0),rfl,rfl,qLo hy.hl,hget,_,rfl,_,_,rfl,rfl,x.al,_,_,k,rfl,rfl,hy.hl,x5k (by simpa[z5o] using hkl),?_⟩
   have est:((addAt x.left ((ilook x.M (-l)).take j) (-c)).map V.int).set k (.int (x.left.getD k 0 - c))=(addAt x.left ((ilook x.M (-l)).take (j+1)) (-c)).map V.int:=by
    rw[←y3p hk hnt,List.map_set,Int.sub_eq_add_neg]
   dsimp only
   rw[est]
   have hy2:=hy.setL (addAt x.left ((ilook x.M (-l)).take (j+1)) (-c))
   have fr2:Fr p { x with so:=addAt x.so (ilook x.M l) c,F:=F1,G:=G1 } { x with so:=addAt x.so (ilook x.M l) c,left:=addAt x.left ((ilook x.M (-l)).take (j+1)) (-c),F:=F',G:=G' } H2 (upd Hx x.al (.lst ((addAt x.left ((ilook x.M (-l)).take (j+1)) (-c)).map V.int))):=fr.trans (z5q x0t fun _ h=>.inl h)
   generalize upd Hx x.al (.lst ((addAt x.left ((ilook x.M (-l)).take (j+1)) (-c)).map V.int))=H3 at hy2 fr2
   obtain⟨dz,oz⟩:=hy2.ob
   have hmk:k∈(ilook x.M (-l)).take (j+1):=(z3k hk k).mpr (.inr rfl)
   have hlk:(addAt x.left ((ilook x.M (-l)).take (j+1)) (-c))[k]?=some (x.left.getD k 0+-c):=by rw[z3i hkl,if_pos hmk]
   have hlo:(addAt x.left ((ilook x.M (-l)).take j) (-c))[k]?=some (x.left.getD k 0):=by rw[z3i hkl,if_neg hnt];simp
   have hlat:atI ((addAt x.left ((ilook x.M (-l)).take (j+1)) (-c)).map V.int) (k:Int)=some (.int (x.left.getD k 0+-c)):=z4f (by rw[List.getElem?_map,hlk];rfl)
   have hl':∀ t,t≠k->(addAt x.left ((ilook x.M (-l)).take (j+1)) (-c))[t]?=(addAt x.left ((ilook x.M (-l)).take j) (-c))[t]?:=fun t ht=>y2k hk ht
   have hso:=z3i (xs:=x.so) (ks:=ilook x.M l) (c:=c) hkn
   refine⟨_,rfl,p,C,dz,_,_,rfl,oz,T.cl,T.n6,z9p _,_,rfl,x.al,_,_,_,rfl,rfl,qLo hy2.hl,hlat,_,_,rfl,rfl,_,rfl,ite2 (fun c1=>?_) (fun c1=>?_)⟩
   ·refine⟨_,rfl,p,dz,_,rfl,oz,noS _,_,rfl,p,_,k,_,_,rfl,hy2,hso,hlk,by have:=fg.lenF;rw[z5o]at this;show F'.length<=_;omega,by have:=fg.lenG;rw[z5o]at this;show G'.length<=_;omega,fg.fn,fg.gn,fun F2 G2 H4 hy3 fr3 n1 n2 mF mG=>?_⟩
    refine hN2 _ _ ⟨F2,G2,_,rfl,hy3,fr2.trans fr3,fg.sort (fun _ _=>rfl) hl' n1 n2 (fun i=>?_) (fun i=>?_)⟩
    ·rw[mF,hso,hlk];simp
    ·rw[mG,hso,hlk];simp
   ·have c1':¬ x.left.getD k 0+-c<=2:=fun z=>c1 (decide_eq_true z)
    exact hN2 _ _ ⟨F',G',_,rfl,hy2,fr2,fg.skip (fun _ _=>rfl) hl' (fun z hz=>by rw[hlo]at hz;cases hz;omega) (fun z hz=>by rw[hlk]at hz;cases hz;omega)⟩
  ·rintro σ Hx ⟨F',G',v,rfl,hy,fr,fg⟩
   have el:(ilook x.M (-l)).take (iv (ilook x.M (-l))).length=ilook x.M (-l):=by simp[iv]
   rw[el]at hy fr fg
   exact q F' G' Hx hy ((fr1.trans (Fr.same s1)).trans fr) fg
end
theorem x5o (W:List (List Int)) (n:Int):(idxs W n).Nodup:=List.nodup_range.sublist List.filter_sublist
theorem in_idxs {W:List (List Int)} {n:Int} {i:Nat}:i∈idxs W n↔i < W.length/\n∈W.getD i []:=by
 unfold idxs;simp
theorem z9f {W:List (List Int)} {f g:List Int->Int} {l c:Int} (h:∀ v,g v=f v+if l∈v then c else 0):addAt (W.map f) (idxs W l) c=W.map g:=by
 refine List.ext_getElem? fun k=>?_
 by_cases hk:k < W.length
 ·rw[z3i (by simpa using hk),List.getElem?_map]
  have e1:(W.map f).getD k 0=f (W.getD k []):=by simp[hk]
  have e2:W[k]?=some (W.getD k []):=by simp[hk]
  rw[e1,e2,Option.map_some,h (W.getD k [])]
  congr 2
  by_cases z:l∈W.getD k []
  ·rw[if_pos z,if_pos (in_idxs.mpr ⟨hk,z⟩)]
  ·rw[if_neg z,if_neg (fun y=>z (in_idxs.mp y).2)]
 ·rw[z9s (by simpa using hk),List.getElem?_eq_none (by simpa using hk)]
def Dis (T:List Int):Prop:=∀ (k:Nat) (l:Int),T[k]?=some l->¬ l∈T.take k/\¬ -l∈T.take k
theorem Dis.snoc {T:List Int} {l:Int} (h:Dis T) (h1:¬ l∈T) (h2:¬ -l∈T):Dis (T++[l]):=by
 intro k x hk
 by_cases e:k < T.length
 ·rw[List.getElem?_append_left e]at hk
  rw[List.take_append_of_le_length (by omega)]
  exact h k x hk
 ·have hk2:k=T.length:=by
   have:=(List.getElem?_eq_some_iff.mp hk).1
   simp at this;omega
  subst hk2
  have:x=l:=by simpa using hk.symm
  rw[this,List.take_left]
  exact⟨h1,h2⟩
theorem Dis.init {T:List Int} {l:Int} (h:Dis (T++[l])):Dis T/\¬ l∈T/\¬ -l∈T:=by
 refine⟨fun k x hk=>?_,?_⟩
 ·have hl:=(List.getElem?_eq_some_iff.mp hk).1
  have:=h k x (by rw[List.getElem?_append_left hl];exact hk)
  rw[List.take_append_of_le_length (by omega)]at this
  exact this
 ·have:=h T.length l (by simp)
  rw[List.take_left]at this
  exact this
structure Tal (C:Addr) (H:Hp) (p:Addr) (x:Tly):Prop where
 ty:TyAt C H p x
 T:x.T=lets x.qs
 pl:∀ y,ilook x.M y=idxs (wl x.ws) y
 so:x.so=(wl x.ws).map fun v=>(soN v x.T:Int)
 lf:x.left=(wl x.ws).map fun v=>(leftN v x.T:Int)
 fg:FG x.so x.left x.F x.G
 dis:Dis x.T
 ne:∀ m∈x.M,m.2.2≠[]
theorem Tal.same {C:Addr} {H H':Hp} {p:Addr} {x:Tly} (h:Tal C H p x) (s:Same H H'):Tal C H' p x:=⟨h.ty.same s,h.T,h.pl,h.so,h.lf,h.fg,h.dis,h.ne⟩
theorem Tal.lens {C:Addr} {H:Hp} {p:Addr} {x:Tly} (h:Tal C H p x):x.so.length=x.ws.length/\x.left.length=x.ws.length:=by
 rw[h.so,h.lf];simp[wl]
def spPut (C:Addr):Sp:=fun vs H Q _=>∃ (p:Addr) (x:Tly) (l:Int) (o:Option Int),vs=[.ref p,.int l,wv o]/\Tal C H p x/\¬ l∈x.T/\¬ -l∈x.T/\x.ws.length<=16700000/\x.qs.length < 16700000 /\
 ∀ (pt:Addr) (x':Tly) (H':Hp),Tal C H' p x'->Fr p x x' H H'->x'.ws=x.ws->x'.qs=x.qs++[(pt,l,o)]->x'.at_=x.at_->x'.M=x.M->Q .non H'
theorem x5v {p:Addr} {x:Tly}:foot p x x.ad:=.inr (.inr (.inr (.inl rfl)))
theorem x0r {p:Addr} {x:Tly}:foot p x x.at_:=.inr (.inr (.inl rfl))
section
variable {P:Program} {w:World} {K:W.Frag} {mg:Str->Option Value} {base:Heap} {C:Addr}
theorem w1r (T:TallyCls K mg C) (m_count_letter:MCal P w K mg base 2 C "count_letter" z0y (y0p C)) (Df:MDef K C "put" "Tally.put" z3c z2i):MCal P w K mg base 3 C "put" z2i (spPut C):=by
 refine Df.cal y5s (fun vs H Q E h=>?_) (fun f cdv A outer s H vs Q E hr h=>?_)
 ·obtain⟨p,x,l,o,rfl,_⟩:=h;rfl
 ·obtain⟨p,x,l,o,rfl,hx,hl,hnl,hz,hq,q⟩:=h
  have hu:=hu_of hr
  have cl:=T.cl
  refine⟨_,(z0b (z0r (pe_bm PySem.F.plainAttrs_list PySem.F.slot_list_append PySem.F.type_list_append z0z (z1m (pv 0) rfl) (z0a (z2m (z0a (pv 1) (z0a (pv 2) z0d))) z0d)))
 (z0b (y4h hu (z1m (pv 0) rfl) (pv 1) pe_bl rfl)
 (z0e (z0r (z6d m_count_letter cl hr (by decide) (pv 0) (z0a (pv 1) (z0a z0i z0d))))))),?_⟩
  obtain⟨dx,ob⟩:=hx.ty.ob
  have hTl:x.T.length < 16700000:=by rw[hx.T];simpa[lets] using hq
  refine⟨_,rfl,p,C,dx,_,_,rfl,ob,T.cl,T.n2,z7r x,.inl ⟨rfl,_,qLo hx.ty.ht⟩,_,rfl,_,rfl,len2,fun pt hpt=>⟨x.at_,_,_,rfl,rfl,by rw[z0g (z0h hx.ty.ht hpt)];exact hx.ty.ht,z1r (by rw[z7m];omega),?_⟩⟩
  have s1:Same H (upd H pt (.tup [.int l,wv o])):=(smR H).upd hpt
  have h1:=hx.ty.same s1
  have hp1:upd H pt (.tup [.int l,wv o]) pt=some (.tup [.int l,wv o]):=z0c
  have fr1:Fr p x x H (upd H pt (.tup [.int l,wv o])):=Fr.same s1
  generalize upd H pt (.tup [.int l,wv o])=H1 at s1 h1 hp1 fr1
  have er:refs x.qs++[V.ref pt]=refs (x.qs++[(pt,l,o)]):=by simp[refs]
  dsimp only
  rw[er]
  have h2:=h1.setQ (qs':=x.qs++[(pt,l,o)]) (h1.to.snoc hp1)
  have fr2:Fr p x { x with qs:=x.qs++[(pt,l,o)] } H (upd H1 x.at_ (.lst (refs (x.qs++[(pt,l,o)])))):=fr1.trans (z5q x0r fun _ h=>.inl h)
  generalize upd H1 x.at_ (.lst (refs (x.qs++[(pt,l,o)])))=H2 at h2 fr2
  obtain⟨dy,oy⟩:=h2.ob
  refine⟨_,rfl,p,C,dy,_,_,rfl,oy,T.cl,T.n3,z5a _,_,rfl,x.ad,_,rfl,DPut.k (k:=Sum.inl l) h2.hd (z1r (by rw[x0j];show x.T.length<=_;omega)),?_⟩
  rw[y9y]
  have eT:onceF x.T l=x.T++[l]:=by unfold onceF;rw[if_neg hl]
  have eT':onceF ({ x with qs:=x.qs++[(pt,l,o)] }:Tly).T l=x.T++[l]:=eT
  rw[eT']
  have h3:=h2.setT (x.T++[l])
  have fr3:Fr p x { x with qs:=x.qs++[(pt,l,o)],T:=x.T++[l] } H (upd H2 x.ad (.dK (mk (x.T++[l])))):=fr2.trans (z5q x5v fun _ h=>.inl h)
  generalize upd H2 x.ad (.dK (mk (x.T++[l])))=H3 at h3 fr3
  obtain⟨dz,oz⟩:=h3.ob
  have noC:(flds { x with qs:=x.qs++[(pt,l,o)],T:=x.T++[l] }).lookup ("count_letter" : Str)=none:=fl_nx _ (by decide +kernel)
  obtain⟨e1,e2⟩:=hx.lens
  have eso:addAt x.so (idxs (wl x.ws) l) 1=(wl x.ws).map fun v=>(soN v (x.T++[l]):Int):=by
   rw[hx.so]
   refine z9f fun v=>?_
   rw[y9t hl]
   split<;>simp
  have elf:addAt x.left (idxs (wl x.ws) (-l)) (-1)=(wl x.ws).map fun v=>(leftN v (x.T++[l]):Int):=by
   rw[hx.lf]
   refine z9f fun v=>?_
   have:=y3d (v:=v) (T:=x.T) (x:=l) hl
   split<;>simp_all<;>omega
  refine⟨_,rfl,p,dz,_,rfl,oz,noC,_,rfl,p,_,l,1,rfl,.inl rfl,h3,hx.fg,by show x.left.length=x.so.length;omega,by show x.so.length<=_;omega,fun y i hi=>?_,fun y=>?_,fun F' G' H' h4 fr4 fg4=>?_⟩
  ·have hi':i∈ilook x.M y:=hi
   rw[hx.pl y]at hi'
   have:=(in_idxs.mp hi').1
   rw[z4a]at this
   show i < x.so.length
   omega
  ·show (ilook x.M y).Nodup
   rw[hx.pl y];exact x5o _ _
  ·refine q pt _ H' ⟨h4,?_,hx.pl,?_,?_,fg4,hx.dis.snoc hl hnl,hx.ne⟩ (fr3.trans fr4) rfl rfl rfl rfl
   ·show x.T++[l]=lets (x.qs++[(pt,l,o)])
    rw[hx.T];simp[lets]
   ·show addAt x.so (ilook x.M l) 1=_
    rw[hx.pl l];exact eso
   ·show addAt x.left (ilook x.M (-l)) (-1)=_
    rw[hx.pl (-l)];exact elf
end
theorem x5n (W:List (List Int)) (v:List Int) (y:Int):idxs (W++[v]) y=idxs W y++(if y∈v then [W.length] else []):=by
 have h:(W++[v])[W.length]?=some v:=by simp
 have:=x5m h y
 rw[List.take_left,show (W++[v]).take (W.length+1)=W++[v] by rw[List.take_of_length_le (by simp)]]at this
 exact this
section
variable {C:Addr} {H:Hp} {p:Addr} {x:Tly} (h:TyAt C H p x)
include h
theorem TyAt.setW {ws':List Wr} (ho:WsOk H ws') (hn:∀ r∈ws',r.1≠x.aw/\r.1≠x.at_/\r.1≠x.aso/\r.1≠x.al/\∀ m∈x.M,r.1≠m.2.1):TyAt C (upd H x.aw (.lst (wrefs ws'))) p { x with ws:=ws' }:=by
 have k1:∀ {z:Addr} {kvs:List (Key × V)},H z=some (.dK kvs)->upd H x.aw (.lst (wrefs ws')) z=some (.dK kvs):=fun {z vs} e=>by rw[z0g (ne_of e h.hw (by intro q;cases q))];exact e
 have k2:∀ {z:Addr} {o:HO},z≠x.aw->H z=some o->upd H x.aw (.lst (wrefs ws')) z=some o:=fun n e=>by rw[z0g n];exact e
 obtain⟨dx,e⟩:=h.ob
 exact⟨⟨dx,k2 (h.p_ne h.hw (by intro a b c q;cases q)) e⟩,z0c,k2 h.nl.1.symm h.ht,k1 h.hd,k1 h.hp,h.hM.mono fun m hm=>by rw[k2 (h.nm m hm).1 (h.hM.ok m hm),h.hM.ok m hm],k2 h.nl.2.1.symm h.hs,k2 h.nl.2.2.1.symm h.hl,k1 h.hf,k1 h.hg,fun r hr=>k2 (hn r hr).1 (ho r hr),fun q hq=>k2 (h.t_ne h.hw (by intro a q;cases q) q hq) (h.to q hq),h.nl,h.nd,h.nm,hn⟩
theorem TyAt.addMp {n:Int} {i:Nat} {m:Mp} (hm:lookM x.M n=some m):TyAt C (upd H m.2.1 (.lst (iv m.2.2++[.int i]))) p { x with M:=addM x.M n i }:=by
 obtain⟨hm1,hm2⟩:=z4m hm
 have hmm:=h.hM.ok m hm1
 have k1:∀ {z:Addr} {kvs:List (Key × V)},H z=some (.dK kvs)->upd H m.2.1 (.lst (iv m.2.2++[.int i])) z=some (.dK kvs):=fun {z vs} e=>by rw[z0g (ne_of e hmm (by intro q;cases q))];exact e
 have k2:∀ {z:Addr} {o:HO},z≠m.2.1->H z=some o->upd H m.2.1 (.lst (iv m.2.2++[.int i])) z=some o:=fun n e=>by rw[z0g n];exact e
 obtain⟨n1,n2,n3,n4⟩:=h.nm m hm1
 have back:∀ m'∈addM x.M n i,∃ m0∈x.M,m'.2.1=m0.2.1:=fun m' hm'=>by
  obtain⟨m0,h0,rfl⟩:=List.mem_map.mp hm'
  exact⟨m0,h0,by split<;>rfl⟩
 obtain⟨dx,e⟩:=h.ob
 refine⟨⟨dx,k2 (h.p_ne hmm (by intro a b c q;cases q)) e⟩,k2 n1.symm h.hw,k2 n2.symm h.ht,k1 h.hd,?_,h.hM.add hm,k2 n3.symm h.hs,k2 n4.symm h.hl,k1 h.hf,k1 h.hg,fun r hr=>k2 ((h.nw r hr).2.2.2.2 m hm1) (h.wo r hr),fun q hq=>k2 (h.t_ne hmm (by intro a q;cases q) q hq) (h.to q hq),h.nl,h.nd,fun m' hm'=>?_,fun r hr=>?_⟩
 ·show upd H m.2.1 _ x.ap=some (.dK (mkvs (addM x.M n i)))
  rw[x8n];exact k1 h.hp
 ·obtain⟨m0,h0,e0⟩:=back m' hm'
  rw[e0];exact h.nm m0 h0
 ·obtain⟨a1,a2,a3,a4,a5⟩:=h.nw r hr
  refine⟨a1,a2,a3,a4,fun m' hm'=>?_⟩
  obtain⟨m0,h0,e0⟩:=back m' hm'
  rw[e0];exact a5 m0 h0
theorem TyAt.addFr {n:Int} {i:Nat} {m:Mp} {o:HO} (hm:lookM x.M n=some m):Fr p x { x with M:=addM x.M n i } H (upd H m.2.1 o):=by
 obtain⟨hm1,hm2⟩:=z4m hm
 refine z5q (y3h hm1) fun b hb=>.inl ?_
 rcases hb with e | e | e | e | e | e | e | e | e | ⟨m',hm',e⟩
 ·exact .inl e
 ·exact .inr (.inl e)
 ·exact .inr (.inr (.inl e))
 ·exact .inr (.inr (.inr (.inl e)))
 ·exact .inr (.inr (.inr (.inr (.inl e))))
 ·exact .inr (.inr (.inr (.inr (.inr (.inl e)))))
 ·exact .inr (.inr (.inr (.inr (.inr (.inr (.inl e))))))
 ·exact .inr (.inr (.inr (.inr (.inr (.inr (.inr (.inl e)))))))
 ·exact .inr (.inr (.inr (.inr (.inr (.inr (.inr (.inr (.inl e))))))))
 ·obtain⟨m0,h0,rfl⟩:=List.mem_map.mp hm'
  have e0:(if m0.1=n then (m0.1,m0.2.1,m0.2.2++[i]) else m0:Mp).2.1=m0.2.1:=by split<;>rfl
  rw[e,e0];exact y3h h0
theorem TyAt.newMp {n:Int} {i:Nat} {pe:Addr} (hm:lookM x.M n=none) (hpe:H pe=none):TyAt C (upd (upd (upd H pe (.lst [])) x.ap (.dK (mkvs x.M++[((Sum.inl n:Key),V.ref pe)]))) pe (.lst ([]++[.int i]))) p { x with M:=x.M++[(n,pe,[i])] }:=by
 have k:∀ {z:Addr} {o:HO},z≠x.ap->H z=some o->upd (upd (upd H pe (.lst [])) x.ap (.dK (mkvs x.M++[((Sum.inl n:Key),V.ref pe)]))) pe (.lst ([]++[.int i])) z=some o:=fun {z o} nz e=>by
  have n1:z≠pe:=z0h e hpe
  rw[z0g n1,z0g nz,z0g n1];exact e
 have kl:∀ {z:Addr} {vs:List V},H z=some (.lst vs)->z≠x.ap:=fun {z vs} e=>ne_of e h.hp (by intro q;cases q)
 have ne:∀ {z:Addr} {o:HO},H z=some o->z≠pe:=fun e=>z0h e hpe
 have nap:x.ap≠pe:=ne h.hp
 obtain⟨dx,e⟩:=h.ob
 refine⟨⟨dx,k (h.p_ne h.hp (by intro a b c q;cases q)) e⟩,k (kl h.hw) h.hw,k (kl h.ht) h.ht,k h.nd.1 h.hd,?_,?_,k (kl h.hs) h.hs,k (kl h.hl) h.hl,k h.nd.2.2.2.1.symm h.hf,k h.nd.2.2.2.2.1.symm h.hg,fun r hr=>k (kl (h.wo r hr)) (h.wo r hr),fun q hq=>k (h.t_ne h.hp (by intro a q;cases q) q hq) (h.to q hq),h.nl,h.nd,fun m' hm'=>?_,fun r hr=>?_⟩
 ·rw[z0g nap,z0c];simp[mkvs]
 ·exact MIs.new h.hM hm (fun m hm=>ne (h.hM.ok m hm)) (fun m hm=>by rw[k (kl (h.hM.ok m hm)) (h.hM.ok m hm),h.hM.ok m hm]) (by rw[z0c];rfl)
 ·rcases mApp hm' with z | z
  ·exact h.nm m' z
  ·have:m'=(n,pe,[i]):=by simpa using z
   rw[this];exact⟨(ne h.hw).symm,(ne h.ht).symm,(ne h.hs).symm,(ne h.hl).symm⟩
 ·obtain⟨a1,a2,a3,a4,a5⟩:=h.nw r hr
  refine⟨a1,a2,a3,a4,fun m' hm'=>?_⟩
  rcases mApp hm' with z | z
  ·exact a5 m' z
  ·have:m'=(n,pe,[i]):=by simpa using z
   rw[this];exact ne (h.wo r hr)
theorem TyAt.newFr {n:Int} {i:Nat} {pe:Addr} {o1 o2 o3:HO} (hpe:H pe=none):Fr p x { x with M:=x.M++[(n,pe,[i])] } H (upd (upd (upd H pe o1) x.ap o2) pe o3):=by
 refine⟨fun b o hb hf=>?_,fun b hb=>?_⟩
 ·have n1:b≠pe:=z0h hb hpe
  have n2:b≠x.ap:=fun z=>hf (.inr (.inr (.inr (.inr (.inl z)))))
  rw[z0g n1,z0g n2,z0g n1];exact hb
 ·rcases hb with e | e | e | e | e | e | e | e | e | ⟨m',hm',e⟩
  ·exact .inl (.inl e)
  ·exact .inl (.inr (.inl e))
  ·exact .inl (.inr (.inr (.inl e)))
  ·exact .inl (.inr (.inr (.inr (.inl e))))
  ·exact .inl (.inr (.inr (.inr (.inr (.inl e)))))
  ·exact .inl (.inr (.inr (.inr (.inr (.inr (.inl e))))))
  ·exact .inl (.inr (.inr (.inr (.inr (.inr (.inr (.inl e)))))))
  ·exact .inl (.inr (.inr (.inr (.inr (.inr (.inr (.inr (.inl e))))))))
  ·exact .inl (.inr (.inr (.inr (.inr (.inr (.inr (.inr (.inr (.inl e)))))))))
  ·rcases mApp hm' with z | z
   ·exact .inl (by rw[e];exact y3h z)
   ·have:m'=(n,pe,[i]):=by simpa using z
    exact .inr (by rw[e,this];exact hpe)
end
def y9n (C:Addr):Sp:=fun vs H Q _=>∃ (p a:Addr) (x:Tly) (v:List Int),vs=[.ref p,.ref a]/\Tal C H p x/\H a=some (.lst (v.map V.int))/\¬ foot p x a/\v.length<=100000/\x.ws.length < 16700000/\x.M.length+v.length<=100000 /\
 ∀ (x':Tly) (H':Hp),Tal C H' p x'->Fr p x x' H H'->x'.ws=x.ws++[(a,v)]->x'.qs=x.qs->x'.at_=x.at_->x'.M.length<=x.M.length+v.length->Q .non H'
theorem rd_cb {r:List V->Hp->VK->Prop} {t:TA} {σ:L2.St} {H:Hp} {Q:VK} (h:t σ H fun vs H1=>r vs H1 Q):tCB r t σ H Q:=h
theorem x8d {p:Addr} {x:Tly} {M M':List Mp} {b:Addr} (h:foot p { x with M:=M' } b) (hs:∀ m'∈M',∃ m0∈M,m'.2.1=m0.2.1):foot p { x with M:=M } b:=by
 rcases h with e | e | e | e | e | e | e | e | e | ⟨m',hm',e⟩
 ·exact .inl e
 ·exact .inr (.inl e)
 ·exact .inr (.inr (.inl e))
 ·exact .inr (.inr (.inr (.inl e)))
 ·exact .inr (.inr (.inr (.inr (.inl e))))
 ·exact .inr (.inr (.inr (.inr (.inr (.inl e)))))
 ·exact .inr (.inr (.inr (.inr (.inr (.inr (.inl e))))))
 ·exact .inr (.inr (.inr (.inr (.inr (.inr (.inr (.inl e)))))))
 ·exact .inr (.inr (.inr (.inr (.inr (.inr (.inr (.inr (.inl e))))))))
 ·obtain⟨m0,h0,e0⟩:=hs m' hm'
  exact .inr (.inr (.inr (.inr (.inr (.inr (.inr (.inr (.inr ⟨m0,h0,by rw[e,e0]⟩))))))))
theorem x5u {p:Addr} {x:Tly}:foot p x x.aw:=.inr (.inl rfl)
section
variable {P:Program} {w:World} {K:W.Frag} {mg:Str->Option Value} {base:Heap} {C:Addr}
theorem y8l (B:Blt mg) (T:TallyCls K mg C) (m_sort_in:MCal P w K mg base 1 C "sort_in" z1h (y9l C)) (c_each_once:Cal P w K mg base 2 "each_once" z3g (y9q K)) (Df:MDef K C "put_wish" "Tally.put_wish" z1j z1f):MCal P w K mg base 3 C "put_wish" z1f (y9n C):=by
 refine Df.cal sc_Tally_put_wish (fun vs H Q E h=>?_) (fun f cdv A outer s H vs Q E hr h=>?_)
 ·obtain⟨p,a,x,v,rfl,_⟩:=h;rfl
 ·obtain⟨p,a,x,v,rfl,hx,ha,hna,hv,hz,hMz,q⟩:=h
  have hu:=hu_of hr
  have cl:=T.cl
  refine⟨_,(z0b (z0n (i:=2) sc_Tally_put_wish.nd rfl (Or.inl rfl) (z0t z0v (by rfl) B.len_ PySem.boot_len (z0a (z1m (pv 0) rfl) z0d)))
 (z0b (z0n (i:=3) sc_Tally_put_wish.nd rfl (Or.inl rfl) (z1d c_each_once hr (by decide) (z0a (pv 1) z0d)))
 (z0b (z0r (pe_bm PySem.F.plainAttrs_list PySem.F.slot_list_append PySem.F.type_list_append z0z (z1m (pv 0) rfl) (z0a (pv 1) z0d)))
 (z0b (z0r (pe_bm PySem.F.plainAttrs_list PySem.F.slot_list_append PySem.F.type_list_append z0z (z1m (pv 0) rfl) (z0a (z0t z0v (by rfl) B.len_ PySem.boot_len (z0a (z6s (fvn:=["self"]) (js:=[0]) rfl (z1u (pv 3)) (.cons rfl (by first | exact .inl rfl | exact .inr rfl) rfl .nil) ⟨by decide +kernel,rfl,by decide +kernel,rfl,by decide +kernel,by decide +kernel⟩ (fun _ _ _ _ _=>(z7d (z8n (x0c hu (pv 0) (y8f (K:=K) rfl (pv 1) rfl))))) (fun _ _ _ _ _=>(pv 0))) z0d)) z0d)))
 (z0b (z0r (pe_bm PySem.F.plainAttrs_list PySem.F.slot_list_append PySem.F.type_list_append z0z (z1m (pv 0) rfl) (z0a (z0t z0v (by rfl) B.len_ PySem.boot_len (z0a (z6s (fvn:=["self"]) (js:=[0]) rfl (z1u (pv 3)) (.cons rfl (by first | exact .inl rfl | exact .inr rfl) rfl .nil) ⟨by decide +kernel,rfl,by decide +kernel,rfl,by decide +kernel,by decide +kernel⟩ (fun _ _ _ _ _=>(z7d (z8n (z6h hu (pe_un z1c (pv 0)) (y8f (K:=K) rfl (pv 1) rfl))))) (fun _ _ _ _ _=>(pv 0))) z0d)) z0d)))
 (z0b (z4c PassesOwn.never rfl (z1u (pv 3)) (z1l (i:=4) sc_Tally_put_wish.nd rfl (Or.inl rfl))
 (z0e (z0r (pe_bm PySem.F.plainAttrs_list PySem.F.slot_list_append PySem.F.type_list_append z0z (x1q (z1m (pv 0) rfl) (pv 4) (z0u z0d) ⟨rfl,rfl,rfl,rfl⟩) (z0a (pv 2) z0d)))))
 (z0e (z0r (z6d m_sort_in cl hr (by decide) (pv 0) (z0a (pv 2) z0d)))))))))),?_⟩
  obtain⟨dx,ob⟩:=hx.ty.ob
  have en:(wrefs x.ws).length=x.ws.length:=z2l _
  obtain⟨ls1,ls2⟩:=hx.lens
  refine⟨_,rfl,p,C,dx,_,_,rfl,ob,T.cl,T.n1,z8z x,x.aw,_,rfl,.inl (qLo hx.ty.hw),?_⟩
  refine⟨_,rfl,a,v,rfl,qLo ha,hv,fun lo H1 hlo s1 h1lo=>?_⟩
  have h1:=hx.ty.same s1
  have fr1:Fr p x x H H1:=Fr.same s1
  have nlo:¬ foot p x lo:=z3q hx.ty hlo
  have hv2:(once v).length<=100000:=by have:=z8t v;omega
  have h1a:=s1 _ _ ha
  have hne:∀ b,foot p x b->a≠b:=fun b hb e=>hna (e ▸ hb)
  obtain⟨dx1,ob1⟩:=h1.ob
  dsimp only[gName]
  rw[en]
  refine z7y (fun σ Hx=>σ=[some (.ref p),some (.ref a),some (.int x.ws.length),some (.ref lo),none]/\TyAt C Hx p { x with ws:=x.ws++[(a,v)] }/\Fr p x { x with ws:=x.ws++[(a,v)] } H Hx/\Hx lo=some (.lst ((once v).map V.int))) (fun N hN=>?_) ?_
  ·refine⟨_,rfl,p,C,dx1,_,_,rfl,ob1,T.cl,T.n1,z8z x,.inl ⟨rfl,_,qLo h1.hw⟩,_,rfl,x.aw,_,_,rfl,rfl,h1.hw,z1r (by omega),?_⟩
   have er:wrefs x.ws++[V.ref a]=wrefs (x.ws++[(a,v)]):=by simp[wrefs]
   dsimp only
   rw[er]
   refine hN _ _ ⟨rfl,h1.setW (fun r hr=>?_) (fun r hr=>?_),fr1.trans (z5q x5u fun _ h=>.inl h),?_⟩
   ·rcases mApp hr with z | z
    ·exact h1.wo r z
    ·have:r=(a,v):=by simpa using z
     rw[this];exact h1a
   ·rcases mApp hr with z | z
    ·exact h1.nw r z
    ·have:r=(a,v):=by simpa using z
     rw[this]
     exact⟨hne _ x5u,hne _ x0r,hne _ x0s,hne _ x0t,fun m hm=>hne _ (y3h hm)⟩
   ·rw[z0g (fun e=>nlo (by rw[e];exact x5u))];exact h1lo
  rintro σ H2 ⟨rfl,h2,fr2,h2lo⟩
  refine z7y (fun σ Hx=>σ=[some (.ref p),some (.ref a),some (.int x.ws.length),some (.ref lo),none]/\TyAt C Hx p { x with ws:=x.ws++[(a,v)],so:=x.so++[(soN v x.T:Int)] }/\Fr p x { x with ws:=x.ws++[(a,v)],so:=x.so++[(soN v x.T:Int)] } H Hx/\Hx lo=some (.lst ((once v).map V.int))) (fun N hN=>?_) ?_
  ·obtain⟨d2,ob2⟩:=h2.ob
   refine⟨_,rfl,p,C,d2,_,_,rfl,ob2,T.cl,T.n5,fl_so _,.inl ⟨rfl,_,qLo h2.hs⟩,?_⟩
   refine y4g (ta:=tCB _ _) (rd_cb (y4g (ta:=tComp _ _ _ _) (z3v (K:=K) ?_)))
   refine⟨_,rfl,lo,rfl,⟨_,qLo h2lo⟩,?_⟩
   refine z5m (xs:=once v) (g:=V.int) (fun n=>decide (n∈x.T)) V.int (z1o (by omega)) (qLo h2lo) (fun n _ R hR=>?_) (fun n _ _ R hR=>⟨_,rfl,hR⟩) (fun l2 hl2=>?_)
   ·refine⟨_,rfl,_,rfl,p,C,d2,_,_,rfl,ob2,T.cl,T.n3,z5a _,x.ad,_,rfl,DGet.k (k:=Sum.inl n) h2.hd,_,rfl,?_⟩
    rw[z7b];exact hR
   ·have s3:Same H2 (upd H2 l2 (.lst (((once v).filter fun n=>decide (n∈x.T)).map V.int))):=(smR H2).upd hl2
    have h3:=h2.same s3
    have h3l:upd H2 l2 (.lst (((once v).filter fun n=>decide (n∈x.T)).map V.int)) l2=some (.lst (((once v).filter fun n=>decide (n∈x.T)).map V.int)):=z0c
    have h3lo:=s3 _ _ h2lo
    have fr3:=fr2.trans (Fr.same (p:=p) (x:={ x with ws:=x.ws++[(a,v)] }) s3)
    generalize upd H2 l2 (.lst (((once v).filter fun n=>decide (n∈x.T)).map V.int))=H3 at s3 h3 h3l h3lo fr3
    refine⟨l2,_,rfl,.inl (qLo h3l),x.aso,_,_,rfl,rfl,h3.hs,z1r (by rw[List.length_map];show x.so.length<=_;omega),?_⟩
    have er:x.so.map V.int++[V.int ((((once v).filter fun n=>decide (n∈x.T)).map V.int).length:Nat)]=(x.so++[(soN v x.T:Int)]).map V.int:=by simp[soN]
    dsimp only
    rw[er]
    refine hN _ _ ⟨rfl,h3.setS _,fr3.trans (z5q x0s fun _ h=>.inl h),?_⟩
    rw[z0g (fun e=>nlo (by rw[e];exact x0s))];exact h3lo
  rintro σ H3 ⟨rfl,h3,fr3,h3lo⟩
  refine z7y (fun σ Hx=>σ=[some (.ref p),some (.ref a),some (.int x.ws.length),some (.ref lo),none]/\TyAt C Hx p { x with ws:=x.ws++[(a,v)],so:=x.so++[(soN v x.T:Int)],left:=x.left++[(leftN v x.T:Int)] }/\Fr p x { x with ws:=x.ws++[(a,v)],so:=x.so++[(soN v x.T:Int)],left:=x.left++[(leftN v x.T:Int)] } H Hx/\Hx lo=some (.lst ((once v).map V.int))) (fun N hN=>?_) ?_
  ·obtain⟨d3,ob3⟩:=h3.ob
   refine⟨_,rfl,p,C,d3,_,_,rfl,ob3,T.cl,T.n6,z9p _,.inl ⟨rfl,_,qLo h3.hl⟩,?_⟩
   refine y4g (ta:=tCB _ _) (rd_cb (y4g (ta:=tComp _ _ _ _) (z3v (K:=K) ?_)))
   refine⟨_,rfl,lo,rfl,⟨_,qLo h3lo⟩,?_⟩
   refine z5m (xs:=once v) (g:=V.int) (fun n=>!decide (-n∈x.T)) V.int (z1o (by omega)) (qLo h3lo) (fun n _ R hR=>?_) (fun n _ _ R hR=>⟨_,rfl,hR⟩) (fun l2 hl2=>?_)
   ·refine⟨_,rfl,n,rfl,_,rfl,p,C,d3,_,_,rfl,ob3,T.cl,T.n3,z5a _,x.ad,_,rfl,DGet.k (k:=Sum.inl (-n)) h3.hd,_,rfl,?_⟩
    rw[z7b];exact hR
   ·have s4:Same H3 (upd H3 l2 (.lst (((once v).filter fun n=>!decide (-n∈x.T)).map V.int))):=(smR H3).upd hl2
    have h4:=h3.same s4
    have h4l:upd H3 l2 (.lst (((once v).filter fun n=>!decide (-n∈x.T)).map V.int)) l2=some (.lst (((once v).filter fun n=>!decide (-n∈x.T)).map V.int)):=z0c
    have h4lo:=s4 _ _ h3lo
    have fr4:=fr3.trans (Fr.same (p:=p) (x:={ x with ws:=x.ws++[(a,v)],so:=x.so++[(soN v x.T:Int)] }) s4)
    generalize upd H3 l2 (.lst (((once v).filter fun n=>!decide (-n∈x.T)).map V.int))=H4 at s4 h4 h4l h4lo fr4
    refine⟨l2,_,rfl,.inl (qLo h4l),x.al,_,_,rfl,rfl,h4.hl,z1r (by rw[List.length_map];show x.left.length<=_;omega),?_⟩
    have er:x.left.map V.int++[V.int ((((once v).filter fun n=>!decide (-n∈x.T)).map V.int).length:Nat)]=(x.left++[(leftN v x.T:Int)]).map V.int:=by simp[leftN,z3h]
    dsimp only
    rw[er]
    refine hN _ _ ⟨rfl,h4.setL _,fr4.trans (z5q x0t fun _ h=>.inl h),?_⟩
    rw[z0g (fun e=>nlo (by rw[e];exact x0t))];exact h4lo
  rintro σ H4 ⟨rfl,h4,fr4,h4lo⟩
  refine z7y (fun σ Hx=>∃ (M':List Mp) (v5:Option V),σ=[some (.ref p),some (.ref a),some (.int x.ws.length),some (.ref lo),v5]/\TyAt C Hx p { x with ws:=x.ws++[(a,v)],so:=x.so++[(soN v x.T:Int)],left:=x.left++[(leftN v x.T:Int)],M:=M' }/\Fr p x { x with ws:=x.ws++[(a,v)],so:=x.so++[(soN v x.T:Int)],left:=x.left++[(leftN v x.T:Int)],M:=M' } H Hx /\
   (∀ y,ilook M' y=idxs (wl x.ws++[v]) y)/\M'.length<=x.M.length+v.length/\∀ m∈M',m.2.2≠[]) (fun N hN=>?_) ?_
  ·refine⟨_,rfl,lo,rfl,⟨_,qLo h4lo⟩,z4o (K:=K) (a:=lo) (xs:=(once v).map V.int) (fun j σ Hx=>∃ (M':List Mp) (v5:Option V),σ=[some (.ref p),some (.ref a),some (.int x.ws.length),some (.ref lo),v5]/\TyAt C Hx p { x with ws:=x.ws++[(a,v)],so:=x.so++[(soN v x.T:Int)],left:=x.left++[(leftN v x.T:Int)],M:=M' }/\Fr p x { x with ws:=x.ws++[(a,v)],so:=x.so++[(soN v x.T:Int)],left:=x.left++[(leftN v x.T:Int)],M:=M' } H Hx /\
    (∀ y,ilook M' y=idxs (wl x.ws) y++(if y∈(once v).take j then [x.ws.length] else []))/\M'.length<=x.M.length+j/\Hx lo=some (.lst ((once v).map V.int))/\(¬ foot p { x with M:=M' } lo)/\∀ m∈M',m.2.2≠[])
    ⟨x.M,none,rfl,h4,fr4,fun y=>by rw[hx.pl y];simp,by omega,h4lo,nlo,hx.ne⟩ (fun j σ Hx _ hh=>by
     obtain⟨_,_,_,_,_,_,_,e,_⟩:=hh
     exact qLo e) ?_ ?_⟩
   ·rintro j y σ H5 hj ⟨M5,v5,rfl,h5,fr5,hI5,hl5,h5lo,nlo5,ne5⟩
    obtain⟨n,hnj,rfl⟩:=getV hj
    have hjl:j < (once v).length:=(List.getElem?_eq_some_iff.mp hnj).1
    have hov:=z8t v
    have hnot:¬ n∈(once v).take j:=fun z=>by
     obtain⟨j',hj',e⟩:=List.mem_iff_getElem.mp z
     rw[List.getElem_take]at e
     have hj2:j' < j:=by simp at hj';omega
     have e2:(once v)[j]'hjl=n:=by rw[List.getElem?_eq_getElem hjl]at hnj;exact Option.some.inj hnj
     have:=(List.getElem_inj (h₀:=by omega) (h₁:=hjl) (z7o v)).mp (e.trans e2.symm)
     omega
    have htk:∀ y,y∈(once v).take (j+1)↔y∈(once v).take j∨y=n:=fun y=>by
     rw[List.take_add_one,hnj];simp
    have hil5:ilook M5 n=idxs (wl x.ws) n:=by rw[hI5 n,if_neg hnot];simp
    have hidl:(idxs (wl x.ws) n).length<=x.ws.length:=by
     unfold idxs
     have:=List.length_filter_le (fun i=>decide (n∈(wl x.ws).getD i [])) (List.range (wl x.ws).length)
     rw[List.length_range]at this
     have e:=z4a x.ws
     omega
    have grow:∀ M6:List Mp,(∀ y,ilook M6 y=if y=n then ilook M5 n++[x.ws.length] else ilook M5 y)->∀ y,ilook M6 y=idxs (wl x.ws) y++(if y∈(once v).take (j+1) then [x.ws.length] else []):=fun M6 h6 y=>by
     rw[h6 y]
     by_cases e:y=n
     ·subst e
      rw[if_pos rfl,hil5,if_pos ((htk y).mpr (.inr rfl))]
     ·rw[if_neg e,hI5 y]
      congr 1
      by_cases z:y∈(once v).take j
      ·rw[if_pos z,if_pos ((htk y).mpr (.inl z))]
      ·rw[if_neg z,if_neg (fun q=>(htk y).mp q |>.elim z e)]
    obtain⟨d5,ob5⟩:=h5.ob
    have h5d:H5 x.ap=some (.dK (mkvs M5)):=h5.hp
    refine⟨_,rfl,p,C,d5,_,_,rfl,ob5,T.cl,T.n4,y2b _,x.ap,rfl,.inl ⟨_,.inl h5d⟩,_,rfl,by decide,fun pe hpe=>?_⟩
    have npe:x.ap≠pe:=z0h h5d hpe
    have npl:lo≠pe:=z0h h5lo hpe
    refine⟨mkvs M5,Sum.inl n,by rw[z0g npe];exact h5d,rfl,z1r (by simp[mkvs];omega),fun u hu=>?_,fun hu=>?_⟩
    ·rw[z8j]at hu
     cases hlk:lookM M5 n with
     | none=>rw[hlk]at hu;cases hu
     | some m =>
      rw[hlk]at hu
      have ev:u=.ref m.2.1:=(Option.some.inj hu).symm
      subst ev
      obtain⟨hm1,hm2⟩:=z4m hlk
      have s6:Same H5 (upd H5 pe (.lst [])):=(smR H5).upd hpe
      have h6:=h5.same s6
      have h6lo:=s6 _ _ h5lo
      have fr6:=fr5.trans (Fr.same (p:=p) s6)
      generalize upd H5 pe (.lst [])=H6 at s6 h6 h6lo fr6
      have hmm:H6 m.2.1=some (.lst (iv m.2.2)):=h6.hM.ok m hm1
      have eil:ilook M5 n=m.2.2:=by unfold ilook;rw[hlk]
      refine⟨.inl ⟨rfl,_,qLo hmm⟩,_,rfl,m.2.1,_,_,rfl,rfl,hmm,z1r (by simp[iv];rw[←eil,hil5];omega),?_⟩
      have nlm:lo≠m.2.1:=fun e=>nlo5 (by rw[e];exact y3h (x:={ x with M:=M5 }) hm1)
      have back:∀ m'∈addM M5 n x.ws.length,∃ m0∈M5,m'.2.1=m0.2.1:=fun m' hm'=>by
       obtain⟨m0,h0,rfl⟩:=List.mem_map.mp hm'
       exact⟨m0,h0,by split<;>rfl⟩
      refine⟨addM M5 n x.ws.length,_,rfl,h6.addMp (i:=x.ws.length) hlk,fr6.trans (h6.addFr hlk),grow _ (fun y=>x2u hlk y),by unfold addM;rw[List.length_map];omega,by rw[z0g nlm];exact h6lo,?_,fun m' hm'=>by
       obtain⟨m0,h0,rfl⟩:=List.mem_map.mp hm'
       split
       ·simp
       ·exact ne5 m0 h0⟩
      exact fun hf=>nlo5 (x8d hf fun m' hm'=>by
       obtain⟨m0,h0,e0⟩:=back m' hm'
       exact⟨m0,h0,e0⟩)
    ·rw[z8j]at hu
     have hlk:lookM M5 n=none:=by
      cases hlk:lookM M5 n with
      | none=>rfl
      | some m=>rw[hlk]at hu;cases hu
     have hnk:valV (mkvs M5) (Sum.inl n:Key)=none:=by rw[z8j,hlk];rfl
     rw[x7e _ hnk]
     have hpe6:upd (upd H5 pe (.lst [])) x.ap (.dK (mkvs M5++[((Sum.inl n:Key),V.ref pe)])) pe=some (.lst []):=by rw[z0g npe.symm,z0c]
     refine⟨.inl ⟨rfl,_,qLo hpe6⟩,_,rfl,pe,_,_,rfl,rfl,hpe6,by decide,?_⟩
     have nla:lo≠x.ap:=ne_of h5lo h5d (by intro z;cases z)
     refine⟨M5++[(n,pe,[x.ws.length])],_,rfl,h5.newMp (i:=x.ws.length) hlk hpe,fr5.trans (h5.newFr hpe),grow _ (fun y=>x2d hlk y),by simp;omega,by rw[z0g npl,z0g nla,z0g npl];exact h5lo,?_,fun m' hm'=>by
      rcases mApp hm' with z | z
      ·exact ne5 m' z
      ·have:m'=(n,pe,[x.ws.length]):=by simpa using z
       rw[this];simp⟩
     rintro (e | e | e | e | e | e | e | e | e | ⟨m',hm',e⟩)
     ·exact nlo5 (.inl e)
     ·exact nlo5 (.inr (.inl e))
     ·exact nlo5 (.inr (.inr (.inl e)))
     ·exact nlo5 (.inr (.inr (.inr (.inl e))))
     ·exact nlo5 (.inr (.inr (.inr (.inr (.inl e)))))
     ·exact nlo5 (.inr (.inr (.inr (.inr (.inr (.inl e))))))
     ·exact nlo5 (.inr (.inr (.inr (.inr (.inr (.inr (.inl e)))))))
     ·exact nlo5 (.inr (.inr (.inr (.inr (.inr (.inr (.inr (.inl e))))))))
     ·exact nlo5 (.inr (.inr (.inr (.inr (.inr (.inr (.inr (.inr (.inl e)))))))))
     ·rcases mApp hm' with z | z
      ·exact nlo5 (by rw[e];exact y3h (x:={ x with M:=M5 }) z)
      ·have:m'=(n,pe,[x.ws.length]):=by simpa using z
       exact npl (by rw[e,this])
   ·rintro σ H5 ⟨M5,v5,rfl,h5,fr5,hI5,hl5,h5lo,nlo5,ne5⟩
    have hov:=z8t v
    refine hN _ _ ⟨M5,v5,rfl,h5,fr5,fun y=>?_,by rw[List.length_map]at hl5;omega,ne5⟩
    rw[hI5 y,x5n,z4a]
    congr 1
    have:y∈(once v).take ((once v).map V.int).length↔y∈v:=by simp[mem_once]
    by_cases e:y∈v
    ·rw[if_pos e,if_pos (this.mpr e)]
    ·rw[if_neg e,if_neg (fun z=>e (this.mp z))]
  rintro σ H5 ⟨M5,v5,rfl,h5,fr5,hI5,hl5,ne5⟩
  obtain⟨d5,ob5⟩:=h5.ob
  have noS:∀ y:Tly,(flds y).lookup ("sort_in" : Str)=none:=fun y=>fl_nx y (by decide +kernel)
  have g1:(x.so++[(soN v x.T:Int)])[x.ws.length]?=some (soN v x.T:Int):=by rw[←ls1];simp
  have g2:(x.left++[(leftN v x.T:Int)])[x.ws.length]?=some (leftN v x.T:Int):=by rw[←ls2];simp
  have oth:∀ (l:List Int) (u:Int) (k:Nat),l.length=x.ws.length->k≠x.ws.length->(l++[u])[k]?=l[k]?:=fun l u k hl hk=>by
   by_cases z:k < l.length
   ·rw[List.getElem?_append_left z]
   ·rw[List.getElem?_eq_none (by simp;omega),List.getElem?_eq_none (by omega)]
  have lF:=hx.fg.lenF
  have lG:=hx.fg.lenG
  refine⟨_,rfl,p,d5,_,rfl,ob5,noS _,_,rfl,p,_,x.ws.length,_,_,rfl,h5,g1,g2,by show x.F.length<=_;omega,by show x.G.length<=_;omega,hx.fg.fn,hx.fg.gn,fun F' G' H6 h6 fr6 nF nG mF mG=>?_⟩
  refine q _ H6 ⟨h6,hx.T,fun y=>?_,?_,?_,hx.fg.sort (i:=x.ws.length) (fun k hk=>oth _ _ k ls1 hk) (fun k hk=>oth _ _ k ls2 hk) nF nG (fun j=>?_) (fun j=>?_),hx.dis,ne5⟩ (fr5.trans fr6) rfl rfl rfl hl5
  ·show ilook M5 y=idxs (wl (x.ws++[(a,v)])) y
   rw[hI5 y];simp[wl]
  ·show x.so++[(soN v x.T:Int)]=(wl (x.ws++[(a,v)])).map fun v=>(soN v x.T:Int)
   rw[hx.so];simp[wl]
  ·show x.left++[(leftN v x.T:Int)]=(wl (x.ws++[(a,v)])).map fun v=>(leftN v x.T:Int)
   rw[hx.lf];simp[wl]
  ·rw[mF,g1,g2];simp
  ·rw[mG,g1,g2];simp
end
structure NwL (C dx p:Addr) (H0 H:Hp) (fs:List (Str × V)) (L:List (Addr × HO)):Prop where
 sm:Same H0 H
 hp:H p=some (.ins C dx fs)
 p0:H0 p=none
 ok:∀ b∈L,H b.1=some b.2/\H0 b.1=none/\b.1≠p
 nd:(L.map (·.1)).Nodup
 len:fs.length<=L.length
theorem NwL.add {C dx p:Addr} {H0 H:Hp} {fs:List (Str × V)} {L:List (Addr × HO)} (h:NwL C dx p H0 H fs L) (f:Str) {pe:Addr} {o:HO} (hpe:H pe=none):NwL C dx p H0 (upd (upd H pe o) p (.ins C dx (putF f (.ref pe) fs))) (putF f (.ref pe) fs) ((pe,o)::L):=by
 have n1:p≠pe:=z0h h.hp hpe
 have h0:=h.sm.free hpe
 refine⟨(h.sm.upd h0).upd h.p0,z0c,h.p0,fun b hb=>?_,?_,Nat.le_trans (z8h f (.ref pe) fs) (by have:=h.len;simp;omega)⟩
 ·rcases List.mem_cons.mp hb with z | z
  ·rw[z];exact⟨by rw[z0g n1.symm,z0c],h0,n1.symm⟩
  ·obtain⟨a1,a2,a3⟩:=h.ok b z
   exact⟨by rw[z0g a3,z0g (z0h a1 hpe)];exact a1,a2,a3⟩
 ·rw[List.map_cons]
  refine List.nodup_cons.mpr ⟨fun z=>?_,h.nd⟩
  obtain⟨b,hb,e⟩:=List.mem_map.mp z
  have:=(h.ok b hb).1
  rw[show b.1=pe from e,hpe]at this
  cases this
def y9o (K:W.Frag) (C:Addr):Sp:=fun vs H Q _=>∃ (p a dx:Addr) (H0:Hp) (ws:List Wr),vs=[.ref p,.ref a]/\NwL C dx p H0 H [] []/\SqL K H0 a (wrefs ws)/\WsOk H0 ws/\ws.length<=100000/\total (wl ws)<=100000 /\
 ∀ (x':Tly) (H':Hp),Tal C H' p x'->x'.ws=ws->x'.qs=[]->Same H0 H'->(∀ b,foot p x' b->H0 b=none)->x'.M.length<=total (wl ws)->Q .non H'
section
variable {P:Program} {w:World} {K:W.Frag} {mg:Str->Option Value} {base:Heap} {C:Addr}
theorem w0c (T:TallyCls K mg C) (m_put_wish:MCal P w K mg base 3 C "put_wish" z1f (y9n C)) (Df:MDef K C "__init__" "Tally.__init__" z2q z2e):Made P w K mg base 4 "Tally" C z2e (y9o K C):=by
 have G:MCal P w K mg base 4 C "__init__" z2e (y9o K C):=by
  refine Df.cal sc_Tally_init (fun vs H Q E h=>?_) (fun f cdv A outer s H vs Q E hr h=>?_)
  ·obtain⟨p,a,dx,H0,ws,rfl,_⟩:=h;rfl
  ·obtain⟨p,a,dx,H0,ws,rfl,h0,hS,hW,hz,hz2,q⟩:=h
   have hu:=hu_of hr
   have cl:=T.cl
   refine⟨_,(z0b (z9y (pv 0) (z0u z0d) rfl)
 (z0b (z9y (pv 0) (z0u z0d) rfl)
 (z0b (z9y (pv 0) z8q rfl)
 (z0b (z9y (pv 0) z8q rfl)
 (z0b (z9y (pv 0) (z0u z0d) rfl)
 (z0b (z9y (pv 0) (z0u z0d) rfl)
 (z0b (z9y (pv 0) z8q rfl)
 (z0b (z9y (pv 0) z8q rfl)
 (z0e (z4c PassesOwn.never rfl (z1u (pv 1)) (z1l (i:=2) sc_Tally_init.nd rfl (Or.inl rfl))
 (z0e (z0r (z6d m_put_wish cl hr (by decide) (pv 0) (z0a (pv 2) z0d)))))))))))))),?_⟩
   refine rd_k fun N1 c1=>?_
   refine⟨by decide,fun a1 e1=>?_⟩
   have n1:p≠a1:=z0h h0.hp e1
   have k1:=h0.len
   refine⟨_,rfl,p,C,dx,_,rfl,by rw[z0g n1];exact h0.hp,T.cl,T.n1,Nat.lt_of_le_of_lt k1 (by simp),c1 _ _ ?_⟩
   have h1:=h0.add "wishes" (o:=.lst []) e1
   generalize upd (upd H a1 (.lst [])) p (.ins C dx (putF "wishes" (.ref a1) []))=H1 at h1
   refine rd_k fun N2 c2=>?_
   refine⟨by decide,fun a2 e2=>?_⟩
   have n2:p≠a2:=z0h h1.hp e2
   have k2:=h1.len
   refine⟨_,rfl,p,C,dx,_,rfl,by rw[z0g n2];exact h1.hp,T.cl,T.n2,Nat.lt_of_le_of_lt k2 (by simp),c2 _ _ ?_⟩
   have h2:=h1.add "trail" (o:=.lst []) e2
   generalize upd (upd H1 a2 (.lst [])) p (.ins C dx (putF "trail" (.ref a2) (putF "wishes" (.ref a1) [])))=H2 at h2
   refine rd_k fun N3 c3=>?_
   intro a3 e3
   have n3:p≠a3:=z0h h2.hp e3
   have k3:=h2.len
   refine⟨_,rfl,p,C,dx,_,rfl,by rw[z0g n3];exact h2.hp,T.cl,T.n3,Nat.lt_of_le_of_lt k3 (by simp),c3 _ _ ?_⟩
   have h3:=h2.add "taken" (o:=.dK []) e3
   generalize upd (upd H2 a3 (.dK [])) p (.ins C dx (putF "taken" (.ref a3) (putF "trail" (.ref a2) (putF "wishes" (.ref a1) []))))=H3 at h3
   refine rd_k fun N4 c4=>?_
   intro a4 e4
   have n4:p≠a4:=z0h h3.hp e4
   have k4:=h3.len
   refine⟨_,rfl,p,C,dx,_,rfl,by rw[z0g n4];exact h3.hp,T.cl,T.n4,Nat.lt_of_le_of_lt k4 (by simp),c4 _ _ ?_⟩
   have h4:=h3.add "places" (o:=.dK []) e4
   generalize upd (upd H3 a4 (.dK [])) p (.ins C dx (putF "places" (.ref a4) (putF "taken" (.ref a3) (putF "trail" (.ref a2) (putF "wishes" (.ref a1) [])))))=H4 at h4
   refine rd_k fun N5 c5=>?_
   refine⟨by decide,fun a5 e5=>?_⟩
   have n5:p≠a5:=z0h h4.hp e5
   have k5:=h4.len
   refine⟨_,rfl,p,C,dx,_,rfl,by rw[z0g n5];exact h4.hp,T.cl,T.n5,Nat.lt_of_le_of_lt k5 (by simp),c5 _ _ ?_⟩
   have h5:=h4.add "so" (o:=.lst []) e5
   generalize upd (upd H4 a5 (.lst [])) p (.ins C dx (putF "so" (.ref a5) (putF "places" (.ref a4) (putF "taken" (.ref a3) (putF "trail" (.ref a2) (putF "wishes" (.ref a1) []))))))=H5 at h5
   refine rd_k fun N6 c6=>?_
   refine⟨by decide,fun a6 e6=>?_⟩
   have n6:p≠a6:=z0h h5.hp e6
   have k6:=h5.len
   refine⟨_,rfl,p,C,dx,_,rfl,by rw[z0g n6];exact h5.hp,T.cl,T.n6,Nat.lt_of_le_of_lt k6 (by simp),c6 _ _ ?_⟩
   have h6:=h5.add "left" (o:=.lst []) e6
   generalize upd (upd H5 a6 (.lst [])) p (.ins C dx (putF "left" (.ref a6) (putF "so" (.ref a5) (putF "places" (.ref a4) (putF "taken" (.ref a3) (putF "trail" (.ref a2) (putF "wishes" (.ref a1) [])))))))=H6 at h6
   refine rd_k fun N7 c7=>?_
   intro a7 e7
   have n7:p≠a7:=z0h h6.hp e7
   have k7:=h6.len
   refine⟨_,rfl,p,C,dx,_,rfl,by rw[z0g n7];exact h6.hp,T.cl,T.n7,Nat.lt_of_le_of_lt k7 (by simp),c7 _ _ ?_⟩
   have h7:=h6.add "failing" (o:=.dK []) e7
   generalize upd (upd H6 a7 (.dK [])) p (.ins C dx (putF "failing" (.ref a7) (putF "left" (.ref a6) (putF "so" (.ref a5) (putF "places" (.ref a4) (putF "taken" (.ref a3) (putF "trail" (.ref a2) (putF "wishes" (.ref a1) []))))))))=H7 at h7
   refine rd_k fun N8 c8=>?_
   intro a8 e8
   have n8:p≠a8:=z0h h7.hp e8
   have k8:=h7.len
   refine⟨_,rfl,p,C,dx,_,rfl,by rw[z0g n8];exact h7.hp,T.cl,T.n8,Nat.lt_of_le_of_lt k8 (by simp),c8 _ _ ?_⟩
   have h8:=h7.add "forcing" (o:=.dK []) e8
   generalize upd (upd H7 a8 (.dK [])) p (.ins C dx (putF "forcing" (.ref a8) (putF "failing" (.ref a7) (putF "left" (.ref a6) (putF "so" (.ref a5) (putF "places" (.ref a4) (putF "taken" (.ref a3) (putF "trail" (.ref a2) (putF "wishes" (.ref a1) [])))))))))=H8 at h8
   have g1:=h8.ok (a1,.lst []) (by simp)
   have g2:=h8.ok (a2,.lst []) (by simp)
   have g3:=h8.ok (a3,.dK []) (by simp)
   have g4:=h8.ok (a4,.dK []) (by simp)
   have g5:=h8.ok (a5,.lst []) (by simp)
   have g6:=h8.ok (a6,.lst []) (by simp)
   have g7:=h8.ok (a7,.dK []) (by simp)
   have g8:=h8.ok (a8,.dK []) (by simp)
   have nd:=h8.nd
   simp only[List.map_cons,List.map_nil,List.nodup_cons,List.mem_cons,not_or]at nd
   obtain⟨⟨b87,b86,b85,b84,b83,b82,b81,_⟩,⟨b76,b75,b74,b73,b72,b71,_⟩,⟨b65,b64,b63,b62,b61,_⟩,⟨b54,b53,b52,b51,_⟩,⟨b43,b42,b41,_⟩,⟨b32,b31,_⟩,⟨b21,_⟩,_⟩:=nd
   have hT:Tal C H8 p ⟨a1,a2,a3,a4,a5,a6,a7,a8,[],[],[],[],[],[],[],[]⟩ :=
    ⟨⟨⟨dx,h8.hp⟩,g1.1,g2.1,g3.1,g4.1,⟨(fun m hm=>nomatch hm),List.nodup_nil,List.nodup_nil⟩,g5.1,g6.1,g7.1,g8.1,(fun _ h=>nomatch h),(fun _ h=>nomatch h),⟨Ne.symm b21,Ne.symm b51,Ne.symm b61,Ne.symm b52,Ne.symm b62,Ne.symm b65⟩,⟨Ne.symm b43,Ne.symm b73,Ne.symm b83,Ne.symm b74,Ne.symm b84,Ne.symm b87⟩,(fun _ h=>nomatch h),(fun _ h=>nomatch h)⟩,
      rfl,fun y=>rfl,rfl,rfl,⟨List.nodup_nil,List.nodup_nil,fun j=>⟨(fun h=>nomatch h),fun ⟨i,_,h,_⟩=>by simp at h⟩,fun j=>⟨(fun h=>nomatch h),fun ⟨i,_,h,_⟩=>by simp at h⟩⟩,fun k l hk=>by simp at hk,(fun _ h=>nomatch h)⟩
   have hF:∀ b,foot p ⟨a1,a2,a3,a4,a5,a6,a7,a8,[],[],[],[],[],[],[],[]⟩ b->H0 b=none:=by
    rintro b (e | e | e | e | e | e | e | e | e | ⟨m,hm,e⟩)
    ·rw[e];exact h8.p0
    ·rw[e];exact g1.2.1
    ·rw[e];exact g2.2.1
    ·rw[e];exact g3.2.1
    ·rw[e];exact g4.2.1
    ·rw[e];exact g5.2.1
    ·rw[e];exact g6.2.1
    ·rw[e];exact g7.2.1
    ·rw[e];exact g8.2.1
    ·cases hm
   have sm8:=h8.sm
   clear h1 h2 h3 h4 h5 h6 h7 h8
   have wl_i:∀ {i:Nat} {wr:Wr},ws[i]?=some wr->(wl ws)[i]?=some wr.2:=fun {i wr} h=>by unfold wl;rw[List.getElem?_map,h];rfl
   refine⟨_,rfl,a,rfl,⟨_,sm8.seq hS⟩,z6k (K:=K) (a:=a) (xs:=wrefs ws) (fun j σ Hx=>∃ (x:Tly) (v:Option V),σ=[some (.ref p),some (.ref a),v]/\Tal C Hx p x/\x.ws=ws.take j/\x.qs=[]/\Same H0 Hx/\(∀ b,foot p x b->H0 b=none)/\x.M.length<=total ((wl ws).take j))
    ⟨_,none,rfl,hT,by simp,rfl,sm8,hF,Nat.zero_le _⟩ (fun j σ Hx _ hh=>by
     obtain⟨_,_,_,_,_,_,e,_⟩:=hh
     exact e.seq hS) ?_ ?_⟩
   ·rintro j y σ Hx N0 B0 hj ⟨x,v,rfl,hx,ew,eq,sm,hf,hm⟩ hN0
    obtain⟨wr,hwj,rfl⟩:=w0z hj
    have hmem:=List.mem_of_getElem? hwj
    have hjl:j < ws.length:=(List.getElem?_eq_some_iff.mp hwj).1
    have t1:=x1f (wl_i hwj)
    have t2:=x6y (wl ws) (j+1)
    obtain⟨d,obx⟩:=hx.ty.ob
    have noP:(flds x).lookup ("put_wish" : Str)=none:=fl_nx x (by decide +kernel)
    refine⟨_,rfl,p,d,_,rfl,obx,noP,_,rfl,p,wr.1,x,wr.2,rfl,hx,sm _ _ (hW wr hmem),fun z=>?_,by omega,by rw[ew];simp;omega,by omega,fun x' H' hx' fr ew' eq' _ hm'=>hN0 _ _ ⟨x',_,rfl,hx',?_,by rw[eq',eq],?_,?_,by omega⟩⟩
    ·have:=hf _ z
     rw[hW wr hmem]at this;cases this
    ·rw[ew',ew,List.take_add_one,hwj];simp
    ·intro b o hb
     exact fr.out b o (sm b o hb) fun z=>by rw[hf b z]at hb;cases hb
    ·intro b hb
     rcases fr.inn b hb with z | z
     ·exact hf b z
     ·exact sm.free z
   ·rintro σ Hx ⟨x,v,rfl,hx,ew,eq,sm,hf,hm⟩
    rw[z2l]at ew hm
    rw[List.take_length]at ew
    rw[←z4a ws,List.take_length]at hm
    exact q x Hx hx ew eq sm hf hm
 obtain⟨f,fd,F,M,hb⟩:=G.ex
 exact⟨f,fd,F,⟨T.mks,M.at_,M.fn,T.kc⟩,hb,T.mgC⟩
end
theorem z9m {W:List (List Int)} {T:List Int} (h:z1e W T≠none):z2v W T=none:=by
 unfold z2v
 cases hb:z1e W T with
 | none=>exact absurd hb h
 | some i=>rfl
theorem x2c {W:List (List Int)} {T:List Int} (h:z1e W T=none) (h':oneAt W T=none):z2v W T=none:=by
 unfold z2v;rw[h,h']
theorem x4q {W:List (List Int)} {T:List Int} {i:Nat} (h:z1e W T=none) (h':oneAt W T=some i):∃ x,z2v W T=some (x,i):=by
 unfold z2v;rw[h,h'];exact⟨_,rfl⟩
abbrev Nw:=Addr × Int × Nat
def np (t:Nw):Pr:=(t.1,t.2.1,some (t.2.2:Int))
def nn (t:Nw):Int × Nat:=(t.2.1,t.2.2)
theorem y9a (qs rs:List Pr):lets (qs++rs)=lets qs++lets rs:=by simp[lets]
theorem tal_c {C:Addr} {H:Hp} {p:Addr} {x:Tly} (h:Tal C H p x) (c:Nat) (j:Int):(∃ i:Nat,j=(i:Int)/\x.so[i]?=some 0/\x.left[i]?=some (c:Int))↔∃ i:Nat,j=(i:Int)/\i < (wl x.ws).length/\cnt ((wl x.ws).getD i []) x.T=some c:=by
 constructor
 ·rintro⟨i,e,a,b⟩
  rw[h.so,List.getElem?_map]at a
  rw[h.lf,List.getElem?_map]at b
  cases hw:(wl x.ws)[i]? with
  | none=>rw[hw]at a;cases a
  | some v =>
   rw[hw]at a b
   have a':(soN v x.T:Int)=0:=Option.some.inj a
   have b':(leftN v x.T:Int)=c:=Option.some.inj b
   have hg:(wl x.ws).getD i []=v:=by simp[List.getD,hw]
   refine⟨i,e,(List.getElem?_eq_some_iff.mp hw).1,?_⟩
   rw[hg,y7g,if_pos (by omega)]
   congr 1;omega
 ·rintro⟨i,e,hi,hc⟩
  have hw:(wl x.ws)[i]?=some ((wl x.ws).getD i []):=by simp[hi]
  rw[y7g]at hc
  by_cases z:soN ((wl x.ws).getD i []) x.T=0
  ·rw[if_pos z]at hc
   have hc':=Option.some.inj hc
   refine⟨i,e,?_,?_⟩
   ·rw[h.so,List.getElem?_map,hw,Option.map_some,z];rfl
   ·rw[h.lf,List.getElem?_map,hw,Option.map_some,hc']
  ·rw[if_neg z]at hc;cases hc
theorem tal_F {C:Addr} {H:Hp} {p:Addr} {x:Tly} (h:Tal C H p x) (j:Int):j∈x.F↔∃ i:Nat,j=(i:Int)/\i < (wl x.ws).length/\cnt ((wl x.ws).getD i []) x.T=some 0:=(h.fg.f j).trans (tal_c h 0 j)
theorem tal_G {C:Addr} {H:Hp} {p:Addr} {x:Tly} (h:Tal C H p x) (j:Int):j∈x.G↔∃ i:Nat,j=(i:Int)/\i < (wl x.ws).length/\cnt ((wl x.ws).getD i []) x.T=some 1:=(h.fg.g j).trans (tal_c h 1 j)
theorem z9q {W:List (List Int)} {T:List Int} {c:Nat} {F:List Int} (h:∀ j,j∈F↔∃ i:Nat,j=(i:Int)/\i < W.length/\cnt (W.getD i []) T=some c):F=[]↔W.findIdx? (fun w=>decide (cnt w T=some c))=none:=by
 rw[List.findIdx?_eq_none_iff]
 constructor
 ·intro e w hw
  obtain⟨i,hi,rfl⟩:=List.mem_iff_getElem.mp hw
  refine decide_eq_false fun z=>?_
  have:(i:Int)∈F:=(h i).mpr ⟨i,rfl,hi,by simpa[hi] using z⟩
  rw[e]at this;cases this
 ·intro hn
  refine List.eq_nil_iff_forall_not_mem.mpr fun j hj=>?_
  obtain⟨i,e,hi,hc⟩:=(h j).mp hj
  have:=hn W[i] (List.getElem_mem hi)
  have hg:W.getD i []=W[i]:=by simp[hi]
  rw[hg]at hc
  rw[decide_eq_true hc]at this;cases this
theorem y6z {W:List (List Int)} {T:List Int} {c:Nat} {F:List Int} (h:∀ j,j∈F↔∃ i:Nat,j=(i:Int)/\i < W.length/\cnt (W.getD i []) T=some c) {y:Int} (hy:y∈F) (hm:∀ z∈F,y<=z):∃ i:Nat,y=(i:Int)/\W.findIdx? (fun w=>decide (cnt w T=some c))=some i:=by
 obtain⟨i,e,hi,hc⟩:=(h y).mp hy
 refine⟨i,e,?_⟩
 rw[List.findIdx?_eq_some_iff_getElem]
 have hg:∀ k (hk:k < W.length),W.getD k []=W[k]:=fun k hk=>by simp[hk]
 refine⟨hi,?_,fun k hk=>?_⟩
 ·rw[hg i hi]at hc;exact decide_eq_true hc
 ·intro z
  have z':cnt W[k] T=some c:=of_decide_eq_true z
  have:(k:Int)∈F:=(h k).mpr ⟨k,rfl,by omega,by rw[hg k (by omega)];exact z'⟩
  have:=hm _ this
  omega
def x3f (C:Addr):Sp:=fun vs H Q _=>∃ (p:Addr) (x:Tly),vs=[.ref p]/\Tal C H p x/\x.qs.length+x.ws.length<=16695000/\(∀ r∈x.ws,r.2.length<=100000) /\
 ∀ (ts:List Nw) (x':Tly) (H':Hp),Tal C H' p x'->Fr p x x' H H'->x'.ws=x.ws->x'.qs=x.qs++ts.map np->x'.at_=x.at_->x'.M=x.M->Run (wl x.ws) x.T (ts.map nn)->Q .non H'
section
variable {P:Program} {w:World} {K:W.Frag} {mg:Str->Option Value} {base:Heap} {C:Addr}
theorem x7n (B:Blt mg) (T:TallyCls K mg C) (m_put:MCal P w K mg base 3 C "put" z2i (spPut C)) (c_left_open:Cal P w K mg base 3 "left_open" z3s (x3d K)) (Df:MDef K C "go_on" "Tally.go_on" z2c z2f):MCal P w K mg base 4 C "go_on" z2f (x3f C):=by
 refine Df.cal sc_Tally_go_on (fun vs H Q E h=>?_) (fun f cdv A outer s H vs Q E hr h=>?_)
 ·obtain⟨p,x,rfl,_⟩:=h;rfl
 ·obtain⟨p,x0,rfl,hx0,hz,hlen,q⟩:=h
  have hu:=hu_of hr
  have cl:=T.cl
  refine⟨_,(z0e (z5z PassesOwn.never (PW.pt (y2x (z5y (z1m (pv 0) rfl) (fun _=>rfl)) (z9l (z4b (z5y (z1m (pv 0) rfl) (fun _=>rfl))))))
 (z0b (z0n (i:=1) sc_Tally_go_on.nd rfl (Or.inl rfl) (z0t (x6n rfl) (by rfl) B.min_ x9j (z0a (z1m (pv 0) rfl) z0d)))
 (z0e (z0r (z6d m_put cl hr (by decide) (pv 0) (z0a (pe_ix ix_list (z1d c_left_open hr (by decide) (z0a (pe_ix ix_list (z1m (pv 0) rfl) (pv 1) (fun _ _=>rfl)) (z0a (z1m (pv 0) rfl) z0d))) z0i (fun _ _=>rfl)) (z0a (pv 1) z0d)))))))),?_⟩
  have noP:∀ y:Tly,(flds y).lookup ("put" : Str)=none:=fun y=>fl_nx y (by decide +kernel)
  refine⟨fun m σ Hx=>∃ (x:Tly) (ts:List Nw) (v:Option V),m=live (wl x0.ws) x.T/\σ=[some (.ref p),v]/\Tal C Hx p x/\Fr p x0 x H Hx/\x.ws=x0.ws/\x.qs=x0.qs++ts.map np/\x.at_=x0.at_/\x.M=x0.M /\
   (∀ r,Run (wl x0.ws) x.T r->Run (wl x0.ws) x0.T (ts.map nn++r))/\ts.length+live (wl x0.ws) x.T<=x0.ws.length,
   ⟨_,x0,[],none,rfl,rfl,hx0,Fr.refl _ _ _,rfl,by simp,rfl,rfl,fun r hr=>by simpa using hr,by have:=w0j (wl x0.ws) x0.T;rw[z4a]at this;simpa using this⟩,?_⟩
  rintro m σ Hx ⟨x,ts,v,rfl,rfl,hx,fr,ew,eq,ea,eM,hrun,hlive⟩
  obtain⟨d,ob⟩:=hx.ty.ob
  have stop:z2v (wl x0.ws) x.T=none->Q .non Hx:=fun hn=>by
   have:=hrun [] (Run.stop hn)
   rw[List.append_nil]at this
   exact q ts x Hx hx fr ew eq ea eM this
  have hF:=z9q (tal_F hx)
  have hG:=z9q (tal_G hx)
  rw[ew]at hF hG
  refine⟨_,rfl,p,C,d,_,_,rfl,ob,T.cl,T.n8,z7s _,_,.inr (.inr ⟨_,hx.ty.hg,rfl⟩),ite2 (fun c1=>?_) (fun c1=>?_)⟩
  ·have g0:x.G≠[]:=fun z=>by rw[z]at c1;cases c1
   refine⟨_,rfl,p,C,d,_,_,rfl,ob,T.cl,T.n7,z7t _,_,.inr (.inr ⟨_,hx.ty.hf,rfl⟩),ite2 (fun c2=>?_) (fun c2=>?_)⟩
   ·have f0:x.F=[]:=by
     cases hf:x.F with
     | nil=>rfl
     | cons u r=>rw[hf]at c2;cases c2
    have hb:z1e (wl x0.ws) x.T=none:=hF.mp f0
    refine⟨_,fun σ' H' h=>h,?_⟩
    refine⟨_,rfl,p,C,d,_,_,rfl,ob,T.cl,T.n8,z7s _,x.ao,_,x.G,rfl,.inl hx.ty.hg,by simp[mk],g0,fun y hy hmin=>?_⟩
    obtain⟨i,rfl,ho⟩:=y6z (tal_G hx) hy hmin
    rw[ew]at ho
    obtain⟨l,hn⟩:=x4q hb ho
    obtain⟨_,_,wx,hwi,hk,hox,hxw,hxT,hnxT⟩:=z9n hn
    obtain⟨wr,hwr,ewx⟩:∃ wr:Wr,x.ws[i]?=some wr/\wr.2=wx:=by
     rw[ew]
     unfold wl at hwi
     rw[List.getElem?_map]at hwi
     cases hx:x0.ws[i]? with
     | none=>rw[hx]at hwi;cases hwi
     | some wr=>rw[hx]at hwi;exact⟨wr,rfl,Option.some.inj hwi⟩
    subst ewx
    have hmem:=List.mem_of_getElem? hwr
    have hli:=w0i hn
    refine⟨_,rfl,p,d,_,rfl,ob,noP _,_,rfl,p,C,d,_,_,rfl,ob,T.cl,T.n1,z8z _,_,rfl,x.aw,_,_,_,rfl,rfl,qLo hx.ty.hw,z4f (v:=.ref wr.1) (by unfold wrefs;rw[List.getElem?_map,hwr];rfl),_,rfl,p,C,d,_,_,rfl,ob,T.cl,T.n3,z5a _,wr.1,x.ad,wr.2,x.T,rfl,qLo (hx.ty.wo wr hmem),hx.ty.hd,hlen wr (by rw[←ew];exact hmem),fun hk'=>?_,fun _ l7 H7 hl7 sm7 h7=>⟨l7,_,_,.int l,rfl,rfl,qLo h7,?_,?_⟩⟩
    ·rw[hk]at hk';cases hk'
    ·rw[hox];rfl
    refine⟨_,rfl,p,x,l,some (i:Int),rfl,hx.same sm7,hxT,hnxT,by rw[ew];omega,by rw[eq];simp;omega,fun pt x' H' hx' fr' ew' eq' ea' eM'=>?_⟩
    have eT:x'.T=x.T++[l]:=by rw[hx'.T,eq',y9a,←hx.T];rfl
    refine⟨live (wl x0.ws) x'.T,by rw[eT];exact hli,x',ts++[(pt,l,i)],_,rfl,rfl,hx',(fr.trans (Fr.same sm7)).trans fr',by rw[ew',ew],by rw[eq',eq];simp[np],by rw[ea',ea],by rw[eM',eM],fun r hr=>?_,by rw[eT];simp;omega⟩
    rw[eT]at hr
    have:=hrun _ (Run.step hn hr)
    simpa[nn] using this
   ·have f0:x.F≠[]:=fun z=>by rw[z]at c2;exact c2 rfl
    exact stop (z9m fun z=>f0 (hF.mpr z))
  ·have g0:x.G=[]:=by
    cases hg:x.G with
    | nil=>rfl
    | cons u r=>rw[hg]at c1;exact absurd rfl c1
   have ho:oneAt (wl x0.ws) x.T=none:=hG.mp g0
   refine iteF (stop ?_)
   cases hb:z1e (wl x0.ws) x.T with
   | none=>exact x2c hb ho
   | some i=>exact z9m (by rw[hb];simp)
end
def y0o (C:Addr):Sp:=fun vs H Q _=>∃ (p:Addr) (x:Tly),vs=[.ref p]/\Tal C H p x/\Q (cV (z1e (wl x.ws) x.T)) H
theorem x8e (T:List Int) (l:Int) (h:¬ l∈T):dropK (mk (T++[l])) (Sum.inl l:Key)=mk T:=by
 rw[y9c,List.filter_append]
 have e1:T.filter (fun z=>!decide (z=l))=T:=List.filter_eq_self.mpr fun z hz=>by
  have:z≠l:=fun q=>h (q ▸ hz)
  simp[this]
 rw[e1];simp
def spOff (C:Addr):Sp:=fun vs H Q _=>∃ (p:Addr) (x:Tly) (rs:List Pr) (t:Pr),vs=[.ref p]/\Tal C H p x/\x.qs=rs++[t]/\x.ws.length<=16700000 /\
 ∀ (x':Tly) (H':Hp),Tal C H' p x'->Fr p x x' H H'->x'.ws=x.ws->x'.qs=rs->x'.at_=x.at_->x'.M=x.M->Q (.ref t.1) H'
section
variable {P:Program} {w:World} {K:W.Frag} {mg:Str->Option Value} {base:Heap} {C:Addr}
theorem y1p (B:Blt mg) (T:TallyCls K mg C) (Df:MDef K C "first_broken" "Tally.first_broken" z1a z0x):MCal P w K mg base 1 C "first_broken" z0x (y0o C):=by
 refine Df.cal z7c (fun vs H Q E h=>?_) (fun f cdv A outer s H vs Q E hr h=>?_)
 ·obtain⟨p,x,rfl,_⟩:=h;rfl
 ·obtain⟨p,x,rfl,hx,q⟩:=h
  refine⟨_,(z0e (z0o (x7h rfl B.min_ (z1m (pv 0) rfl) z6g))),?_⟩
  obtain⟨d,ob⟩:=hx.ty.ob
  refine⟨_,rfl,p,C,d,_,_,rfl,ob,T.cl,T.n7,z7t x,x.af,_,x.F,rfl,.inl hx.ty.hf,by simp[mk],fun e=>?_,fun y hy hm=>?_⟩
  ·have:z1e (wl x.ws) x.T=none:=(z9q (tal_F hx)).mp e
   rw[this]at q;exact q
  ·obtain⟨i,rfl,ho⟩:=y6z (tal_F hx) hy hm
   have:z1e (wl x.ws) x.T=some i:=ho
   rw[this]at q;exact q
theorem y8j (T:TallyCls K mg C) (m_count_letter:MCal P w K mg base 2 C "count_letter" z0y (y0p C)) (Df:MDef K C "take_off" "Tally.take_off" z1i z1k):MCal P w K mg base 3 C "take_off" z1k (spOff C):=by
 refine Df.cal sc_Tally_take_off (fun vs H Q E h=>?_) (fun f cdv A outer s H vs Q E hr h=>?_)
 ·obtain⟨p,x,rs,t,rfl,_⟩:=h;rfl
 ·obtain⟨p,x,rs,t,rfl,hx,eq,hz,q⟩:=h
  have hu:=hu_of hr
  have cl:=T.cl
  refine⟨_,(z0b (z0n (i:=1) sc_Tally_take_off.nd rfl (Or.inl rfl) (z4d PySem.F.plainAttrs_list PySem.F.slot_list_pop PySem.F.type_list_pop z4e (z1m (pv 0) rfl)))
 (z0b (z0r (x7k (z1m (pv 0) rfl) (pe_ix y0c (pv 1) z0i (fun _ _=>rfl)) ⟨rfl,rfl,rfl,rfl⟩))
 (z0b (z0r (z6d m_count_letter cl hr (by decide) (pv 0) (z0a (pe_ix y0c (pv 1) z0i (fun _ _=>rfl)) (z0a (pe_un z1c z0i) z0d))))
 (z0e (z0o (pv 1)))))),?_⟩
  obtain⟨d,ob⟩:=hx.ty.ob
  have eT:x.T=lets rs++[t.2.1]:=by rw[hx.T,eq];simp[lets]
  have hd:=hx.dis
  rw[eT]at hd
  obtain⟨hd0,hl,hnl⟩:=hd.init
  have ht:=hx.ty.ht
  have er:refs x.qs=refs rs++[V.ref t.1]:=by rw[eq];simp[refs]
  rw[er]at ht
  have htt:H t.1=some (.tup [.int t.2.1,wv t.2.2]):=hx.ty.to t (by rw[eq];simp)
  refine⟨_,rfl,p,C,d,_,_,rfl,ob,T.cl,T.n2,z7r x,.inl ⟨rfl,_,qLo ht⟩,?_⟩
  refine⟨x.at_,_,.ref t.1,rfl,rfl,ht,by simp,?_⟩
  have edl:(refs rs++[V.ref t.1]).dropLast=refs rs:=by simp
  dsimp only
  rw[edl]
  have h1:=hx.ty.setQ (qs':=rs) (fun q hq=>hx.ty.to q (by rw[eq];exact List.mem_append.mpr (.inl hq)))
  have fr1:Fr p x { x with qs:=rs } H (upd H x.at_ (.lst (refs rs))):=z5q x0r fun _ h=>.inl h
  have nta:t.1≠x.at_:=ne_of htt ht (by intro z;cases z)
  have htt1:upd H x.at_ (.lst (refs rs)) t.1=some (.tup [.int t.2.1,wv t.2.2]):=by rw[z0g nta];exact htt
  generalize upd H x.at_ (.lst (refs rs))=H1 at h1 fr1 htt1
  obtain⟨d1,ob1⟩:=h1.ob
  obtain⟨v,hval⟩:∃ v,valV (mk x.T) (Sum.inl t.2.1:Key)=some v:=by
   have:=z7b x.T t.2.1
   rw[decide_eq_true (show t.2.1∈x.T by rw[eT];simp)]at this
   exact Option.isSome_iff_exists.mp this
  refine⟨_,rfl,p,C,d1,_,_,rfl,ob1,T.cl,T.n3,z5a _,x.ad,rfl,.inl ⟨_,.inl h1.hd⟩,_,rfl,.inr (.inl ⟨t.1,_,_,_,rfl,rfl,qTo htt1,rfl,_,Sum.inl t.2.1,_,h1.hd,rfl,hval,?_⟩)⟩
  have edr:dropK (mk ({ x with qs:=rs }:Tly).T) (Sum.inl t.2.1:Key)=mk (lets rs):=by
   show dropK (mk x.T) _=_
   rw[eT];exact x8e _ _ hl
  rw[edr]
  have h2:=h1.setT (lets rs)
  have fr2:Fr p x { x with qs:=rs,T:=lets rs } H (upd H1 x.ad (.dK (mk (lets rs)))):=fr1.trans (z5q x5v fun _ h=>.inl h)
  have htt2:upd H1 x.ad (.dK (mk (lets rs))) t.1=some (.tup [.int t.2.1,wv t.2.2]):=by rw[z0g (ne_of htt1 h1.hd (by intro z;cases z))];exact htt1
  generalize upd H1 x.ad (.dK (mk (lets rs)))=H2 at h2 fr2 htt2
  obtain⟨d2,ob2⟩:=h2.ob
  have noC:(flds { x with qs:=rs,T:=lets rs }).lookup ("count_letter" : Str)=none:=fl_nx _ (by decide +kernel)
  obtain⟨e1,e2⟩:=hx.lens
  have eso:addAt x.so (idxs (wl x.ws) t.2.1) (-1)=(wl x.ws).map fun v=>(soN v (lets rs):Int):=by
   rw[hx.so,eT]
   refine z9f fun v=>?_
   have:=y9t (v:=v) (T:=lets rs) (x:=t.2.1) hl
   split<;>simp_all<;>omega
  have elf:addAt x.left (idxs (wl x.ws) (-t.2.1)) (- -1)=(wl x.ws).map fun v=>(leftN v (lets rs):Int):=by
   rw[hx.lf,eT]
   refine z9f fun v=>?_
   have:=y3d (v:=v) (T:=lets rs) (x:=t.2.1) hl
   split<;>simp_all<;>omega
  refine⟨_,rfl,p,d2,_,rfl,ob2,noC,_,rfl,.inr (.inl ⟨t.1,_,_,_,rfl,rfl,qTo htt2,rfl,1,rfl,p,_,t.2.1,-1,rfl,.inr rfl,h2,hx.fg,by show x.left.length=x.so.length;omega,by show x.so.length<=_;omega,fun y i hi=>?_,fun y=>?_,fun F' G' H' h4 fr4 fg4=>?_⟩)⟩
  ·have hi':i∈ilook x.M y:=hi
   rw[hx.pl y]at hi'
   have:=(in_idxs.mp hi').1
   rw[z4a]at this
   show i < x.so.length
   omega
  ·show (ilook x.M y).Nodup
   rw[hx.pl y];exact x5o _ _
  ·refine⟨_,rfl,q _ H' ⟨h4,rfl,hx.pl,?_,?_,fg4,hd0,hx.ne⟩ (fr2.trans fr4) rfl rfl rfl rfl⟩
   ·show addAt x.so (ilook x.M t.2.1) (-1)=_
    rw[hx.pl t.2.1];exact eso
   ·show addAt x.left (ilook x.M (-t.2.1)) (- -1)=_
    rw[hx.pl (-t.2.1)];exact elf
end
def y7r (C:Addr):Sp:=fun vs H Q _=>∃ (p:Addr) (x:Tly) (c:Nat),vs=[.int c,.ref p]/\Tal C H p x/\c<=100000/\∀ l H',H l=none->Same H H'->H' l=some (.lst ((List.range c).map fun (i:Nat)=>V.bl (decide ((1+(i:Int))∈x.T))))->Q (.ref l) H'
section
variable {P:Program} {w:World} {K:W.Frag} {mg:Str->Option Value} {base:Heap} {C:Addr}
theorem y4k (B:Blt mg) (T:TallyCls K mg C) (Df:Def K mg "setting_of" z2n z3d):Cal P w K mg base 1 "setting_of" z3d (y7r C):=by
 refine Df.cal y4d (fun vs H Q E h=>?_) (fun f cdv A outer s H vs Q E hr h=>?_)
 ·obtain⟨p,x,c,rfl,_⟩:=h;rfl
 ·obtain⟨p,x,c,rfl,hx,hz,q⟩:=h
  have hu:=hu_of hr
  refine⟨_,(z0e (z0o (z6s (fvn:=["tally"]) (js:=[1]) rfl (y1l (by rfl) B.range_ (z0a z0i (z0a (pe_op z9z (pv 0) z0i) z0d))) (.cons rfl (by first | exact .inl rfl | exact .inr rfl) rfl .nil) ⟨by decide +kernel,rfl,by decide +kernel,rfl,by decide +kernel,by decide +kernel⟩ (fun _ _ _ _ _=>y8b) (fun _ _ _ _ _=>(w1q (x0c hu (pv 0) (y8f (K:=K) rfl (pv 1) rfl))))))),?_⟩
  obtain⟨d,ob⟩:=hx.ty.ob
  refine⟨_,rfl,_,_,rfl,rfl,_,_,rfl,⟨by omega,by omega,by omega,by omega⟩,?_⟩
  have en:((c:Int)+1 - 1).toNat=c:=by omega
  rw[en]
  refine y3m (fun _=>true) (fun i=>V.bl (decide ((1+(i:Int))∈x.T))) (z1o (by omega)) (fun i hi R hR=>hR) (fun i hi _ R hR=>?_) (fun l hl=>?_)
  ·refine⟨_,rfl,_,rfl,p,C,d,_,_,rfl,ob,T.cl,T.n3,z5a _,x.ad,_,rfl,DGet.k (k:=Sum.inl (1+(i:Int))) hx.ty.hd,?_⟩
   rw[z7b];exact hR
  ·refine q l _ hl ((smR H).upd hl) ?_
   rw[z0c,x5z]
end
def absI (n:Int):Int:=if n < 0 then -n else n
theorem x0p (x:Int) (ls:List Int):inV (.int x) (ls.map V.int)=decide (x∈ls):=by
 unfold inV
 rw[List.any_map,Bool.eq_iff_iff,List.any_eq_true]
 constructor
 ·rintro⟨y,hy,e⟩
  have e':(y == x)=true:=e
  rw[←eq_of_beq e'];exact decide_eq_true hy
 ·intro h
  exact⟨x,of_decide_eq_true h,by show (x == x)=true;simp⟩
theorem z7i (ls:List Int):(ls.map V.int).all flatV=true:=by
 rw[List.all_map];simp[Function.comp_def,flatV]
theorem y0u {x:Int} {ls:List Int} {A B:Prop} (h1:¬ x∈ls->A) (h2:x∈ls->B):if (if true=true then !inV (.int x) (ls.map V.int) else inV (.int x) (ls.map V.int))=true then A else B:=by
 rw[x0p,if_pos rfl]
 refine ite2 (fun c=>h1 ?_) fun c=>h2 ?_
 ·intro z;rw[decide_eq_true z]at c;cases c
 ·by_cases z:x∈ls
  ·exact z
  ·exact absurd (by rw[decide_eq_false z];rfl) c
def mrows (x:Int) (ns ms:List Int):List Int:=ns.filter (fun n=>!decide (n=x))++ms.filter (fun n=>!decide (n=-x))
def mostF (m n:Int):Int:=if absI n > m then absI n else m
def most (ns:List Int):Int:=ns.foldl mostF 0
theorem x4y (ns:List Int) (n:Int):most (ns++[n])=mostF (most ns) n:=by simp[most,List.foldl_append]
theorem x7v (m n:Int):m<=mostF m n/\-(mostF m n)<=n/\n<=mostF m n:=by unfold mostF absI;split<;>split at *<;>omega
theorem y8w:∀ (ns:List Int) (m:Int),m<=ns.foldl mostF m/\∀ n∈ns,-(ns.foldl mostF m)<=n/\n<=ns.foldl mostF m
 | [],m=>⟨Int.le_refl _,fun _ h=>nomatch h⟩
 | n::ns,m=>by
  obtain⟨h1,h2⟩:=y8w ns (mostF m n)
  obtain⟨g1,g2,g3⟩:=x7v m n
  refine⟨Int.le_trans g1 h1,fun k hk=>?_⟩
  rcases List.mem_cons.mp hk with rfl | hk
  ·exact⟨by simp only[List.foldl_cons];omega,by simp only[List.foldl_cons];omega⟩
  ·exact h2 k hk
theorem x5a {b:Int}:∀ (ns:List Int) (m:Int),m<=b->(∀ n∈ns,-b<=n/\n<=b)->ns.foldl mostF m<=b
 | [],_,h,_=>h
 | n::ns,m,h,h2=>x5a ns (mostF m n) (by have:=h2 n List.mem_cons_self;unfold mostF absI;split<;>split at *<;>omega) fun k hk=>h2 k (List.mem_cons_of_mem _ hk)
theorem x4z (ns:List Int):0<=most ns:=(y8w ns 0).1
def rise (ns:List Int):List Int:=((List.range (most ns+1 - (0 - most ns)).toNat).filter fun i:Nat=>decide (0 - most ns+(i:Int)∈ns)).map fun i:Nat=>0 - most ns+(i:Int)
theorem mem_rise {ns:List Int} {x:Int}:x∈rise ns↔x∈ns:=by
 unfold rise
 rw[List.mem_map]
 constructor
 ·rintro⟨i,hi,rfl⟩
  exact of_decide_eq_true (List.mem_filter.mp hi).2
 ·intro h
  have h0:=x4z ns
  have h1:=(y8w ns 0).2 x h
  have h1':-(most ns)<=x/\x<=most ns:=h1
  have e:0 - most ns+(((x+most ns).toNat:Nat):Int)=x:=by omega
  refine⟨(x+most ns).toNat,List.mem_filter.mpr ⟨List.mem_range.mpr (by omega),?_⟩,e⟩
  apply decide_eq_true
  rw[e];exact h
theorem z6p (ns:List Int):y2l ns (rise ns):=by
 refine⟨?_,fun x=>mem_rise⟩
 unfold rise
 rw[List.pairwise_map]
 refine List.Pairwise.sublist List.filter_sublist ?_
 refine List.Pairwise.imp (fun {a b} h=>?_) (List.pairwise_lt_range)
 omega
theorem y1d:∀ {a b:List Int},a.Pairwise (· < ·)->b.Pairwise (· < ·)->(∀ x,x∈a↔x∈b)->a=b
 | [],[],_,_,_=>rfl
 | [],y::b,_,_,h=>absurd ((h y).mpr List.mem_cons_self) (fun z=>nomatch z)
 | x::a,[],_,_,h=>absurd ((h x).mp List.mem_cons_self) (fun z=>nomatch z)
 | x::a,y::b,ha,hb,h=>by
  obtain⟨ha1,ha2⟩:=List.pairwise_cons.mp ha
  obtain⟨hb1,hb2⟩:=List.pairwise_cons.mp hb
  have e:x=y:=by
   have h1:=(h x).mp List.mem_cons_self
   have h2:=(h y).mpr List.mem_cons_self
   rcases List.mem_cons.mp h1 with z | z
   ·exact z
   rcases List.mem_cons.mp h2 with z2 | z2
   ·exact z2.symm
   have:=hb1 x z
   have:=ha1 y z2
   omega
  subst e
  congr 1
  refine y1d ha2 hb2 fun z=>⟨fun hz=>?_,fun hz=>?_⟩
  ·rcases List.mem_cons.mp ((h z).mp (List.mem_cons_of_mem _ hz)) with r | r
   ·have:=ha1 z hz;omega
   ·exact r
  ·rcases List.mem_cons.mp ((h z).mpr (List.mem_cons_of_mem _ hz)) with r | r
   ·have:=hb1 z hz;omega
   ·exact r
theorem y8a {ns a b:List Int} (ha:y2l ns a) (hb:y2l ns b):a=b:=y1d ha.1 hb.1 fun x=>(ha.2 x).trans (hb.2 x).symm
def mrg (x:Int) (ns ms:List Int):List Int:=rise (mrows x ns ms)
theorem w1w {x:Int} {ns ms zs:List Int} (h:y2l (ns.filter (fun n=>!decide (n=x))++ms.filter (fun n=>!decide (n=-x))) zs):zs=mrg x ns ms:=y8a h (z6p _)
theorem mem_mrows {x y:Int} {ns ms:List Int}:y∈mrows x ns ms↔(y∈ns/\y≠x)∨(y∈ms/\y≠-x):=by
 unfold mrows
 rw[List.mem_append,List.mem_filter,List.mem_filter]
 simp
theorem mem_mrg {x y:Int} {ns ms:List Int}:y∈mrg x ns ms↔(y∈ns/\y≠x)∨(y∈ms/\y≠-x):=mem_rise.trans mem_mrows
theorem y6p (x:Int) (ns ms:List Int):(mrows x ns ms).length<=ns.length+ms.length:=by
 unfold mrows
 rw[List.length_append]
 exact Nat.add_le_add (List.length_filter_le _ _) (List.length_filter_le _ _)
theorem z9i:∀ {a b:List Int},a.Pairwise (· < ·)->(∀ x∈a,x∈b)->a.length<=b.length
 | [],_,_,_=>Nat.zero_le _
 | x::a,b,ha,h=>by
  obtain⟨ha1,ha2⟩:=List.pairwise_cons.mp ha
  have hx:x∈b:=h x List.mem_cons_self
  have:=z9i (a:=a) (b:=b.erase x) ha2 fun y hy=>by
   have hne:y≠x:=by have:=ha1 y hy;omega
   exact (List.mem_erase_of_ne hne).mpr (h y (List.mem_cons_of_mem _ hy))
  rw[List.length_erase_of_mem hx]at this
  have hp:0 < b.length:=List.length_pos_of_mem hx
  rw[List.length_cons];omega
theorem w0h (x:Int) (ns ms:List Int):(mrg x ns ms).length<=ns.length+ms.length:=Nat.le_trans (z9i (z6p _).1 fun y hy=>((z6p _).2 y).mp hy) (y6p x ns ms)
def spMrg (K:W.Frag):Sp:=fun vs H Q _=>∃ (a b:Addr) (x:Int) (ns ms:List Int),vs=[.ref a,.ref b,.int x]/\SqL K H a (ns.map V.int)/\SqL K H b (ms.map V.int)/\ns.length+ms.length < 64/\x∈ns/\-x∈ms/\∀ l H',H l=none->Same H H'->H' l=some (.lst ((mrg x ns ms).map V.int))->Q (.ref l) H'
section
variable {P:Program} {w:World} {K:W.Frag} {mg:Str->Option Value} {base:Heap}
theorem y8m (B:Blt mg) (Df:Def K mg "merged" z5t z6v):Cal P w K mg base 1 "merged" z6v (spMrg K):=by
 refine Df.cal sc_merged (fun vs H Q E h=>?_) (fun f cdv A outer s H vs Q E hr h=>?_)
 ·obtain⟨a,b,x,ns,ms,rfl,_⟩:=h;rfl
 ·obtain⟨a,b,x,ns,ms,rfl,hS,hT,hz,hy,hy2,q2⟩:=h
  refine⟨_,z0b (ps_if (z0k z6b (pv 2) (pv 0) (by with_unfolding_all rfl)) (z0e y9z) z0q)
   (z0b (ps_if (z0k z6b (pe_un z1c (pv 2)) (pv 1) (by with_unfolding_all rfl)) (z0e y9z) z0q)
    (z0b (x3u (i:=3) sc_merged.nd rfl (Or.inl rfl) (fvn:=["lamp"]) (js:=[2]) rfl (z1u (pv 0)) (.cons rfl (by first | exact .inl rfl | exact .inr rfl) rfl .nil) ⟨by decide +kernel,rfl,by decide +kernel,rfl,by decide +kernel,by decide +kernel⟩ (fun _ _ _ _ _=>(z7d (z0k op_ne (pv 0) (pv 1) (z0p _)))) (fun _ _ _ _ _=>(pv 0)))
 (z0b (x3u (i:=4) sc_merged.nd rfl (Or.inl rfl) (fvn:=["lamp"]) (js:=[2]) rfl (z1u (pv 1)) (.cons rfl (by first | exact .inl rfl | exact .inr rfl) rfl .nil) ⟨by decide +kernel,rfl,by decide +kernel,rfl,by decide +kernel,by decide +kernel⟩ (fun _ _ _ _ _=>(z7d (z0k op_ne (pv 0) (pe_un z1c (pv 1)) (z0p _)))) (fun _ _ _ _ _=>(pv 0)))
 (z0e (z0o (y5z rfl B.sorted_ B.set_ (pe_op y3a (pv 3) (pv 4)))))))),?_⟩
  refine⟨_,rfl,_,rfl,a,_,rfl,.inl hS,rfl,z7i _,_,rfl,y0u (fun hn=>absurd hy hn) (fun _=>?_)⟩
  refine⟨_,rfl,x,rfl,_,rfl,b,_,rfl,.inl hT,rfl,z7i _,_,rfl,y0u (fun hn=>absurd hy2 hn) (fun _=>?_)⟩
  have ne1:∀ n y:Int,(!decide (V.int n=V.int y))=(!decide (n=y)):=fun n y=>by simp
  dsimp only[tNext]
  refine z9x (t:=tAsg (tComp _ _ _ _) _) (y5u (z3v (K:=K) ?_))
  refine⟨_,rfl,a,rfl,⟨_,hS⟩,?_⟩
  refine z5m (K:=K) (a:=a) (xs:=ns) (g:=V.int) (fun n=>!decide (n=x)) V.int (z1o (by omega)) hS (fun n _ R hR=>?_) (fun n _ _ R hR=>⟨_,rfl,hR⟩) (fun l1 hl1=>?_)
  ·refine⟨_,rfl,_,rfl,rfl,_,rfl,?_⟩
   rw[ne1]
   exact hR
  have sm1:Same H (upd H l1 (.lst ((ns.filter fun n=>!decide (n=x)).map V.int))):=(smR H).upd hl1
  have g1:upd H l1 (.lst ((ns.filter fun n=>!decide (n=x)).map V.int)) l1=some (.lst ((ns.filter fun n=>!decide (n=x)).map V.int)):=z0c
  generalize upd H l1 (.lst ((ns.filter fun n=>!decide (n=x)).map V.int))=H1 at sm1 g1
  dsimp only[gName]
  refine z9x (t:=tAsg (tComp _ _ _ _) _) (y5u (z3v (K:=K) ?_))
  refine⟨_,rfl,b,rfl,⟨_,sm1.seq hT⟩,?_⟩
  refine z5m (K:=K) (a:=b) (xs:=ms) (g:=V.int) (fun n=>!decide (n=-x)) V.int (z1o (by omega)) (sm1.seq hT) (fun n _ R hR=>?_) (fun n _ _ R hR=>⟨_,rfl,hR⟩) (fun l2 hl2=>?_)
  ·refine⟨_,rfl,_,rfl,_,rfl,rfl,_,rfl,?_⟩
   rw[ne1]
   exact hR
  have n12:l1≠l2:=z0h g1 hl2
  have sm2:Same H (upd H1 l2 (.lst ((ms.filter fun n=>!decide (n=-x)).map V.int))):=sm1.upd (sm1.free hl2)
  have g2:upd H1 l2 (.lst ((ms.filter fun n=>!decide (n=-x)).map V.int)) l2=some (.lst ((ms.filter fun n=>!decide (n=-x)).map V.int)):=z0c
  have g12:upd H1 l2 (.lst ((ms.filter fun n=>!decide (n=-x)).map V.int)) l1=some (.lst ((ns.filter fun n=>!decide (n=x)).map V.int)):=by rw[z0g n12];exact g1
  generalize upd H1 l2 (.lst ((ms.filter fun n=>!decide (n=-x)).map V.int))=H2 at sm2 g2 g12
  have f1:(ns.filter fun n=>!decide (n=x)).length<=ns.length:=List.length_filter_le _ _
  have f2:(ms.filter fun n=>!decide (n=-x)).length<=ms.length:=List.length_filter_le _ _
  refine⟨_,rfl,_,rfl,l1,l2,_,_,rfl,rfl,g12,g2,by have:=sizeLine_eq;simp only[List.length_map];omega,fun l3 hl3=>?_⟩
  refine⟨l3,ns.filter (fun n=>!decide (n=x))++ms.filter (fun n=>!decide (n=-x)),rfl,by rw[z0c];simp,by simp only[List.length_append];omega,fun l zs hl hR=>?_⟩
  have sm3:Same H (upd H2 l3 (.lst ((ns.filter fun n=>!decide (n=x)).map V.int++(ms.filter fun n=>!decide (n=-x)).map V.int))):=sm2.upd (sm2.free hl3)
  exact q2 l _ (sm3.free hl) (sm3.upd (sm3.free hl)) (by rw[z0c,w1w hR])
end
abbrev Stp:=Int × Int × Int × List Int
abbrev Sr:=Addr × Addr × Stp
def srefs (ss:List Sr):List V:=ss.map fun s=>V.ref s.1
def tupS (t:Stp) (m:Addr):HO:=.tup [.int t.1,.int t.2.1,.int t.2.2.1,.ref m]
def SsOk (H:Hp) (ss:List Sr):Prop:=∀ s∈ss,H s.1=some (tupS s.2.2 s.2.1)/\H s.2.1=some (.lst (s.2.2.2.2.2.map V.int))
def sls (ss:List Sr):List Stp:=ss.map fun s=>s.2.2
theorem SsOk.mono {H H':Hp} {ss:List Sr} (h:SsOk H ss) (e:Same H H'):SsOk H' ss:=fun s hs=>⟨e _ _ (h s hs).1,e _ _ (h s hs).2⟩
theorem SsOk.snoc {H:Hp} {ss:List Sr} {s:Sr} (h:SsOk H ss) (h1:H s.1=some (tupS s.2.2 s.2.1)) (h2:H s.2.1=some (.lst (s.2.2.2.2.2.map V.int))):SsOk H (ss++[s]):=fun x hx=>by
 rcases mApp hx with z | z
 ·exact h x z
 ·have:x=s:=by simpa using z
  rw[this];exact⟨h1,h2⟩
theorem z5g (ss:List Sr):(srefs ss).length=ss.length:=by simp[srefs]
theorem y1e (ss:List Sr):(sls ss).length=ss.length:=by simp[sls]
theorem z9g (ss:List Sr) (s:Sr):srefs (ss++[s])=srefs ss++[.ref s.1]:=by simp[srefs]
theorem y4a (ss:List Sr) (s:Sr):sls (ss++[s])=sls ss++[s.2.2]:=by simp[sls]
theorem x8v {ss:List Sr} {i:Nat} {y:V} (h:(srefs ss)[i]?=some y):∃ q,ss[i]?=some q/\y=.ref q.1:=by
 obtain⟨q,h1,h2⟩:=getV (f:=fun p:Sr=>V.ref p.1) h
 exact⟨q,h1,h2⟩
abbrev Pd:=Int × Option Int
def stepB (W:List (List Int)) (hand:Int) (wish:List Int) (l j:Int):Stp :=
 if 0 < l then (j,hand,l,mrg l (W.getD j.toNat []) wish) else (hand,j,-l,mrg (-l) wish (W.getD j.toNat []))
def goB (W:List (List Int)):List Pd->Int->List Int->Int->List Pd × List Stp
 | [],_,_,_=>([],[])
 | (l,why)::r,hand,wish,n =>
  if -l∈wish then
   match why with
   | none=>((-l,some hand)::r,[])
   | some j=>((goB W r n (stepB W hand wish l j).2.2.2 (n+1)).1,stepB W hand wish l j::(goB W r n (stepB W hand wish l j).2.2.2 (n+1)).2)
  else goB W r hand wish n
theorem z7q {W:List (List Int)} {l:Int} {why:Option Int} {r:List Pd} {hand:Int} {wish:List Int} {n:Int} (c:¬ -l∈wish):goB W ((l,why)::r) hand wish n=goB W r hand wish n:=by
 cases why<;>rw[goB,if_neg c]
def Tv (W:List (List Int)):List Pd->Prop
 | []=>True
 | (l,why)::r=>l≠0/\(∀ j,why=some j->0<=j/\j < W.length/\l∈W.getD j.toNat []/\∀ y∈W.getD j.toNat [],y≠l->-y∈r.map (·.1))/\Tv W r
def Cov (wish:List Int) (r:List Pd):Prop:=∀ y∈wish,-y∈r.map (·.1)
theorem mem_stepB {W:List (List Int)} {hand:Int} {wish:List Int} {l j y:Int}:y∈(stepB W hand wish l j).2.2.2↔(y∈W.getD j.toNat []/\y≠l)∨(y∈wish/\y≠-l):=by
 unfold stepB
 split
 ·exact mem_mrg
 ·show y∈mrg (-l) wish (W.getD j.toNat [])↔_
  rw[mem_mrg,Int.neg_neg]
  exact Or.comm
theorem z9u (W:List (List Int)) (hand:Int) (wish:List Int) (l j:Int):(stepB W hand wish l j).2.2.2.Pairwise (· < ·):=by
 unfold stepB
 split<;>exact (z6p _).1
theorem Cov.skip {wish:List Int} {r:List Pd} {l:Int} {why:Option Int} (h:Cov wish ((l,why)::r)) (hn:¬ -l∈wish):Cov wish r:=fun y hy=>by
 rcases List.mem_cons.mp (h y hy) with z | z
 ·exact absurd (by rw[←(show -y=l from z),Int.neg_neg];exact hy) hn
 ·exact z
theorem Cov.step {W:List (List Int)} {wish:List Int} {r:List Pd} {l j hand:Int} (h:Cov wish ((l,some j)::r)) (hj:∀ y∈W.getD j.toNat [],y≠l->-y∈r.map (·.1)):Cov (stepB W hand wish l j).2.2.2 r:=fun y hy=>by
 rcases mem_stepB.mp hy with ⟨z,n⟩ | ⟨z,n⟩
 ·exact hj y z n
 ·rcases List.mem_cons.mp (h y z) with e | e
  ·have e':-y=l:=e
   exact absurd (by omega) n
  ·exact e
theorem Cov.len {wish:List Int} {r:List Pd} (h:Cov wish r) (hs:wish.Pairwise (· < ·)):wish.length<=r.length:=by
 have:=z9i (b:=r.map fun p=>-p.1) hs fun y hy=>by
  obtain⟨p,hp,e⟩:=List.mem_map.mp (h y hy)
  exact List.mem_map.mpr ⟨p,hp,by rw[e,Int.neg_neg]⟩
 simpa using this
def y7n (W:List (List Int)) (t:Stp):Prop:=0<=t.1/\t.1 < W.length/\0<=t.2.1/\t.2.1 < W.length/\1<=t.2.2.1/\t.2.2.1∈W.getD t.1.toNat []/\-t.2.2.1∈W.getD t.2.1.toNat []/\t.2.2.2=mrg t.2.2.1 (W.getD t.1.toNat []) (W.getD t.2.1.toNat [])
def z2k:List (List Int)->List Stp->Prop
 | _,[]=>True
 | W,t::ts=>y7n W t/\z2k (W++[t.2.2.2]) ts
theorem y6w {W V:List (List Int)} {j:Int} (h:j.toNat < W.length):(W++V).getD j.toNat []=W.getD j.toNat []:=by
 simp[List.getD,List.getElem?_append_left h]
theorem y7p {W V:List (List Int)} {hand:Int} {wish:List Int} {l j:Int} (l0:l≠0) (j0:0<=j) (j1:j < W.length) (hl:l∈W.getD j.toNat []) (h0:0<=hand) (h1:hand < (W++V).length) (hw:(W++V).getD hand.toNat []=wish) (hm:-l∈wish) :
 y7n (W++V) (stepB W hand wish l j):=by
 have e:(W++V).getD j.toNat []=W.getD j.toNat []:=y6w (by omega)
 have ln:W.length<=(W++V).length:=by simp
 unfold stepB
 by_cases c:0 < l
 ·rw[if_pos c]
  refine⟨j0,?_,h0,h1,?_,?_,?_,?_⟩
  ·show j < ((W++V).length:Int);omega
  ·show 1<=l;omega
  ·show l∈(W++V).getD j.toNat [];rw[e];exact hl
  ·show -l∈(W++V).getD hand.toNat [];rw[hw];exact hm
  ·show mrg l (W.getD j.toNat []) wish=mrg l ((W++V).getD j.toNat []) ((W++V).getD hand.toNat []);rw[e,hw]
 ·rw[if_neg c]
  refine⟨h0,h1,j0,?_,?_,?_,?_,?_⟩
  ·show j < ((W++V).length:Int);omega
  ·show 1<=-l;omega
  ·show -l∈(W++V).getD hand.toNat [];rw[hw];exact hm
  ·show - -l∈(W++V).getD j.toNat [];rw[e,Int.neg_neg];exact hl
  ·show mrg (-l) wish (W.getD j.toNat [])=mrg (-l) ((W++V).getD hand.toNat []) ((W++V).getD j.toNat []);rw[e,hw]
def z5l (hand n:Int):List Stp->Int
 | []=>hand
 | _::ts=>z5l n (n+1) ts
def z8i (wish:List Int):List Stp->List Int
 | []=>wish
 | t::ts=>z8i t.2.2.2 ts
structure Gone2 (r t:List Pd) (hand:Int) (wish:List Int):Prop where
 nil:t=[]->wish=[]
 cons:t≠[]->∃ r1 l r2,r=r1++(l,none)::r2/\t=(-l,some hand)::r2/\-l∈wish/\∀ y∈wish,y≠-l->-y∈r2.map (·.1)
theorem z8w (W:List (List Int)):∀ (r:List Pd) (V:List (List Int)) (hand:Int) (wish:List Int) (n:Int),n=((W++V).length:Nat)->Tv W r->Cov wish r->0<=hand->hand < (W++V).length->(W++V).getD hand.toNat []=wish ->
 z2k (W++V) (goB W r hand wish n).2/\Gone2 r (goB W r hand wish n).1 (z5l hand n (goB W r hand wish n).2) (z8i wish (goB W r hand wish n).2)
 | [],V,hand,wish,n,hn,hv,hc,h0,h1,hw=>by
  refine⟨trivial,fun _=>?_,fun z=>absurd rfl z⟩
  show wish=[]
  cases wish with
  | nil=>rfl
  | cons y ys=>exact absurd (hc y List.mem_cons_self) (by simp)
 | (l,why)::r,V,hand,wish,n,hn,hv,hc,h0,h1,hw=>by
  obtain⟨l0,hj,hv'⟩:=hv
  by_cases c:-l∈wish
  ·cases why with
   | none =>
    have e:goB W ((l,none)::r) hand wish n=((-l,some hand)::r,[]):=by rw[goB,if_pos c]
    rw[e]
    refine⟨trivial,fun z=>by simp at z,fun _=>⟨[],l,r,rfl,rfl,c,fun y hy hne=>?_⟩⟩
    rcases List.mem_cons.mp (hc y hy) with z | z
    ·exact absurd (by have z':-y=l:=z;omega) hne
    ·exact z
   | some j =>
    obtain⟨j0,j1,jm,jo⟩:=hj j rfl
    have e:goB W ((l,some j)::r) hand wish n=((goB W r n (stepB W hand wish l j).2.2.2 (n+1)).1,stepB W hand wish l j::(goB W r n (stepB W hand wish l j).2.2.2 (n+1)).2):=by rw[goB,if_pos c]
    rw[e]
    have hr:=y7p (V:=V) l0 j0 j1 jm h0 h1 hw c
    have hcs:Cov (stepB W hand wish l j).2.2.2 r:=hc.step jo
    generalize stepB W hand wish l j=St at hr hcs
    obtain⟨a,b⟩:=z8w W r (V++[St.2.2.2]) n St.2.2.2 (n+1) (by rw[hn];simp;omega) hv' hcs (by omega) (by rw[hn];simp;omega) (by
     rw[hn,Int.toNat_natCast,←List.append_assoc]
     simp[List.getD])
    refine⟨⟨hr,by rw[List.append_assoc];exact a⟩,fun z=>b.nil z,fun z=>?_⟩
    obtain⟨r1,l',r2,e1,e2,e3,e4⟩:=b.cons z
    exact⟨(l,some j)::r1,l',r2,by rw[e1];rfl,e2,e3,e4⟩
  ·have e:goB W ((l,why)::r) hand wish n=goB W r hand wish n:=z7q c
   rw[e]
   obtain⟨a,b⟩:=z8w W r V hand wish n hn hv' (hc.skip c) h0 h1 hw
   refine⟨a,b.nil,fun z=>?_⟩
   obtain⟨r1,l',r2,e1,e2,e3,e4⟩:=b.cons z
   exact⟨(l,why)::r1,l',r2,by rw[e1];rfl,e2,e3,e4⟩
theorem y3k:∀ (hand n:Int) (ts:List Stp),z5l hand n ts=if ts=[] then hand else n+ts.length - 1
 | _,_,[]=>rfl
 | hand,n,t::ts=>by
  rw[z5l,y3k n (n+1) ts,if_neg (show ¬ (t::ts=[]) by simp)]
  by_cases h:ts=[]
  ·rw[if_pos h,h];simp
  ·rw[if_neg h,List.length_cons];omega
def wlSt (ts:List Stp):List (List Int):=ts.map fun t=>t.2.2.2
theorem y5e (ts:List Stp) (t:Stp):wlSt (ts++[t])=wlSt ts++[t.2.2.2]:=by simp[wlSt]
theorem y9g (ts:List Stp):(wlSt ts).length=ts.length:=by simp[wlSt]
theorem y1h:∀ {W:List (List Int)} {ts:List Stp} {i:Nat} {t:Stp},z2k W ts->ts[i]?=some t->y7n (W++wlSt (ts.take i)) t
 | W,t::ts,0,u,h,e=>by
  have:t=u:=by simpa using e
  subst this
  simpa[wlSt] using h.1
 | W,t::ts,i+1,u,h,e=>by
  have:=y1h (i:=i) h.2 (by simpa using e)
  simpa[wlSt] using this
theorem y3j:∀ (wish:List Int) (ts:List Stp),z8i wish ts=if ts=[] then wish else (wlSt ts).getD (ts.length - 1) []
 | _,[]=>rfl
 | wish,t::ts=>by
  rw[z8i,y3j t.2.2.2 ts,if_neg (show ¬ (t::ts=[]) by simp)]
  by_cases h:ts=[]
  ·rw[if_pos h,h];simp[wlSt]
  ·rw[if_neg h]
   have hl:0 < ts.length:=List.length_pos_iff.mpr h
   have e:(t::ts).length - 1=(ts.length - 1)+1:=by simp;omega
   rw[e]
   simp[wlSt]
theorem x6d {W:List (List Int)} {hand:Int} {wish:List Int} {ts:List Stp} (h0:0<=hand) (h1:hand < W.length) (hw:W.getD hand.toNat []=wish) :
 0<=z5l hand W.length ts/\z5l hand W.length ts < (W++wlSt ts).length/\(W++wlSt ts).getD (z5l hand W.length ts).toNat []=z8i wish ts:=by
 rw[y3k,y3j]
 by_cases h:ts=[]
 ·rw[if_pos h,if_pos h,h]
  refine⟨h0,by simp[wlSt];exact h1,?_⟩
  simpa[wlSt] using hw
 ·rw[if_neg h,if_neg h]
  have hl:0 < ts.length:=List.length_pos_iff.mpr h
  refine⟨by omega,by rw[List.length_append,y9g];omega,?_⟩
  have e:((W.length:Int)+(ts.length:Int) - 1).toNat=W.length+(ts.length - 1):=by omega
  rw[e]
  simp[List.getD,List.getElem?_append_right]
theorem z8x {P:Int->Prop} {W:List (List Int)} (hW:∀ v∈W,∀ x∈v,P x):∀ (r:List Pd) (hand:Int) (wish:List Int) (n:Int),Tv W r->Cov wish r->(∀ x∈wish,P x)->∀ t∈(goB W r hand wish n).2,t.2.2.2.length<=r.length/\∀ x∈t.2.2.2,P x
 | [],_,_,_,_,_,_,t,ht=>by simp[goB]at ht
 | (l,why)::r,hand,wish,n,hv,hc,hP,t,ht=>by
  obtain⟨l0,hj,hv'⟩:=hv
  by_cases c:-l∈wish
  ·cases why with
   | none=>rw[goB,if_pos c]at ht;simp at ht
   | some j =>
    obtain⟨j0,j1,jm,jo⟩:=hj j rfl
    rw[goB,if_pos c]at ht
    have hcs:Cov (stepB W hand wish l j).2.2.2 r:=hc.step jo
    have hl:=hcs.len (z9u _ _ _ _ _)
    have hPs:∀ x∈(stepB W hand wish l j).2.2.2,P x:=fun x hx=>by
     rcases mem_stepB.mp hx with ⟨z,_⟩ | ⟨z,_⟩
     ·have hm:W.getD j.toNat []∈W:=by
       have hlt:j.toNat < W.length:=by omega
       rw[List.getD_eq_getElem?_getD,List.getElem?_eq_getElem hlt];exact List.getElem_mem hlt
      exact hW _ hm x z
     ·exact hP x z
    rcases List.mem_cons.mp ht with z | z
    ·rw[z]
     exact⟨by rw[List.length_cons];omega,hPs⟩
    ·have:=z8x hW r n _ (n+1) hv' hcs hPs t z
     exact⟨by rw[List.length_cons];omega,this.2⟩
  ·rw[z7q c]at ht
   have:=z8x hW r hand wish n hv' (hc.skip c) hP t ht
   exact⟨by rw[List.length_cons];omega,this.2⟩
theorem z7h {W:List (List Int)}:∀ (r:List Pd) (hand:Int) (wish:List Int) (n:Int),(goB W r hand wish n).2.length<=r.length
 | [],_,_,_=>Nat.le_refl _
 | (l,why)::r,hand,wish,n=>by
  by_cases c:-l∈wish
  ·cases why with
   | none=>rw[goB,if_pos c];simp
   | some j =>
    rw[goB,if_pos c]
    have:=z7h (W:=W) r n (stepB W hand wish l j).2.2.2 (n+1)
    simp only[List.length_cons];omega
  ·rw[z7q c]
   have:=z7h (W:=W) r hand wish n
   rw[List.length_cons];omega
theorem x6u {W V:List (List Int)}:∀ {r:List Pd},Tv W r->Tv (W++V) r
 | [],_=>trivial
 | (l,why)::r,⟨l0,hj,hv⟩=>⟨l0,fun j ej=>by
  obtain⟨a,b,c,d⟩:=hj j ej
  have e:(W++V).getD j.toNat []=W.getD j.toNat []:=y6w (by omega)
  rw[e]
  exact⟨a,by rw[List.length_append];omega,c,d⟩,x6u hv⟩
theorem wl_at {ws:List Wr} {j:Int} (h0:0<=j) (h1:j < ws.length):∃ wr,wr∈ws/\atI (wrefs ws) j=some (.ref wr.1)/\(wl ws).getD j.toNat []=wr.2/\(wl ws)[j.toNat]?=some wr.2:=by
 have hl:j.toNat < ws.length:=by omega
 refine⟨ws[j.toNat],List.getElem_mem hl,?_,?_,?_⟩
 ·have e:j=((j.toNat:Nat):Int):=by omega
  have z:atI (wrefs ws) ((j.toNat:Nat):Int)=some (.ref ws[j.toNat].1):=z4f (by simp[wrefs,hl])
  rw[←e]at z
  exact z
 ·simp[wl,hl,List.getD]
 ·simp[wl,hl]
def x3b (K:W.Frag):Sp:=fun vs H Q _=>∃ (a b p:Addr) (ws:List Wr) (ss:List Sr) (hand l j:Int) (wish:List Int),vs=[.ref a,.ref b,.int hand,.ref p]/\SqL K H a (wrefs ws)/\WsOk H ws/\H b=some (.lst (srefs ss))/\SsOk H ss/\(∀ s r,ss=r++[s]->s.2.2.2.2.2=wish) /\
 (ss=[]->0<=hand/\hand < ws.length/\(wl ws).getD hand.toNat []=wish)/\H p=some (.tup [.int l,.int j])/\l≠0/\0<=j/\j < ws.length/\l∈(wl ws).getD j.toNat []/\-l∈wish/\wish.length+((wl ws).getD j.toNat []).length < 64 /\
 ∀ t m H',H t=none->H m=none->Same H H'->H' t=some (tupS (stepB (wl ws) hand wish l j) m)->H' m=some (.lst ((stepB (wl ws) hand wish l j).2.2.2.map V.int))->Q (.ref t) H'
section
variable {P:Program} {w:World} {K:W.Frag} {mg:Str->Option Value} {base:Heap}
theorem y6f (B:Blt mg) (c_merged:Cal P w K mg base 1 "merged" z6v (spMrg K)) (Df:Def K mg "step_back" z2g z4j):Cal P w K mg base 2 "step_back" z4j (x3b K):=by
 refine Df.cal sc_step_back (fun vs H Q E h=>?_) (fun f cdv A outer s H vs Q E hr h=>?_)
 ·obtain⟨a,b,p,ws,ss,hand,l,j,wish,rfl,_⟩:=h;rfl
 ·obtain⟨a,b,p,ws,ss,hand,l,j,wish,rfl,hS,hW,hb,hO,hs1,hs2,hp,l0,j0,j1,hlj,hlw,hz,q⟩:=h
  obtain⟨wr,hwr,hat,hgd,_⟩:=wl_at j0 j1
  rw[hgd]at hlj hz
  obtain⟨u1,hu1,key1⟩:∃ u,PSs (cxOf CX0 P w K mg base y1r "step_back" (z0f z2g) f cdv A outer s H E).nox ((z0m z2g).drop 1) u /\
   ∀ hw,H hw=some (.lst (wish.map V.int))->u { nx:=fun _ H'=>Q .non H',rt:=Q } [some (.ref a),some (.ref b),some (.int hand),some (.ref p),some (.ref hw),none,none] H:=by
   refine⟨_,(z0b (z0n (i:=5) sc_step_back.nd rfl (Or.inl rfl) (pe_ix ix_tup (pv 3) z0i (fun _ _=>rfl)))
 (z0b (z0n (i:=6) sc_step_back.nd rfl (Or.inl rfl) (pe_ix ix_tup (pv 3) z0i (fun _ _=>rfl)))
 (z0b (ps_if (z0k op_gt (pv 5) z0i (z0p _))
 (z0e (z0o (z2m (z0a (pv 6) (z0a (pv 2) (z0a (pv 5) (z0a (z1d c_merged hr (by decide) (z0a (pe_ix ix_list (pv 0) (pv 6) (fun _ _=>rfl)) (z0a (pv 4) (z0a (pv 5) z0d)))) z0d)))))))
 z0q)
 (z0e (z0o (z2m (z0a (pv 2) (z0a (pv 6) (z0a (pe_un z1c (pv 5)) (z0a (z1d c_merged hr (by decide) (z0a (pv 4) (z0a (pe_ix ix_list (pv 0) (pv 6) (fun _ _=>rfl)) (z0a (pe_un z1c (pv 5)) z0d)))) z0d)))))))))),fun hw hhw=>?_⟩
   refine⟨_,rfl,p,_,_,_,rfl,rfl,qTo hp,rfl,?_⟩
   refine⟨_,rfl,p,_,_,_,rfl,rfl,qTo hp,rfl,?_⟩
   refine⟨_,rfl,_,_,rfl,rfl,_,rfl,ite2 (fun c=>?_) (fun c=>?_)⟩
   ·have c':0 < l:=of_decide_eq_true c
    refine⟨_,rfl,_,rfl,_,rfl,_,rfl,_,rfl,a,_,_,.ref wr.1,rfl,rfl,hS,hat,_,rfl,_,rfl,wr.1,hw,l,wr.2,wish,rfl,qLo (hW wr hwr),qLo hhw,by omega,hlj,hlw,fun m H1 hm sm1 h1=>?_⟩
    refine⟨(by show 4<=sizeLine;decide),fun t ht=>?_⟩
    have es:stepB (wl ws) hand wish l j=(j,hand,l,mrg l wr.2 wish):=by unfold stepB;rw[if_pos c',hgd]
    rw[es]at q
    exact q t m _ (sm1.free ht) hm (sm1.upd (sm1.free ht)) z0c (by rw[z0g (z0h h1 ht)];exact h1)
   ·have c':¬ 0 < l:=fun z=>c (decide_eq_true z)
    refine⟨_,rfl,_,rfl,_,rfl,_,rfl,_,rfl,_,rfl,_,rfl,a,_,_,.ref wr.1,rfl,rfl,hS,hat,_,rfl,_,rfl,hw,wr.1,-l,wish,wr.2,rfl,qLo hhw,qLo (hW wr hwr),by omega,hlw,by rw[Int.neg_neg];exact hlj,fun m H1 hm sm1 h1=>?_⟩
    refine⟨(by show 4<=sizeLine;decide),fun t ht=>?_⟩
    have es:stepB (wl ws) hand wish l j=(hand,j,-l,mrg (-l) wish wr.2):=by unfold stepB;rw[if_neg c',hgd]
    rw[es]at q
    exact q t m _ (sm1.free ht) hm (sm1.upd (sm1.free ht)) z0c (by rw[z0g (z0h h1 ht)];exact h1)
  refine⟨_,(z0b (z0n (i:=4) sc_step_back.nd rfl (Or.inl rfl) (x7j (z5y (pv 1) (fun _=>rfl)) (pe_ix ix_tup (pe_ix ix_list (pv 1) (pe_un z1c z0i) (fun _ _=>rfl)) z0i (fun _ _=>rfl)) (pe_ix ix_list (pv 0) (pv 2) (fun _ _=>rfl))))
 hu1),?_⟩
  refine⟨_,rfl,!(srefs ss).isEmpty,.inl ⟨_,qLo hb,rfl⟩,?_⟩
  rcases z5c ss with rfl | ⟨r,x,rfl⟩
  ·obtain⟨g0,g1,g2⟩:=hs2 rfl
   obtain⟨wr',hwr',hat',hgd',_⟩:=wl_at g0 g1
   refine iteF ⟨_,rfl,_,rfl,a,_,_,.ref wr'.1,rfl,rfl,hS,hat',key1 wr'.1 ?_⟩
   rw[←g2,hgd']
   exact hW wr' hwr'
  ·have e:(!(srefs (r++[x])).isEmpty)=true:=by simp[srefs]
   rw[e]
   have hx:=hO x (by simp)
   refine iteT ⟨_,rfl,_,rfl,b,_,_,.ref x.1,rfl,rfl,qLo hb,?_,x.1,_,_,.ref x.2.1,rfl,rfl,qTo hx.1,rfl,key1 x.2.1 ?_⟩
   ·rw[z9g];exact z7v _ _
   ·rw[←hs1 x r rfl];exact hx.2
end
def pdat (qs:List Pr):List Pd:=qs.map fun q=>q.2
def x3e (K:W.Frag):Sp:=fun vs H Q _=>∃ (a b:Addr) (ws:List Wr) (qs:List Pr) (n:Int),vs=[.ref a,.ref b,.int n]/\SqL K H a (wrefs ws)/\WsOk H ws/\SqL K H b (refs qs)/\TrOk H qs/\0<=n/\n < ws.length/\ws.length<=16700000/\qs.length<=31/\(∀ v∈wl ws,v.length<=31) /\
 Tv (wl ws) (pdat qs).reverse/\Cov ((wl ws).getD n.toNat []) (pdat qs).reverse /\
 ∀ t s1 s2 qs' ss H',H t=none->H s1=none->H s2=none->Same H H'->H' t=some (.tup [.ref s1,.ref s2])->H' s1=some (.lst (refs qs'))->TrOk H' qs'->H' s2=some (.lst (srefs ss))->SsOk H' ss ->
  pdat qs'=(goB (wl ws) (pdat qs).reverse n ((wl ws).getD n.toNat []) ws.length).1.reverse->sls ss=(goB (wl ws) (pdat qs).reverse n ((wl ws).getD n.toNat []) ws.length).2->(∀ s∈ss,H s.2.1=none)->Q (.ref t) H'
section
variable {P:Program} {w:World} {K:W.Frag} {mg:Str->Option Value} {base:Heap}
theorem y6h (B:Blt mg) (c_marked:Cal P w K mg base 1 "marked" z6a (y0n K)) (c_step_back:Cal P w K mg base 2 "step_back" z4j (x3b K)) (Df:Def K mg "gone_back" z2z z3t):Cal P w K mg base 3 "gone_back" z3t (x3e K):=by
 refine Df.cal sc_gone_back (fun vs H Q E h=>?_) (fun f cdv A outer s H vs Q E hr h=>?_)
 ·obtain⟨a,b,ws,qs,n,rfl,_⟩:=h;rfl
 ·obtain⟨a,b,ws,qs,n,rfl,hS,hW,hT,hO,n0,n1,hz,hq,hwz,hv,hc,q⟩:=h
  have hu:=hu_of hr
  obtain⟨wr,hwr,hat,hgd,hge⟩:=wl_at n0 n1
  refine⟨_,(z0b (z0n (i:=3) sc_gone_back.nd rfl (Or.inl rfl) (z7e z7k (by rfl) B.list_ z5n (z0a (pv 1) z0d)))
 (z0b (z0n (i:=4) sc_gone_back.nd rfl (Or.inl rfl) (z0u z0d))
 (z0b (z0n (i:=5) sc_gone_back.nd rfl (Or.inl rfl) (pv 2))
 (z0b (z0n (i:=6) sc_gone_back.nd rfl (Or.inl rfl) (z1d c_marked hr (by decide) (z0a (pe_ix ix_list (pv 0) (pv 2) (fun _ _=>rfl)) z0d)))
 (z0b (z5z PassesOwn.never (z5y (pv 3) (fun _=>rfl))
 (z0b (z0n (i:=7) sc_gone_back.nd rfl (Or.inl rfl) (z4d PySem.F.plainAttrs_list PySem.F.slot_list_pop PySem.F.type_list_pop z4e (pv 3)))
 (z0e (ps_if (z8n (x0c hu (pe_un z1c (pe_ix ix_tup (pv 7) z0i (fun _ _=>rfl))) (pv 6)))
 (z0b (ps_if (z0k x0d (pe_ix ix_tup (pv 7) z0i (fun _ _=>rfl)) z6g (z0p _))
 (z0b (z0r (pe_bm PySem.F.plainAttrs_list PySem.F.slot_list_append PySem.F.type_list_append z0z (pv 3) (z0a (z2m (z0a (pe_un z1c (pe_ix ix_tup (pv 7) z0i (fun _ _=>rfl))) (z0a (pv 5) z0d))) z0d)))
 (z0e x7f))
 z0q)
 (z0b (z0r (pe_bm PySem.F.plainAttrs_list PySem.F.slot_list_append PySem.F.type_list_append z0z (pv 4) (z0a (z1d c_step_back hr (by decide) (z0a (pv 0) (z0a (pv 4) (z0a (pv 5) (z0a (pv 7) z0d))))) z0d)))
 (z0b (z0n (i:=5) sc_gone_back.nd rfl (Or.inl rfl) (pe_op y6d (pe_op z9z (z0t z0v (by rfl) B.len_ PySem.boot_len (z0a (pv 0) z0d)) (z0t z0v (by rfl) B.len_ PySem.boot_len (z0a (pv 4) z0d))) z0i))
 (z0e (z0n (i:=6) sc_gone_back.nd rfl (Or.inl rfl) (z1d c_marked hr (by decide) (z0a (pe_ix ix_tup (pe_ix ix_list (pv 4) (pe_un z1c z0i) (fun _ _=>rfl)) z0i (fun _ _=>rfl)) z0d)))))))
 z0q))))
 (z0e (z0o (z2m (z0a (pv 3) (z0a (pv 4) z0d)))))))))),?_⟩
  refine rd_k fun N1 c1=>?_
  refine⟨_,rfl,b,_,rfl,.inl hT,fun sh hsh=>c1 _ _ ?_⟩
  have smA:Same H (upd H sh (.lst (refs qs))):=(smR H).upd hsh
  have gA:upd H sh (.lst (refs qs)) sh=some (.lst (refs qs)):=z0c
  generalize upd H sh (.lst (refs qs))=HA at smA gA
  refine rd_k fun N2 c2=>?_
  refine⟨by decide,fun st hst=>c2 _ _ ?_⟩
  have nss:sh≠st:=z0h gA hst
  have hstH:H st=none:=smA.free hst
  have smB:Same H (upd HA st (.lst [])):=smA.upd hstH
  have gB:upd HA st (.lst []) st=some (.lst []):=z0c
  have gA2:upd HA st (.lst []) sh=some (.lst (refs qs)):=by rw[z0g nss];exact gA
  generalize upd HA st (.lst [])=HB at smB gB gA2
  refine z9x (y5u ?_)
  refine⟨_,rfl,?_⟩
  dsimp only[gName]
  refine rd_k fun N3 c3=>?_
  refine⟨_,rfl,_,rfl,a,_,_,.ref wr.1,rfl,rfl,smB.seq hS,hat,wr.1,wr.2,rfl,qLo (smB _ _ (hW wr hwr)),by have:=hwz wr.2 (List.mem_of_getElem? hge);omega,fun pd HC hpd smC gC=>c3 _ _ ?_⟩
  have smBC:=smB.trans smC
  refine z9x (y3q (fun m σ H2=>∃ (q1:List Pr) (ss:List Sr) (hand:Int) (wish:List Int) (pd:Addr) (o7:Option V),σ=[some (.ref a),some (.ref b),some (.int n),some (.ref sh),some (.ref st),some (.int hand),some (.ref pd),o7]/\Same H H2/\H2 sh=some (.lst (refs q1))/\H2 st=some (.lst (srefs ss))/\SsOk H2 ss/\(∀ s∈ss,H s.2.1=none) /\
   H2 pd=some (.dK (mk (once wish)))/\TrOk H q1/\q1.length<=31/\ss.length+q1.length<=31/\goB (wl ws) (pdat qs).reverse n ((wl ws).getD n.toNat []) ws.length=((goB (wl ws) (pdat q1).reverse hand wish (ws.length+ss.length)).1,sls ss++(goB (wl ws) (pdat q1).reverse hand wish (ws.length+ss.length)).2) /\
   Tv (wl ws) (pdat q1).reverse/\Cov wish (pdat q1).reverse/\wish.length<=31/\(∀ s r,ss=r++[s]->s.2.2.2.2.2=wish)/\(ss=[]->0<=hand/\hand < ws.length/\(wl ws).getD hand.toNat []=wish)/\m=q1.length)
   ⟨_,qs,[],n,wr.2,pd,none,rfl,smBC,smC _ _ gA2,smC _ _ gB,(fun _ z=>nomatch z),(fun _ z=>nomatch z),gC,hO,hq,by simpa using hq,by rw[hgd];simp[sls],hv,by rw[←hgd];exact hc,hwz wr.2 (List.mem_of_getElem? hge),(fun s r z=>by simp at z),fun _=>⟨n0,n1,hgd⟩,rfl⟩ ?_)
  rintro m σ H2 ⟨q1,ss,hand,wish,pd,o7,rfl,sm2,hsh2,hst2,hSs,hFs,hpd2,hO1,hq1,hsq,hgo,hv1,hc1,hwl,hs1,hs2,rfl⟩ Y X hY hX
  refine⟨_,rfl,!(refs q1).isEmpty,.inl ⟨_,qLo hsh2,rfl⟩,?_⟩
  have fin:∀ (Hx:Hp) (σ7:Option V),Same H2 Hx->pdat q1=(goB (wl ws) (pdat qs).reverse n ((wl ws).getD n.toNat []) ws.length).1.reverse->sls ss=(goB (wl ws) (pdat qs).reverse n ((wl ws).getD n.toNat []) ws.length).2->∀ t,Hx t=none->Q (.ref t) (upd Hx t (.tup [.ref sh,.ref st])):=by
   intro Hx σ7 smx e1 e2 t ht
   have smx':Same H2 (upd Hx t (.tup [.ref sh,.ref st])):=smx.upd (smx.free ht)
   exact q t sh st q1 ss _ ((sm2.trans smx).free ht) hsh hstH (sm2.trans smx') z0c (smx' _ _ hsh2) (hO1.mono (sm2.trans smx')) (smx' _ _ hst2) (hSs.mono smx') e1 e2 hFs
  rcases z5c q1 with rfl | ⟨q0,x,rfl⟩
  ·refine iteF (hX _ _ ?_)
   refine⟨_,rfl,_,rfl,len2,fun t ht=>fin H2 none (smR _) ?_ ?_ t ht⟩
   ·rw[hgo];simp[pdat,goB]
   ·rw[hgo];simp[pdat,goB]
  have ene:(!(refs (q0++[x])).isEmpty)=true:=by simp[refs]
  rw[ene]
  have er:(pdat (q0++[x])).reverse=x.2::(pdat q0).reverse:=by simp[pdat]
  rw[er]at hv1 hc1 hgo
  have hO0:TrOk H q0:=fun y hy=>hO1 y (List.mem_append_left _ hy)
  have hx1:H x.1=some (.tup [.int x.2.1,wv x.2.2]):=hO1 x (by simp)
  have hx2:=sm2 _ _ hx1
  have ref0:refs (q0++[x])=refs q0++[.ref x.1]:=by simp[refs]
  rw[ref0]at hsh2
  obtain⟨xa,l,why⟩:=x
  dsimp only at hv1 hc1 hgo hx1 hx2 hsh2
  obtain⟨l0,hj,hv0⟩:=hv1
  have hql:q0.length+1<=31:=by simpa using hq1
  refine iteT ⟨Y,fun _ _ h=>h,?_⟩
  refine rd_k fun N4 c4=>?_
  refine⟨_,rfl,.inl ⟨rfl,_,qLo hsh2⟩,sh,_,.ref xa,rfl,rfl,hsh2,by simp,c4 _ _ ?_⟩
  have edl:(refs q0++[V.ref xa]).dropLast=refs q0:=by simp
  rw[edl]
  have smn:Same H (upd H2 sh (.lst (refs q0))):=sm2.upd hsh
  have k1:upd H2 sh (.lst (refs q0)) sh=some (.lst (refs q0)):=z0c
  have nst:st≠sh:=nss.symm
  have k2:upd H2 sh (.lst (refs q0)) st=some (.lst (srefs ss)):=by rw[z0g nst];exact hst2
  have shd:∀ {z:Addr} {o:HO},H2 z=some o->z≠sh->upd H2 sh (.lst (refs q0)) z=some o:=fun h hn=>by rw[z0g hn];exact h
  have npd:pd≠sh:=ne_of hpd2 hsh2 (by intro z;cases z)
  have k3:=shd hpd2 npd
  have kns:∀ s∈ss,s.2.1≠sh:=fun s hs z=>by
   have h1:=(hSs s hs).2
   rw[z,hsh2]at h1
   injection h1 with h1
   injection h1 with h1
   have h2:V.ref xa∈s.2.2.2.2.2.map V.int:=by rw[←h1];simp
   obtain⟨_,_,h3⟩:=List.mem_map.mp h2
   cases h3
  have k4:SsOk (upd H2 sh (.lst (refs q0))) ss:=fun s hs=>by
   have:=hSs s hs
   exact⟨shd this.1 (ne_of this.1 hsh2 (by unfold tupS;intro z;cases z)),shd this.2 (kns s hs)⟩
  have knt:∀ s∈ss,s.2.1≠st:=fun s hs z=>by
   have h1:=(hSs s hs).2
   rw[z,hst2]at h1
   injection h1 with h1
   injection h1 with h1
   have h2:V.ref s.1∈s.2.2.2.2.2.map V.int:=by rw[←h1];exact List.mem_map.mpr ⟨s,hs,rfl⟩
   obtain⟨_,_,h3⟩:=List.mem_map.mp h2
   cases h3
  have k5:=smn _ _ hx1
  generalize upd H2 sh (.lst (refs q0))=H3 at smn k1 k2 k3 k4 k5
  have hmem:(valV (mk (once wish)) (Sum.inl (-l):Key)).isSome=decide (-l∈wish):=by rw[z7b];exact decide_eq_decide.mpr mem_once
  refine⟨_,rfl,xa,_,_,_,rfl,rfl,qTo k5,rfl,_,rfl,_,rfl,pd,_,rfl,DGet.k (k:=Sum.inl (-l)) k3,_,rfl,?_⟩
  rw[hmem]
  refine ite2 (fun c=>?_) (fun c=>?_)
  ·have c':-l∈wish:=of_decide_eq_true c
   cases why with
   | none =>
    refine⟨_,rfl,xa,_,_,_,rfl,rfl,qTo k5,rfl,rfl,_,rfl,iteT ?_⟩
    refine⟨_,rfl,.inl ⟨rfl,_,qLo k1⟩,_,rfl,xa,_,_,_,rfl,rfl,qTo k5,rfl,_,rfl,_,rfl,len2,fun pt hpt=>?_⟩
    have nps:sh≠pt:=z0h k1 hpt
    have k6:upd H3 pt (.tup [.int (-l),.int hand]) sh=some (.lst (refs q0)):=by rw[z0g nps];exact k1
    refine⟨sh,_,_,rfl,rfl,k6,z1r (by rw[z7m];omega),?_⟩
    have eg:goB (wl ws) ((l,none)::(pdat q0).reverse) hand wish (ws.length+ss.length)=((-l,some hand)::(pdat q0).reverse,[]):=by rw[goB,if_pos c']
    rw[eg]at hgo
    refine hX _ _ ?_
    refine⟨_,rfl,_,rfl,len2,fun t ht=>?_⟩
    have hptH:H pt=none:=smn.free hpt
    have s1:Same H (upd (upd H3 pt (.tup [.int (-l),.int hand])) sh (.lst (refs q0++[.ref pt]))):=(smn.upd hptH).upd hsh
    have hst4:upd (upd H3 pt (.tup [.int (-l),.int hand])) sh (.lst (refs q0++[.ref pt])) st=some (.lst (srefs ss)):=by rw[z0g nst,z0g (z0h k2 hpt)];exact k2
    have hpt4:upd (upd H3 pt (.tup [.int (-l),.int hand])) sh (.lst (refs q0++[.ref pt])) pt=some (.tup [.int (-l),.int hand]):=by rw[z0g nps.symm,z0c]
    have hsh4:upd (upd H3 pt (.tup [.int (-l),.int hand])) sh (.lst (refs q0++[.ref pt])) sh=some (.lst (refs q0++[.ref pt])):=z0c
    have hss4:SsOk (upd (upd H3 pt (.tup [.int (-l),.int hand])) sh (.lst (refs q0++[.ref pt]))) ss:=fun s hs=>by
     have:=k4 s hs
     have n1:s.1≠sh:=ne_of this.1 k1 (by unfold tupS;intro z;cases z)
     have n2:s.2.1≠sh:=kns s hs
     exact⟨by rw[z0g n1,z0g (z0h this.1 hpt)];exact this.1,by rw[z0g n2,z0g (z0h this.2 hpt)];exact this.2⟩
    generalize upd (upd H3 pt (.tup [.int (-l),.int hand])) sh (.lst (refs q0++[.ref pt]))=H4 at s1 hst4 hpt4 hsh4 hss4 ht
    have s2:Same H4 (upd H4 t (.tup [.ref sh,.ref st])):=(smR H4).upd ht
    refine q t sh st (q0++[(pt,-l,some hand)]) ss _ (s1.free ht) hsh hstH (s1.trans s2) z0c (s2 _ _ (by rw[hsh4];simp[refs])) ?_ (s2 _ _ hst4) (hss4.mono s2) ?_ ?_ hFs
    ·exact TrOk.snoc (hO0.mono (s1.trans s2)) (s2 _ _ hpt4)
    ·rw[hgo];simp[pdat]
    ·rw[hgo];simp
   | some j =>
    obtain⟨j0,j1,jm,jo⟩:=hj j rfl
    have j1':j < ws.length:=by rw[z4a]at j1;exact j1
    have hwj:((wl ws).getD j.toNat []).length<=31:=by
     obtain⟨wr2,_,_,e2,e3⟩:=wl_at j0 j1'
     rw[e2];exact hwz _ (List.mem_of_getElem? e3)
    refine⟨_,rfl,xa,_,_,_,rfl,rfl,qTo k5,rfl,rfl,_,rfl,iteF ?_⟩
    dsimp only[tNext]
    refine rd_k fun N5 c5=>?_
    refine⟨_,rfl,.inl ⟨rfl,_,qLo k2⟩,_,rfl,_,rfl,_,rfl,_,rfl,a,st,xa,ws,ss,hand,l,j,wish,rfl,smn.seq hS,hW.mono smn,k2,k4,hs1,hs2,k5,l0,j0,j1',jm,c',by omega,fun t m H4 ht hm sm4 g4 gm=>?_⟩
    have k2':=sm4 _ _ k2
    refine⟨st,_,_,rfl,rfl,k2',z1r (by rw[z5g];simp at hsq;omega),c5 _ _ ?_⟩
    have eg:goB (wl ws) ((l,some j)::(pdat q0).reverse) hand wish (ws.length+ss.length)=((goB (wl ws) (pdat q0).reverse (ws.length+ss.length) (stepB (wl ws) hand wish l j).2.2.2 (ws.length+ss.length+1)).1,stepB (wl ws) hand wish l j::(goB (wl ws) (pdat q0).reverse (ws.length+ss.length) (stepB (wl ws) hand wish l j).2.2.2 (ws.length+ss.length+1)).2):=by rw[goB,if_pos c']
    rw[eg]at hgo
    have hcs:Cov (stepB (wl ws) hand wish l j).2.2.2 (pdat q0).reverse:=hc1.step jo
    have hcl:(stepB (wl ws) hand wish l j).2.2.2.length<=31:=by
     have:=hcs.len (z9u _ _ _ _ _)
     have e:(pdat q0).reverse.length=q0.length:=by simp[pdat]
     omega
    generalize stepB (wl ws) hand wish l j=St at g4 gm hgo hcs hcl
    have htH:H t=none:=smn.free ht
    have hmH:H m=none:=smn.free hm
    have nts:t≠st:=fun z=>by rw[z,k2]at ht;cases ht
    have nms:m≠st:=fun z=>by rw[z,k2]at hm;cases hm
    have s1:Same H (upd H4 st (.lst (srefs ss++[.ref t]))):=(smn.trans sm4).upd hstH
    have r1:upd H4 st (.lst (srefs ss++[.ref t])) st=some (.lst (srefs (ss++[(t,m,St)]))):=by rw[z0c,z9g]
    have r2:upd H4 st (.lst (srefs ss++[.ref t])) t=some (tupS St m):=by rw[z0g nts];exact g4
    have r3:upd H4 st (.lst (srefs ss++[.ref t])) m=some (.lst (St.2.2.2.map V.int)):=by rw[z0g nms];exact gm
    have r4:upd H4 st (.lst (srefs ss++[.ref t])) sh=some (.lst (refs q0)):=by rw[z0g nss];exact sm4 _ _ k1
    have r5:SsOk (upd H4 st (.lst (srefs ss++[.ref t]))) ss:=fun s hs=>by
     have:=k4 s hs
     have n1:s.1≠st:=ne_of this.1 k2 (by unfold tupS;intro z;cases z)
     have n2:s.2.1≠st:=knt s hs
     exact⟨by rw[z0g n1];exact sm4 _ _ this.1,by rw[z0g n2];exact sm4 _ _ this.2⟩
    generalize upd H4 st (.lst (srefs ss++[.ref t]))=H5 at s1 r1 r2 r3 r4 r5
    refine rd_k fun N6 c6=>?_
    refine⟨_,rfl,a,_,rfl,.inl (s1.seq hS),_,rfl,st,_,rfl,.inl (qLo r1),_,_,rfl,rfl,_,_,rfl,rfl,c6 _ _ ?_⟩
    refine⟨_,rfl,_,rfl,st,_,_,.ref t,rfl,rfl,qLo r1,by rw[z9g];exact z7v _ _,t,_,_,.ref m,rfl,rfl,qTo r2,rfl,m,St.2.2.2,rfl,qLo r3,by omega,fun pd2 H6 hpd2 sm6 g6=>?_⟩
    have eh:(((wrefs ws).length:Nat):Int)+(((srefs (ss++[(t,m,St)])).length:Nat):Int) - 1=(ws.length:Int)+(ss.length:Int):=by rw[z2l,z5g];simp;omega
    refine hY _ _ ⟨q0.length,by simp,q0,ss++[(t,m,St)],(ws.length:Int)+(ss.length:Int),St.2.2.2,pd2,_,by rw[←eh];rfl,s1.trans sm6,sm6 _ _ r4,sm6 _ _ r1,(r5.snoc r2 r3).mono sm6,(fun s hs=>(mApp hs).elim (hFs s) fun z=>by
     have:s=(t,m,St):=by simpa using z
     rw[this];exact hmH),g6,hO0,by omega,by simp at hsq ⊢;omega,?_,hv0,hcs,hcl,?_,?_,rfl⟩
    ·rw[hgo,y4a]
     have el:((ss++[(t,m,St)]).length:Int)=(ss.length:Int)+1:=by simp
     rw[el]
     simp[Int.add_assoc]
    ·intro s r e
     have:=List.append_inj_right' e rfl
     have e2:(t,m,St)=s:=by simpa using this
     rw[←e2]
    ·intro z
     simp at z
  ·have c':¬ -l∈wish:=fun z=>c (decide_eq_true z)
   refine hY _ _ ⟨q0.length,by simp,q0,ss,hand,wish,pd,_,rfl,smn,k1,k2,k4,hFs,k3,hO0,by omega,by simp at hsq;omega,?_,hv0,hc1.skip c',hwl,hs1,hs2,rfl⟩
   rw[hgo,z7q c']
end
def wst (ss:List Sr):List Wr:=ss.map fun s=>(s.2.1,s.2.2.2.2.2)
theorem z6z {C:Addr} {H:Hp} {p:Addr} {x:Tly} (h:TyAt C H p x) {b:Addr} {vs:List V} (hb:H b=some (.tup vs)):¬ foot p x b:=by
 rintro (e | e | e | e | e | e | e | e | e | ⟨m,hm,e⟩)
 ·obtain⟨dx,ob⟩:=h.ob;rw[e,ob]at hb;cases hb
 ·rw[e,h.hw]at hb;cases hb
 ·rw[e,h.ht]at hb;cases hb
 ·rw[e,h.hd]at hb;cases hb
 ·rw[e,h.hp]at hb;cases hb
 ·rw[e,h.hs]at hb;cases hb
 ·rw[e,h.hl]at hb;cases hb
 ·rw[e,h.hf]at hb;cases hb
 ·rw[e,h.hg]at hb;cases hb
 ·rw[e,h.hM.ok m hm]at hb;cases hb
theorem y6t:∀ {M:List Mp} {m:Mp},(M.map (·.1)).Nodup->m∈M->lookM M m.1=some m
 | [],m,_,h=>nomatch h
 | m0::M,m,hn,h=>by
  rw[List.map_cons,List.nodup_cons]at hn
  unfold lookM
  rcases List.mem_cons.mp h with e | e
  ·rw[e];simp
  ·have:m0.1≠m.1:=fun z=>hn.1 (by rw[z];exact List.mem_map.mpr ⟨m,e,rfl⟩)
   have ih:=y6t hn.2 e
   unfold lookM at ih
   simp[this,ih]
theorem Tal.mlen {C:Addr} {H:Hp} {p:Addr} {x:Tly} {c:Nat} (h:Tal C H p x) (hb:∀ v∈wl x.ws,∀ y∈v,y.natAbs<=c):x.M.length<=2 * c+1:=by
 have hk:∀ m∈x.M,m.1.natAbs<=c:=fun m hm=>by
  have e:ilook x.M m.1=m.2.2:=by unfold ilook;rw[y6t h.ty.hM.kn hm]
  rw[h.pl]at e
  obtain⟨i,hi⟩:=List.exists_mem_of_ne_nil _ (h.ne m hm)
  rw[←e]at hi
  obtain⟨hl,hm2⟩:=in_idxs.mp hi
  have hg:(wl x.ws).getD i []=(wl x.ws)[i]:=by simp[hl]
  exact hb _ (List.getElem_mem hl) _ (hg ▸ hm2)
 have nd:((x.M.map (·.1)).map fun y=>y+(c:Int)+1).Nodup:=List.pairwise_map.mpr (List.Pairwise.imp (fun {a b} hne e=>hne (by
  have:a+(c:Int)+1=b+(c:Int)+1:=e
  omega)) h.ty.hM.kn)
 have:=y5x (2 * c+1) 0 _ nd fun y hy=>by
  obtain⟨z,hz,rfl⟩:=List.mem_map.mp hy
  obtain⟨m,hm,rfl⟩:=List.mem_map.mp hz
  have:=hk m hm
  omega
 simpa using this
def y3y (C:Addr):Sp:=fun vs H Q _=>∃ (p:Addr) (x:Tly) (n:Int),vs=[.ref p,.int n]/\Tal C H p x/\0<=n/\n < x.ws.length/\x.ws.length<=16690000/\x.qs.length<=31/\(∀ v∈wl x.ws,v.length<=31)/\(∀ v∈wl x.ws,∀ y∈v,y.natAbs<=1000) /\
 Tv (wl x.ws) (pdat x.qs).reverse/\Cov ((wl x.ws).getD n.toNat []) (pdat x.qs).reverse /\
 ∀ (s2:Addr) (ss:List Sr) (x':Tly) (H':Hp),Tal C H' p x'->Fr p x x' H H'->x'.ws=x.ws++wst ss->x'.at_=x.at_->x'.M.length<=x.M.length+31 * ss.length->pdat x'.qs=(goB (wl x.ws) (pdat x.qs).reverse n ((wl x.ws).getD n.toNat []) x.ws.length).1.reverse->sls ss=(goB (wl x.ws) (pdat x.qs).reverse n ((wl x.ws).getD n.toNat []) x.ws.length).2 ->
  H s2=none->¬ foot p x' s2->H' s2=some (.lst (srefs ss))->SsOk H' ss->(∀ s∈ss,H s.2.1=none)->Q (.ref s2) H'
section
variable {P:Program} {w:World} {K:W.Frag} {mg:Str->Option Value} {base:Heap} {C:Addr}
theorem x2a (B:Blt mg) (T:TallyCls K mg C) (m_put:MCal P w K mg base 3 C "put" z2i (spPut C)) (m_take_off:MCal P w K mg base 3 C "take_off" z1k (spOff C)) (m_put_wish:MCal P w K mg base 3 C "put_wish" z1f (y9n C))
 (c_gone_back:Cal P w K mg base 3 "gone_back" z3t (x3e K)) (Df:Def K mg "go_back" z4u z5j):Cal P w K mg base 4 "go_back" z5j (y3y C):=by
 refine Df.cal sc_go_back (fun vs H Q E h=>?_) (fun f cdv A outer s H vs Q E hr h=>?_)
 ·obtain⟨p,x,n,rfl,_⟩:=h;rfl
 ·obtain⟨p,x,n,rfl,hx,n0,n1,hz,hq,hv,hM0,hTv,hCov,q⟩:=h
  have hM:=hx.mlen hM0
  have hu:=hu_of hr
  have cl:=T.cl
  refine⟨_,(z0b (z0n (i:=2) sc_go_back.nd rfl (Or.inl rfl) (z1d c_gone_back hr (by decide) (z0a (z1m (pv 0) rfl) (z0a (z1m (pv 0) rfl) (z0a (pv 1) z0d)))))
 (z0b (z0n (i:=3) sc_go_back.nd rfl (Or.inl rfl) (pe_ix y0c (pv 2) z0i (fun _ _=>rfl)))
 (z0b (z5z PassesOwn.never (PW.pt (y2x (z5y (z1m (pv 0) rfl) (fun _=>rfl)) (z9l (z0k op_ge (z0t z0v (by rfl) B.len_ PySem.boot_len (z0a (z1m (pv 0) rfl) z0d)) (z0t z0v (by rfl) B.len_ PySem.boot_len (z0a (pv 3) z0d)) (z0p _)))))
 (z0e (z0r (z8p m_take_off cl hr (by decide) (pv 0)))))
 (z0b (z4c PassesOwn.never rfl (z1u (pe_ix y0c (pv 2) z0i (fun _ _=>rfl))) (z1l (i:=4) sc_go_back.nd rfl (Or.inl rfl))
 (z0e (z0r (z6d m_put_wish cl hr (by decide) (pv 0) (z0a (pe_ix y0c (pv 4) z0i (fun _ _=>rfl)) z0d)))))
 (z0b (ps_if (z5y (pv 3) (fun _=>rfl))
 (z0e (z0r (z6d m_put cl hr (by decide) (pv 0) (z0a (pe_ix y0c (pe_ix ix_list (pv 3) (pe_un z1c z0i) (fun _ _=>rfl)) z0i (fun _ _=>rfl)) (z0a (pe_ix y0c (pe_ix ix_list (pv 3) (pe_un z1c z0i) (fun _ _=>rfl)) z0i (fun _ _=>rfl)) z0d)))))
 z0q)
 (z0e (z0o (pe_ix y0c (pv 2) z0i (fun _ _=>rfl))))))))),?_⟩
  obtain⟨d,ob⟩:=hx.ty.ob
  refine⟨_,rfl,p,C,d,_,_,rfl,ob,T.cl,T.n1,z8z x,_,rfl,p,C,d,_,_,rfl,ob,T.cl,T.n2,z7r x,_,rfl,x.aw,x.at_,x.ws,x.qs,n,rfl,qLo hx.ty.hw,hx.ty.wo,qLo hx.ty.ht,hx.ty.to,n0,n1,by omega,hq,hv,hTv,hCov,fun t s1 s2 qs' ss H1 ht hs1 hs2 sm h1t h1s1 h1q h1s2 h1ss ep es hfs=>?_⟩
  obtain⟨_,hG2⟩:=z8w (wl x.ws) (pdat x.qs).reverse [] n ((wl x.ws).getD n.toNat []) x.ws.length (by rw[List.append_nil,z4a]) hTv hCov n0 (by rw[List.append_nil,z4a];exact n1) (by rw[List.append_nil])
  have hsm:=z8x (P:=fun _=>True) (W:=wl x.ws) (fun _ _ _ _=>trivial) (pdat x.qs).reverse n ((wl x.ws).getD n.toNat []) x.ws.length hTv hCov (fun _ _=>trivial)
  rw[←es]at hsm
  generalize hgo:goB (wl x.ws) (pdat x.qs).reverse n ((wl x.ws).getD n.toNat []) x.ws.length=go at ep es hG2 q
  have hrl:(pdat x.qs).reverse.length=x.qs.length:=by simp[pdat]
  have nt:¬ foot p x t:=z3q hx.ty ht
  have ns1:¬ foot p x s1:=z3q hx.ty hs1
  have ns2:¬ foot p x s2:=z3q hx.ty hs2
  have hx1:=hx.same sm
  have hql:qs'.length=go.1.length:=by have:=congrArg List.length ep;simpa[pdat] using this
  have hle:qs'.length<=x.qs.length:=by
   by_cases z:go.1=[]
   ·rw[hql,z];simp
   ·obtain⟨r1,l,r2,e1,e2,_⟩:=hG2.cons z
    rw[hql,e2,←hrl,e1];simp
  refine⟨_,rfl,.inr (.inl ⟨t,_,_,_,rfl,rfl,qTo h1t,rfl,?_⟩)⟩
  dsimp only[gName]
  refine z7y (fun σ Hx=>∃ x1:Tly,σ=[some (.ref p),some (.int n),some (.ref t),some (.ref s1),none]/\Tal C Hx p x1/\Fr p x x1 H1 Hx/\x1.ws=x.ws/\x1.qs=x.qs.take (qs'.length - 1)/\x1.at_=x.at_/\x1.M=x.M) (fun N hN=>?_) ?_
  ·refine⟨fun m σ Hx=>∃ (x1:Tly),σ=[some (.ref p),some (.int n),some (.ref t),some (.ref s1),none]/\Tal C Hx p x1/\Fr p x x1 H1 Hx/\x1.ws=x.ws/\x1.qs=x.qs.take m/\m<=x.qs.length/\qs'.length - 1<=m/\x1.at_=x.at_/\x1.M=x.M,
    ⟨x.qs.length,x,rfl,hx1,Fr.refl _ _ _,rfl,by simp,Nat.le_refl _,by omega,rfl,rfl⟩,?_⟩
   rintro m σ Hx ⟨x1,rfl,hy,fr,ew,eq,hm1,hm2,ea,eM⟩
   obtain⟨d1,ob1⟩:=hy.ty.ob
   have hln:x1.qs.length=m:=by rw[eq];simp;omega
   have hs1x:=fr.out _ _ h1s1 ns1
   have stop:m=0∨m < qs'.length->N [some (.ref p),some (.int n),some (.ref t),some (.ref s1),none] Hx:=fun h=>hN _ _ ⟨x1,rfl,hy,fr,ew,by rw[eq];congr 1;omega,ea,eM⟩
   refine⟨_,rfl,p,C,d1,_,_,rfl,ob1,T.cl,T.n2,z7r _,_,.inl ⟨_,qLo hy.ty.ht,rfl⟩,ite2 (fun c=>?_) (fun c=>?_)⟩
   ·have hne:x1.qs≠[]:=fun z=>by rw[z]at c;cases c
    have hpos:0 < m:=by rw[←hln];exact List.length_pos_iff.mpr hne
    refine⟨_,rfl,p,C,d1,_,_,rfl,ob1,T.cl,T.n2,z7r _,_,_,rfl,.inl (qLo hy.ty.ht),_,rfl,s1,_,rfl,.inl (qLo hs1x),_,_,rfl,rfl,_,rfl,ite2 (fun c2=>?_) (fun c2=>?_)⟩
    ·obtain⟨rs,u,er⟩:∃ rs u,x1.qs=rs++[u]:=⟨_,_,(List.dropLast_concat_getLast hne).symm⟩
     have noT:(flds x1).lookup ("take_off" : Str)=none:=fl_nx x1 (by decide +kernel)
     have hge:qs'.length<=m:=by
      have:=of_decide_eq_true c2
      rw[z7m,z7m,hln]at this;omega
     refine⟨_,fun σ' H' h=>h,?_⟩
     refine⟨_,rfl,p,d1,_,rfl,ob1,noT,p,x1,rs,u,rfl,hy,er,by rw[ew];omega,fun x2 H2 hx2 fr2 ew2 eq2 ea2 eM2=>⟨m - 1,by omega,x2,rfl,hx2,fr.trans fr2,by rw[ew2,ew],?_,by omega,by omega,by rw[ea2,ea],by rw[eM2,eM]⟩⟩
     rw[eq2]
     have e0:rs=x1.qs.take (m - 1):=by
      have:rs.length=m - 1:=by have:=congrArg List.length er;simp at this;omega
      rw[er,←this];simp
     rw[e0,eq,List.take_take];congr 1;omega
    ·have hlt:¬ qs'.length<=m:=fun z=>c2 (decide_eq_true (by rw[z7m,z7m,hln];omega))
     exact stop (.inr (by omega))
   ·refine iteF (stop (.inl ?_))
    rw[←hln]
    cases h:x1.qs with
    | nil=>rfl
    | cons u r=>rw[h]at c;exact absurd rfl c
  rintro σ H2 ⟨x1,rfl,hy,fr,ew,eq,ea,eM⟩
  have h2t:=fr.out _ _ h1t nt
  have h2s2:=fr.out _ _ h1s2 ns2
  have h2s1:=fr.out _ _ h1s1 ns1
  have h2ss:SsOk H2 ss:=fun s hs=>⟨fr.out _ _ (h1ss s hs).1 (z6z hx1.ty (h1ss s hs).1),fr.out _ _ (h1ss s hs).2 (z3q hx.ty (hfs s hs))⟩
  have h2q:TrOk H2 qs':=fun u hu=>fr.out _ _ (h1q u hu) (z6z hx1.ty (h1q u hu))
  have nf:∀ b,¬ foot p x b->(∃ o,H1 b=some o)->¬ foot p x1 b:=fun b hb ⟨o,ho⟩ z=>by
   rcases fr.inn b z with y | y
   ·exact hb y
   ·rw[ho]at y;cases y
  refine z7y (fun σ Hx=>∃ (x2:Tly) (v:Option V),σ=[some (.ref p),some (.int n),some (.ref t),some (.ref s1),v]/\Tal C Hx p x2/\Fr p x1 x2 H2 Hx/\x2.ws=x.ws++wst ss/\x2.qs=x.qs.take (qs'.length - 1)/\x2.at_=x.at_/\x2.M.length<=x.M.length+31 * ss.length) (fun N hN=>?_) ?_
  ·refine⟨_,rfl,.inr (.inl ⟨t,_,_,_,rfl,rfl,qTo h2t,rfl,s2,rfl,⟨_,qLo h2s2⟩,?_⟩)⟩
   have n12:¬ foot p x1 s2:=nf _ ns2 ⟨_,h1s2⟩
   refine z4o (K:=K) (a:=s2) (xs:=srefs ss) (fun j σ Hx=>∃ (x2:Tly) (v:Option V),σ=[some (.ref p),some (.int n),some (.ref t),some (.ref s1),v]/\Tal C Hx p x2/\Fr p x1 x2 H2 Hx/\x2.ws=x.ws++wst (ss.take j)/\x2.qs=x.qs.take (qs'.length - 1)/\x2.at_=x.at_/\x2.M.length<=x.M.length+31 * j)
    ⟨x1,none,rfl,hy,Fr.refl _ _ _,by rw[ew];simp[wst],eq,ea,by rw[eM];omega⟩ (fun j σ Hx _ hh=>by
     obtain⟨_,_,_,_,fr2,_⟩:=hh
     exact qLo (fr2.out _ _ h2s2 n12)) ?_ ?_
   ·rintro j y σ Hx hj ⟨x2,v,rfl,hy2,fr2,ew2,eq2,ea2,hM2⟩
    obtain⟨st,hst,rfl⟩:=x8v hj
    have hmem:=List.mem_of_getElem? hst
    have hjl:j < ss.length:=(List.getElem?_eq_some_iff.mp hst).1
    obtain⟨g1,g2⟩:=h2ss st hmem
    have g1':=fr2.out _ _ g1 (z6z hy.ty g1)
    have nm1:¬ foot p x1 st.2.1:=nf _ (z3q hx.ty (hfs st hmem)) ⟨_,(h1ss st hmem).2⟩
    have g2':=fr2.out _ _ g2 nm1
    have nm2:¬ foot p x2 st.2.1:=fun z=>by
     rcases fr2.inn _ z with y | y
     ·exact nm1 y
     ·rw[g2]at y;cases y
    obtain⟨d2,ob2⟩:=hy2.ty.ob
    have noW:(flds x2).lookup ("put_wish" : Str)=none:=fl_nx x2 (by decide +kernel)
    have hsl:ss.length<=31:=by
     have:=z7h (W:=wl x.ws) (pdat x.qs).reverse n ((wl x.ws).getD n.toNat []) x.ws.length
     rw[hgo,←es,y1e]at this;omega
    have hvl:st.2.2.2.2.2.length<=31:=by
     have:=(hsm st.2.2 (List.mem_map.mpr ⟨st,hmem,rfl⟩)).1
     omega
    have hwl:x2.ws.length=x.ws.length+j:=by rw[ew2];simp[wst];omega
    refine⟨_,rfl,p,d2,_,rfl,ob2,noW,_,rfl,.inr (.inl ⟨st.1,_,_,_,rfl,rfl,qTo g1',rfl,p,st.2.1,x2,st.2.2.2.2.2,rfl,hy2,g2',nm2,by omega,by omega,by omega,fun x3 H3 hy3 fr3 ew3 eq3 ea3 hM3=>⟨x3,_,rfl,hy3,fr2.trans fr3,?_,by rw[eq3,eq2],by rw[ea3,ea2],by omega⟩⟩)⟩
    rw[ew3,ew2,List.take_add_one,hst];simp[wst]
   ·rintro σ Hx ⟨x2,v,rfl,hy2,fr2,ew2,eq2,ea2,hM2⟩
    rw[z5g]at ew2 hM2
    rw[List.take_length]at ew2
    exact hN _ _ ⟨x2,v,rfl,hy2,fr2,ew2,eq2,ea2,hM2⟩
  rintro σ H3 ⟨x2,v,rfl,hy2,fr2,ew2,eq2,ea2,hM2⟩
  have n2t:¬ foot p x1 t:=nf _ nt ⟨_,h1t⟩
  have n2s1:¬ foot p x1 s1:=nf _ ns1 ⟨_,h1s1⟩
  have n2s2:¬ foot p x1 s2:=nf _ ns2 ⟨_,h1s2⟩
  have h3t:=fr2.out _ _ h2t n2t
  have h3s1:=fr2.out _ _ h2s1 n2s1
  have h3s2:=fr2.out _ _ h2s2 n2s2
  have h3ss:SsOk H3 ss:=fun s hs=>⟨fr2.out _ _ (h2ss s hs).1 (z6z hy.ty (h2ss s hs).1),fr2.out _ _ (h2ss s hs).2 (nf _ (z3q hx.ty (hfs s hs)) ⟨_,(h1ss s hs).2⟩)⟩
  have h3q:TrOk H3 qs':=fun u hu=>fr2.out _ _ (h2q u hu) (z6z hy.ty (h2q u hu))
  have nf2:∀ b,¬ foot p x1 b->(∃ o,H2 b=some o)->¬ foot p x2 b:=fun b hb ⟨o,ho⟩ z=>by
   rcases fr2.inn b z with y | y
   ·exact hb y
   ·rw[ho]at y;cases y
  have frA:Fr p x x2 H H3:=((Fr.same sm).trans fr).trans fr2
  have fin:∀ (x3:Tly) (H4:Hp),Tal C H4 p x3->Fr p x2 x3 H3 H4->x3.ws=x2.ws->x3.at_=x2.at_->x3.M=x2.M->pdat x3.qs=pdat qs'->¬ foot p x3 s2/\H4 t=some (.tup [.ref s1,.ref s2])/\Q (.ref s2) H4:=fun x3 H4 hy3 fr3 ew3 ea3 eM3 ep3=>by
   have m2:∀ b,¬ foot p x1 b->(∃ o,H2 b=some o)->∀ o,H3 b=some o->H4 b=some o:=fun b hb he o ho=>fr3.out b o ho (nf2 b hb he)
   have n3:¬ foot p x3 s2:=fun z=>by
    rcases fr3.inn _ z with y | y
    ·exact nf2 _ n2s2 ⟨_,h2s2⟩ y
    ·rw[h3s2]at y;cases y
   refine⟨n3,m2 _ n2t ⟨_,h2t⟩ _ h3t,?_⟩
   refine q s2 ss x3 H4 hy3 (frA.trans fr3) (by rw[ew3,ew2]) (by rw[ea3,ea2]) (by rw[eM3];exact hM2) (by rw[ep3,ep]) es hs2 n3 (m2 _ n2s2 ⟨_,h2s2⟩ _ h3s2) (fun s hs=>⟨fr3.out _ _ (h3ss s hs).1 (z6z hy2.ty (h3ss s hs).1),m2 _ (nf _ (z3q hx.ty (hfs s hs)) ⟨_,(h1ss s hs).2⟩) ⟨_,(h2ss s hs).2⟩ _ (h3ss s hs).2⟩) hfs
  refine z7y (fun σ Hx=>∃ v,σ=[some (.ref p),some (.int n),some (.ref t),some (.ref s1),v]/\Hx t=some (.tup [.ref s1,.ref s2])/\Q (.ref s2) Hx) (fun N hN=>?_) ?_
  ·refine⟨_,rfl,_,.inl ⟨_,qLo h3s1,rfl⟩,ite2 (fun c=>?_) (fun c=>?_)⟩
   ·have hne:qs'≠[]:=fun z=>by rw[z]at c;cases c
    obtain⟨q0,u,eu⟩:∃ q0 u,qs'=q0++[u]:=⟨_,_,(List.dropLast_concat_getLast hne).symm⟩
    have hgn:go.1≠[]:=fun z=>hne (List.length_eq_zero_iff.mp (by rw[hql,z];rfl))
    obtain⟨r1,l,r2,e1,e2,_,_⟩:=hG2.cons hgn
    have ep2:pdat q0++[u.2]=r2.reverse++[(-l,some (z5l n x.ws.length go.2))]:=by
     have:=ep
     rw[eu,e2]at this
     simpa[pdat] using this
    obtain⟨f1,f2⟩:=List.append_inj' ep2 rfl
    have eu2:u.2=(-l,some (z5l n x.ws.length go.2)):=by simpa using f2
    have eu1:u.2.1=-l:=congrArg (·.1) eu2
    have ek:qs'.length - 1=r2.length:=by
     have h1:=congrArg List.length f1
     rw[eu];simp[pdat]at h1 ⊢;exact h1
    have epx:pdat x.qs=r2.reverse++(l,none)::r1.reverse:=by
     have:=congrArg List.reverse e1
     rw[List.reverse_reverse]at this
     rw[this];simp
    have eTx:x.T=(pdat x.qs).map (·.1):=by rw[hx.T];simp[lets,pdat]
    have hTk:x.T[r2.length]?=some l:=by rw[eTx,epx];simp
    obtain⟨d1,d2⟩:=hx.dis _ _ hTk
    have eT2:x2.T=x.T.take r2.length:=by rw[hy2.T,eq2,ek,hx.T];simp[lets,List.map_take]
    obtain⟨dd,obb⟩:=hy2.ty.ob
    have noP:(flds x2).lookup ("put" : Str)=none:=fl_nx x2 (by decide +kernel)
    have hg:atI (refs qs') (-1)=some (.ref u.1):=by
     have e:refs qs'=refs q0++[V.ref u.1]:=by rw[eu];simp[refs]
     rw[e];exact z7v _ _
    have hu3:=h3q u (by rw[eu];simp)
    have hwl2:x2.ws.length<=16700000:=by
     have:=z7h (W:=wl x.ws) (pdat x.qs).reverse n ((wl x.ws).getD n.toNat []) x.ws.length
     rw[hgo,←es,y1e]at this
     rw[ew2];simp[wst];omega
    refine⟨_,rfl,p,dd,_,rfl,obb,noP,_,rfl,1,rfl,s1,_,_,_,rfl,rfl,qLo h3s1,hg,.inr (.inl ⟨u.1,_,_,_,rfl,rfl,qTo hu3,rfl,_,rfl,1,rfl,s1,_,_,_,rfl,rfl,qLo h3s1,hg,.inr (.inl ⟨u.1,_,_,_,rfl,rfl,qTo hu3,rfl,p,x2,u.2.1,u.2.2,rfl,hy2,by rw[eT2,eu1];exact d2,by rw[eT2,eu1,Int.neg_neg];exact d1,hwl2,by rw[eq2];simp;omega,fun pt x3 H4 hy3 fr3 ew3 eq3 ea3 eM3=>?_⟩)⟩)⟩
    obtain⟨_,a1,a2⟩:=fin x3 H4 hy3 fr3 ew3 ea3 eM3 (by
     rw[eq3,eq2,ek,eu]
     have:pdat (x.qs.take r2.length)=pdat q0:=by
      have h1:pdat (x.qs.take r2.length)=(pdat x.qs).take r2.length:=by simp[pdat,List.map_take]
      have h2:r2.length=r2.reverse.length:=by simp
      rw[h1,epx,h2,List.take_left,f1]
     have e4:∀ (a b:List Pr),pdat (a++b)=pdat a++pdat b:=fun a b=>by simp[pdat]
     rw[e4,e4,this];rfl)
    exact hN _ _ ⟨_,rfl,a1,a2⟩
   ·have h0:qs'=[]:=by
     cases h:qs' with
     | nil=>rfl
     | cons u r=>rw[h]at c;exact absurd rfl c
    obtain⟨_,a1,a2⟩:=fin x2 H3 hy2 (Fr.refl _ _ _) rfl rfl rfl (by rw[eq2,h0];simp[pdat])
    exact hN _ _ ⟨_,rfl,a1,a2⟩
  rintro σ Hx ⟨v,rfl,a1,a2⟩
  exact⟨_,rfl,.inr (.inl ⟨t,_,_,_,rfl,rfl,qTo a1,rfl,a2⟩)⟩
end
def so (bs:List Bool) (n:Int):Bool:=bs.getD (n.natAbs - 1) false == decide (0 < n)
theorem y9s {bs:List Bool} {n:Int} (h:n≠0):so bs (-n)=!so bs n:=by
 unfold so
 have e:(-n).natAbs=n.natAbs:=by omega
 rw[e]
 by_cases p:0 < n
 ·have:¬ 0 < -n:=by omega
  simp only[decide_eq_true p,decide_eq_false this]
  cases bs.getD (n.natAbs - 1) false<;>rfl
 ·have:0 < -n:=by omega
  simp only[decide_eq_false p,decide_eq_true this]
  cases bs.getD (n.natAbs - 1) false<;>rfl
def litB (q:Pd):Bool:=q.2.isNone && decide (0 < q.1)
def openB:List Pd->List Bool->Bool
 | [],_=>true
 | q::P,s=>if so s q.1=true then openB P s else litB q
def agB (P:List Pd) (s:List Bool):Bool:=P.all fun q=>so s q.1
theorem x6s (P Q:List Pd) (s:List Bool):agB (P++Q) s=(agB P s && agB Q s):=by simp[agB]
def allS:Nat->List (List Bool)
 | 0=>[[]]
 | c+1=>(allS c).map (true::·)++(allS c).map (false::·)
theorem mem_allS:∀ {c:Nat} {s:List Bool},s∈allS c↔s.length=c
 | 0,s=>by simp[allS]
 | c+1,s=>by
  cases s with
  | nil=>simp[allS]
  | cons b s =>
   have ih:=mem_allS (c:=c) (s:=s)
   cases b<;>simp[allS,ih]
theorem y5b:∀ c,(allS c).length=2 ^ c
 | 0=>rfl
 | c+1=>by simp[allS,y5b c,Nat.pow_succ];omega
theorem y2c {α:Type} {p q:α->Bool}:∀ {l:List α},(∀ x∈l,q x=true->p x=true)->(l.filter q).length<=(l.filter p).length
 | [],_=>Nat.le_refl _
 | a::l,h=>by
  have ih:=y2c (l:=l) fun x hx=>h x (List.mem_cons_of_mem _ hx)
  rw[List.filter_cons,List.filter_cons]
  by_cases hq:q a=true
  ·rw[if_pos hq,if_pos (h a List.mem_cons_self hq)];simpa using ih
  ·rw[if_neg hq]
   split
   ·simp only[List.length_cons];omega
   ·exact ih
def z1z (W:List (List Int)) (s:List Bool):Prop:=∀ v∈W,v.any (so s)=true
theorem so_val {s:List Bool} {y:Int}:so s y=true↔s.getD (y.natAbs - 1) false=decide (0 < y):=by unfold so;simp
theorem z9r {P:List Pd} {s:List Bool} (h:agB P s=true) {y:Int} (hy:y∈P.map (·.1)):so s y=true:=by
 obtain⟨q,hq,rfl⟩:=List.mem_map.mp hy
 exact List.all_eq_true.mp h q hq
theorem w0v (P:List Pd) (s:List Bool):agB P.reverse s=agB P s:=by simp[agB]
theorem Tv_nz {W:List (List Int)}:∀ {r:List Pd},Tv W r->∀ y∈r.map (·.1),y≠0
 | [],_,y,hy=>by simp at hy
 | (l,why)::r,⟨l0,_,hv⟩,y,hy=>by
  rcases List.mem_cons.mp hy with z | z
  ·rw[z];exact l0
  ·exact Tv_nz hv y z
theorem y9f {W:List (List Int)} {r2:List Pd}:∀ {r1:List Pd},Tv W (r1++r2)->Tv W r2
 | [],h=>h
 | (_,_)::r1,h=>y9f (r1:=r1) h.2.2
theorem x5t {W:List (List Int)} {l j:Int} {r:List Pd} {s:List Bool} (h:Tv W ((l,some j)::r)) (hm:z1z W s) (ha:agB r s=true):so s l=true:=by
 obtain⟨l0,hj,hv⟩:=h
 obtain⟨j0,j1,hl,ho⟩:=hj j rfl
 have hw:W.getD j.toNat []∈W:=by
  have:j.toNat < W.length:=by omega
  simp[this]
 obtain⟨y,hy,hs⟩:=List.any_eq_true.mp (hm _ hw)
 by_cases e:y=l
 ·rw[←e];exact hs
 ·have h1:=ho y hy e
  have h2:=z9r ha h1
  have h3:=Tv_nz hv _ h1
  rw[y9s (by omega),hs]at h2;cases h2
theorem x5b {l:Int} {a b:List Int} {s:List Bool} (l0:l≠0) (ha:a.any (so s)=true) (hb:b.any (so s)=true):(mrg l a b).any (so s)=true:=by
 obtain⟨y,hy,hys⟩:=List.any_eq_true.mp ha
 obtain⟨z,hz,hzs⟩:=List.any_eq_true.mp hb
 by_cases e:y=l
 ·by_cases e2:z=-l
  ·rw[e2,y9s l0,←e,hys]at hzs;cases hzs
  ·exact List.any_eq_true.mpr ⟨z,mem_mrg.mpr (.inr ⟨hz,e2⟩),hzs⟩
 ·exact List.any_eq_true.mpr ⟨y,mem_mrg.mpr (.inl ⟨hy,e⟩),hys⟩
theorem z8y {W:List (List Int)} {j:Int} (h0:0<=j) (h1:j < W.length):W.getD j.toNat []∈W:=by
 have:j.toNat < W.length:=by omega
 simp[this]
theorem y5t {s:List Bool}:∀ {ts:List Stp} {W:List (List Int)},z2k W ts->z1z W s->z1z (W++wlSt ts) s
 | [],W,_,h=>by simpa[wlSt] using h
 | t::ts,W,hr,h=>by
  obtain⟨h1,h2⟩:=hr
  obtain⟨a0,a1,b0,b1,l1,_,_,e⟩:=h1
  have hm:z1z (W++[t.2.2.2]) s:=fun v hv=>by
   rcases mApp hv with z | z
   ·exact h v z
   ·have:v=t.2.2.2:=by simpa using z
    rw[this,e]
    exact x5b (by omega) (h _ (z8y a0 a1)) (h _ (z8y b0 b1))
  have:=y5t h2 hm
  simpa[wlSt] using this
def GoodP (P:List Pd):Prop:=∀ R q R',P=R++q::R'->q.2=none->∀ m:Nat,1<=m->m < q.1.natAbs->∃ y∈R.map (·.1),y.natAbs=m
def erl:List Bool->List Bool->Bool
 | a::s,b::s'=>if a=b then erl s s' else a
 | _,_=>false
theorem x9f:∀ {k:Nat} {s s':List Bool},(∀ i,i < k->s.getD i false=s'.getD i false)->k < s.length->k < s'.length->s.getD k false=true->s'.getD k false=false->erl s s'=true
 | 0,a::s,b::s',_,_,_,h1,h2=>by
  have e1:a=true:=h1
  have e2:b=false:=h2
  rw[e1,e2];rfl
 | k+1,a::s,b::s',h,l1,l2,h1,h2=>by
  have e:a=b:=h 0 (Nat.succ_pos _)
  show (if a=b then erl s s' else a)=true
  rw[if_pos e]
  exact x9f (k:=k) (fun i hi=>by have:=h (i+1) (by omega);simpa using this) (by simpa using l1) (by simpa using l2) (by simpa using h1) (by simpa using h2)
 | _,[],_,_,l1,_,_,_=>by simp at l1
 | _,_::_,[],_,_,l2,_,_=>by simp at l2
theorem x6a {R R':List Pd} {q:Pd} {P:List Pd} {s s':List Bool} {c:Nat} (hg:GoodP P) (e:P=R++q::R') (hq:q.2=none) (h0:q.1≠0) (hc:q.1.natAbs<=c) (hs:s.length=c) (hs':s'.length=c) (a:agB R s=true) (a':agB R s'=true) (h1:so s (q.1.natAbs:Int)=true) (h2:so s' (q.1.natAbs:Int)=false):erl s s'=true:=by
 refine x9f (k:=q.1.natAbs - 1) (fun i hi=>?_) (by omega) (by omega) ?_ ?_
 ·obtain⟨y,hy,ey⟩:=hg R q R' e hq (i+1) (by omega) (by omega)
  have b1:=so_val.mp (z9r a hy)
  have b2:=so_val.mp (z9r a' hy)
  have:y.natAbs - 1=i:=by omega
  rw[this]at b1 b2
  rw[b1,b2]
 ·have:=so_val.mp h1
  have e1:((q.1.natAbs:Int)).natAbs - 1=q.1.natAbs - 1:=by omega
  rw[e1]at this
  rw[this];exact decide_eq_true (by omega)
 ·have:¬ s'.getD (((q.1.natAbs:Int)).natAbs - 1) false=decide (0 < (q.1.natAbs:Int)):=fun z=>by rw[so_val.mpr z]at h2;cases h2
  have e1:((q.1.natAbs:Int)).natAbs - 1=q.1.natAbs - 1:=by omega
  rw[e1,decide_eq_true (show 0 < (q.1.natAbs:Int) by omega)]at this
  simpa using this
theorem z9j {α:Type} {P R R':List α} {z q:α} (h:P++[z]=R++q::R'):(R'=[]/\R=P/\q=z)∨∃ S,R'=S++[z]/\P=R++q::S:=by
 rcases List.eq_nil_or_concat R' with e | ⟨S,y,e⟩
 ·subst e
  obtain⟨h1,h2⟩:=List.append_inj' h rfl
  exact .inl ⟨rfl,h1.symm,by simpa using h2.symm⟩
 ·have e':R'=S++[y]:=by rw[e];simp
  subst e'
  have h':P++[z]=(R++q::S)++[y]:=by rw[h];simp
  obtain⟨h1,h2⟩:=List.append_inj' h' rfl
  have:z=y:=by simpa using h2
  exact .inr ⟨S,by rw[this],h1⟩
theorem GoodP.put {P:List Pd} (h:GoodP P) {l j:Int}:GoodP (P++[(l,some j)]):=by
 intro R q R' e hq m h1 h2
 rcases z9j e with ⟨_,_,e3⟩ | ⟨S,_,e3⟩
 ·rw[e3]at hq;cases hq
 ·exact h R q S e3 hq m h1 h2
structure AllI (c:Nat) (G W:List (List Int)) (P:List Pd) (F:List (List Bool)):Prop where
 tv:Tv W P.reverse
 good:GoodP P
 bnd:∀ q∈P,q.1.natAbs<=c
 dis:Dis (P.map (·.1))
 imp:∀ s,z1z G s->z1z W s
 sub:∀ v∈G,v∈W
 lett:∀ v∈W,∀ y∈v,y≠0/\y.natAbs<=c
 told:∀ s:List Bool,s.length=c->z1z G s->(s∈F↔openB P s=false)
 ok:∀ s∈F,s.length=c/\z1z G s
 ord:F.Pairwise fun s s'=>erl s s'=true
theorem x7o {W:List (List Int)} {T:List Int} {x:Int} {i:Nat} (h:z2v W T=some (x,i)):∃ w,W[i]?=some w/\x∈w/\¬ x∈T/\¬ -x∈T/\∀ y∈w,y≠x->-y∈T:=by
 obtain⟨_,_,w,hw,_,ho,hx,h1,h2⟩:=z9n h
 refine⟨w,hw,hx,h1,h2,fun y hy hn=>?_⟩
 by_cases z:-y∈T
 ·exact z
 ·have:y∈z3h w T:=List.mem_filter.mpr ⟨mem_once.mpr hy,by simp[z]⟩
  rw[ho]at this
  exact absurd (by simpa using this) hn
theorem Dis.pre {T U:List Int} (h:Dis (T++U)):Dis T:=fun k l hk=>by
 have hl:=(List.getElem?_eq_some_iff.mp hk).1
 have:=h k l (by rw[List.getElem?_append_left hl];exact hk)
 rw[List.take_append_of_le_length (by omega)]at this
 exact this
theorem Dis.mid {T U:List Int} {l:Int} (h:Dis (T++l::U)):¬ l∈T/\¬ -l∈T:=by
 have:=h T.length l (by simp)
 rw[List.take_left]at this
 exact this
theorem Dis.opp {T:List Int} (h:Dis T) {y:Int} (hy:y∈T) (h0:y≠0):¬ -y∈T:=fun hz=>by
 obtain⟨i,hi⟩:=List.mem_iff_getElem?.mp hy
 obtain⟨j,hj⟩:=List.mem_iff_getElem?.mp hz
 have tk:∀ {a b:Nat} {v:Int},T[a]?=some v->a < b->v∈T.take b:=fun {a b v} e lt=>by
  refine List.mem_iff_getElem?.mpr ⟨a,?_⟩
  rw[List.getElem?_take_of_lt lt];exact e
 rcases Nat.lt_trichotomy i j with c | c | c
 ·have:=(h j (-y) hj).2
  rw[Int.neg_neg]at this
  exact this (tk hi c)
 ·rw[c,hj]at hi
  have:=Option.some.inj hi
  omega
 ·exact (h i y hi).2 (tk hj c)
def setT (c:Nat) (T:List Int):List Bool:=(List.range c).map fun (i:Nat)=>decide ((1+(i:Int))∈T)
theorem z8l (c:Nat) (T:List Int):(setT c T).length=c:=by simp[setT]
theorem y9v {c:Nat} {T:List Int} {i:Nat} (h:i < c):(setT c T).getD i false=decide ((1+(i:Int))∈T):=by simp[setT,h]
theorem y7y {c:Nat} {P:List Pd} (hd:Dis (P.map (·.1))) (hb:∀ q∈P,q.1≠0/\q.1.natAbs<=c):agB P (setT c (P.map (·.1)))=true:=by
 refine List.all_eq_true.mpr fun q hq=>?_
 obtain⟨q0,qc⟩:=hb q hq
 have hm:q.1∈P.map (·.1):=List.mem_map.mpr ⟨q,hq,rfl⟩
 rw[so_val,y9v (by omega)]
 have e:(1+((q.1.natAbs - 1:Nat):Int))=(q.1.natAbs:Int):=by omega
 rw[e]
 by_cases p:0 < q.1
 ·have e2:(q.1.natAbs:Int)=q.1:=by omega
  rw[e2,decide_eq_true p,decide_eq_true hm]
 ·have e2:(q.1.natAbs:Int)=-q.1:=by omega
  rw[e2,decide_eq_false p,decide_eq_false (hd.opp hm q0)]
theorem x3l {c:Nat} {P:List Pd} (hd:Dis (P.map (·.1))) (hf:∀ m:Nat,1<=m->m<=c->∃ y∈P.map (·.1),y.natAbs=m) {s:List Bool} (hs:s.length=c) (ha:agB P s=true):s=setT c (P.map (·.1)):=by
 refine List.ext_getElem (by rw[hs,z8l]) fun i h1 h2=>?_
 have hi:i < c:=by omega
 obtain⟨y,hy,ey⟩:=hf (i+1) (by omega) (by omega)
 have b:=so_val.mp (z9r ha hy)
 have ei:y.natAbs - 1=i:=by omega
 rw[ei]at b
 have g1:s.getD i false=s[i]:=by simp[h1]
 have g2:(setT c (P.map (·.1))).getD i false=(setT c (P.map (·.1)))[i]:=by
  rw[List.getD_eq_getElem?_getD,List.getElem?_eq_getElem h2];rfl
 rw[←g1,←g2,b,y9v hi]
 by_cases p:0 < y
 ·have:(1+(i:Int))=y:=by omega
  rw[this,decide_eq_true p,decide_eq_true hy]
 ·have:(1+(i:Int))=-y:=by omega
  rw[this,decide_eq_false p,decide_eq_false (hd.opp hy (by omega))]
theorem y5g {W:List (List Int)} {P:List Pd} {s:List Bool} {c:Nat} (hb:z1e W (P.map (·.1))=none) (hl:∀ v∈W,∀ y∈v,y≠0/\y.natAbs<=c) (hf:∀ m:Nat,1<=m->m<=c->∃ y∈P.map (·.1),y.natAbs=m) (ha:agB P s=true):z1z W s:=by
 intro v hv
 unfold z1e at hb
 rw[List.findIdx?_eq_none_iff]at hb
 have h1:=hb v hv
 have h2:cnt v (P.map (·.1))≠some 0:=fun z=>by rw[decide_eq_true z]at h1;cases h1
 unfold cnt at h2
 by_cases k:z3n v (P.map (·.1))=true
 ·obtain⟨y,hy,e⟩:=List.any_eq_true.mp k
  exact List.any_eq_true.mpr ⟨y,hy,z9r ha (of_decide_eq_true e)⟩
 ·rw[if_neg k]at h2
  have h3:(z3h v (P.map (·.1))).length≠0:=fun z=>h2 (by rw[z])
  obtain⟨y,hy⟩:=List.exists_mem_of_length_pos (Nat.pos_of_ne_zero h3)
  obtain⟨m1,m2⟩:=List.mem_filter.mp hy
  have hyv:=mem_once.mp m1
  have hno:¬ -y∈P.map (·.1):=by simpa using m2
  obtain⟨y0,yc⟩:=hl v hv y hyv
  obtain⟨z,hz,ez⟩:=hf y.natAbs (by omega) yc
  have:z=y∨z=-y:=by omega
  rcases this with e | e
  ·exact List.any_eq_true.mpr ⟨y,hyv,z9r ha (e ▸ hz)⟩
  ·exact absurd (e ▸ hz) hno
theorem w0s {W:List (List Int)} {P:List Pd} {n:Int} (hv:Tv W P.reverse) (n0:0<=n) (n1:n < W.length) (hc:Cov (W.getD n.toNat []) P.reverse) :
 z2k W (goB W P.reverse n (W.getD n.toNat []) W.length).2/\((goB W P.reverse n (W.getD n.toNat []) W.length).1=[]->[]∈W++wlSt (goB W P.reverse n (W.getD n.toNat []) W.length).2) /\
 ((goB W P.reverse n (W.getD n.toNat []) W.length).1≠[]->∃ R l R' j,P=R++(l,none)::R'/\(goB W P.reverse n (W.getD n.toNat []) W.length).1.reverse=R++[(-l,some j)]/\Tv (W++wlSt (goB W P.reverse n (W.getD n.toNat []) W.length).2) ((-l,some j)::R.reverse)):=by
 obtain⟨h1,h2⟩:=z8w W P.reverse [] n (W.getD n.toNat []) W.length (by rw[List.append_nil]) hv hc n0 (by rw[List.append_nil];exact n1) (by rw[List.append_nil])
 rw[List.append_nil]at h1
 have hk:=x6d (ts:=(goB W P.reverse n (W.getD n.toNat []) W.length).2) n0 n1 rfl
 generalize goB W P.reverse n (W.getD n.toNat []) W.length=go at h1 h2 hk
 obtain⟨k0,k1,k2⟩:=hk
 refine⟨h1,fun e=>?_,fun e=>?_⟩
 ·have:=h2.nil e
  rw[this]at k2
  rw[←k2]
  exact z8y k0 k1
 ·obtain⟨r1,l,r2,e1,e2,m,ho⟩:=h2.cons e
  have eP:P=r2.reverse++(l,none)::r1.reverse:=by
   have:=congrArg List.reverse e1
   rw[List.reverse_reverse]at this
   rw[this];simp
  have hv2:Tv W ((l,none)::r2):=by rw[e1]at hv;exact y9f hv
  refine⟨r2.reverse,l,r1.reverse,z5l n W.length go.2,eP,by rw[e2];simp,?_⟩
  rw[List.reverse_reverse]
  refine⟨by have:=hv2.1;omega,fun j hj=>?_,x6u hv2.2.2⟩
  have:j=z5l n W.length go.2:=(Option.some.inj hj).symm
  subst this
  exact⟨k0,k1,by rw[k2];exact m,fun y hy hne=>by rw[k2]at hy;exact ho y hy hne⟩
theorem w0p {T:List Int} {c:Nat} (h:Dis T) (hb:∀ y∈T,y≠0/\y.natAbs<=c):T.length<=c:=by
 have nd:(T.map fun y=>(y.natAbs:Int)).Nodup:=by
  rw[List.nodup_iff_pairwise_ne,List.pairwise_iff_getElem]
  intro i j hi hj hij e
  have hi':i < T.length:=by simpa using hi
  have hj':j < T.length:=by simpa using hj
  simp only[List.getElem_map]at e
  obtain⟨d1,d2⟩:=h j T[j] (List.getElem?_eq_getElem hj')
  have hm:T[i]∈T.take j:=List.mem_iff_getElem?.mpr ⟨i,by rw[List.getElem?_take_of_lt hij,List.getElem?_eq_getElem hi']⟩
  have:T[i]=T[j]∨T[i]=-T[j]:=by omega
  rcases this with z | z
  ·exact d1 (z ▸ hm)
  ·exact d2 (z ▸ hm)
 have:=y5x c 0 _ nd fun x hx=>by
  obtain⟨y,hy,rfl⟩:=List.mem_map.mp hx
  have:=hb y hy
  omega
 simpa using this
theorem x2s {W:List (List Int)} {P:List Pd} {i:Nat} (h:z1e W (P.map (·.1))=some i):i < W.length/\Cov (W.getD i []) P.reverse:=by
 unfold z1e at h
 obtain⟨hi,hc,_⟩:=List.findIdx?_eq_some_iff_getElem.mp h
 have hg:W.getD i []=W[i]:=by simp[hi]
 refine⟨hi,?_⟩
 rw[hg]
 have hc':cnt W[i] (P.map (·.1))=some 0:=of_decide_eq_true hc
 unfold cnt at hc'
 by_cases k:z3n W[i] (P.map (·.1))=true
 ·rw[if_pos k]at hc';cases hc'
 ·rw[if_neg k]at hc'
  have h0:z3h W[i] (P.map (·.1))=[]:=List.length_eq_zero_iff.mp (Option.some.inj hc')
  intro y hy
  have:¬ y∈z3h W[i] (P.map (·.1)):=by rw[h0];simp
  by_cases z:-y∈P.map (·.1)
  ·simpa using z
  ·exact absurd (List.mem_filter.mpr ⟨mem_once.mpr hy,by simp[z]⟩) this
def openN:List Pd->List Bool->Bool
 | [],_=>true
 | q::P,s=>if so s q.1=true then openN P s else q.2.isNone
theorem z8r (Q:List Pd) (s:List Bool):∀ P:List Pd,openN (P++Q) s=if agB P s=true then openN Q s else openN P s
 | []=>by simp[agB]
 | q::P=>by
  have ih:=z8r Q s P
  show (if so s q.1=true then openN (P++Q) s else q.2.isNone)=_
  have e:agB (q::P) s=(so s q.1 && agB P s):=by simp[agB]
  have e2:openN (q::P) s=if so s q.1=true then openN P s else q.2.isNone:=rfl
  by_cases h:so s q.1=true
  ·rw[if_pos h,ih,e,e2,if_pos h,h];simp
  ·rw[if_neg h,e,e2,if_neg h];simp[h]
theorem y0s {s:List Bool}:∀ {P:List Pd},agB P s=true->openN P s=true
 | [],_=>rfl
 | q::P,h=>by
  have e:agB (q::P) s=(so s q.1 && agB P s):=by simp[agB]
  rw[e,Bool.and_eq_true]at h
  show (if so s q.1=true then openN P s else q.2.isNone)=true
  rw[if_pos h.1];exact y0s h.2
theorem x4b {P:List Pd} {q:Pd} {s:List Bool} (h:openN (P++[q]) s=true):openN P s=true:=by
 rw[z8r]at h
 by_cases a:agB P s=true
 ·exact y0s a
 ·rw[if_neg a]at h;exact h
theorem x4a {R R':List Pd} {l j:Int} (l0:l≠0) {s:List Bool} (h:openN (R++[(-l,some j)]) s=true):openN (R++(l,none)::R') s=true:=by
 rw[z8r]at h ⊢
 by_cases a:agB R s=true
 ·rw[if_pos a]at h ⊢
  have h1:so s (-l)=true:=by
   cases e:so s (-l) with
   | true=>rfl
   | false =>
    have h':(if so s (-l)=true then true else false)=true:=h
    rw[e]at h';simp at h'
  have e:=y9s (bs:=s) (n:=l) l0
  have h2:so s l=false:=by
   rw[h1]at e
   cases h3:so s l with
   | false=>rfl
   | true=>rw[h3]at e;cases e
  show (if so s l=true then openN R' s else true)=true
  rw[h2];simp
 ·rw[if_neg a]at h ⊢;exact h
theorem x1r {R:List Pd} {l j:Int} (l0:l≠0) {s:List Bool} (a:agB R s=true) (hl:so s l=true):openN (R++[(-l,some j)]) s=false:=by
 rw[z8r,if_pos a]
 show (if so s (-l)=true then true else false)=false
 rw[y9s l0,hl];simp
def upto (k:Nat) (P:List Pd):List Pd:=P.filter fun q=>decide (q.1.natAbs<=k)
def nk (k:Nat) (P:List Pd):Nat:=((allS k).filter (openN (upto k P))).length
theorem nk_le (k:Nat) (P:List Pd):nk k P<=2 ^ k:=by unfold nk;rw[←y5b k];exact List.length_filter_le _ _
theorem y3r (k:Nat) (P Q:List Pd):upto k (P++Q)=upto k P++upto k Q:=by simp[upto]
theorem x8z {k:Nat} {P:List Pd} {q:Pd}:nk k (P++[q])<=nk k P:=by
 unfold nk
 refine y2c fun s _ h=>?_
 rw[y3r]at h
 by_cases z:q.1.natAbs<=k
 ·have:upto k [q]=[q]:=by simp[upto,z]
  rw[this]at h;exact x4b h
 ·have:upto k [q]=[]:=by simp[upto,z]
  rw[this,List.append_nil]at h;exact h
theorem w0f {k:Nat} {Q:List Pd}:∀ {P:List Pd},nk k (P++Q)<=nk k P:=by
 induction Q with
 | nil=>intro P;rw[List.append_nil];exact Nat.le_refl _
 | cons q Q ih =>
  intro P
  have e:P++q::Q=(P++[q])++Q:=by simp
  rw[e]
  exact Nat.le_trans ih x8z
theorem x8h {T:List Int}:Dis T↔T.Pairwise fun a b=>a≠b/\a≠-b:=by
 rw[List.pairwise_iff_getElem]
 constructor
 ·intro h i j hi hj hij
  obtain⟨h1,h2⟩:=h j T[j] (List.getElem?_eq_getElem hj)
  have hm:T[i]∈T.take j:=List.mem_iff_getElem?.mpr ⟨i,by rw[List.getElem?_take_of_lt hij,List.getElem?_eq_getElem hi]⟩
  exact⟨fun e=>h1 (e ▸ hm),fun e=>h2 (e ▸ hm)⟩
 ·intro h k l hk
  obtain⟨hl,e⟩:=List.getElem?_eq_some_iff.mp hk
  have key:∀ y∈T.take k,y≠l/\y≠-l:=fun y hy=>by
   obtain⟨i,hi,ei⟩:=List.mem_iff_getElem.mp hy
   rw[List.getElem_take]at ei
   have hik:i < k:=by simp at hi;omega
   have:=h i k (by omega) hl hik
   rw[ei,e]at this
   exact this
  exact⟨fun z=>(key l z).1 rfl,fun z=>(key (-l) z).2 rfl⟩
theorem x0z {k:Nat} {P:List Pd} (h:Dis (P.map (·.1))):Dis ((upto k P).map (·.1)):=by
 rw[x8h]at h ⊢
 exact List.Pairwise.sublist (List.Sublist.map _ List.filter_sublist) h
theorem w1t {k:Nat} {P:List Pd} (hd:Dis (P.map (·.1))) (hz:∀ q∈P,q.1≠0):0 < nk k P:=by
 refine List.length_pos_iff.mpr fun z=>?_
 have ha:agB (upto k P) (setT k ((upto k P).map (·.1)))=true:=y7y (x0z hd) fun q hq=>by
  obtain⟨h1,h2⟩:=List.mem_filter.mp hq
  exact⟨hz q h1,of_decide_eq_true h2⟩
 have:setT k ((upto k P).map (·.1))∈(allS k).filter (openN (upto k P)):=List.mem_filter.mpr ⟨mem_allS.mpr (z8l k _),y0s ha⟩
 rw[z]at this;cases this
theorem w0g {k:Nat} {R R':List Pd} {l j:Int} (hd:Dis ((R++(l,none)::R').map (·.1))) (hz:∀ q∈R++(l,none)::R',q.1≠0) (hk:l.natAbs<=k):nk k (R++[(-l,some j)]) < nk k (R++(l,none)::R'):=by
 have l0:l≠0:=hz (l,none) (by simp)
 have e1:upto k (R++[(-l,some j)])=upto k R++[(-l,some j)]:=by
  rw[y3r]
  have:upto k [((-l:Int),some j)]=[(-l,some j)]:=by simp[upto,hk]
  rw[this]
 have e2:upto k (R++(l,none)::R')=upto k R++(l,none)::upto k R':=by
  rw[y3r]
  have:upto k ((l,none)::R')=(l,none)::upto k R':=by simp[upto,hk]
  rw[this]
 have ha:agB (upto k (R++(l,none)::R')) (setT k ((upto k (R++(l,none)::R')).map (·.1)))=true:=y7y (x0z hd) fun q hq=>by
  obtain⟨h1,h2⟩:=List.mem_filter.mp hq
  exact⟨hz q h1,of_decide_eq_true h2⟩
 unfold nk
 refine y2d (fun s _ h=>?_) (mem_allS.mpr (z8l k ((upto k (R++(l,none)::R')).map (·.1)))) (y0s ha) ?_
 ·rw[e1]at h;rw[e2];exact x4a l0 h
 ·rw[e2,x6s,Bool.and_eq_true]at ha
  have e:∀ s,agB ((l,none)::upto k R') s=(so s l && agB (upto k R') s):=fun s=>by simp[agB]
  rw[e,Bool.and_eq_true]at ha
  rw[e1]
  rw[e2]at *
  exact x1r l0 ha.1 ha.2.1
def GoodE (k:Nat) (E:List Int) (P:List Pd):Prop:=∀ R q R',P=R++q::R'->q.2=none->q.1.natAbs<=k/\(q.1∈E∨(0 < q.1/\(∀ e∈E,e∈R.map (·.1)∨-e∈R.map (·.1))/\∀ m:Nat,1<=m->m < q.1.natAbs->∃ y∈R.map (·.1),y.natAbs=m))
theorem GoodE.put {k:Nat} {E:List Int} {P:List Pd} (h:GoodE k E P) {l j:Int}:GoodE k E (P++[(l,some j)]):=by
 intro R q R' e hq
 rcases z9j e with ⟨_,_,e3⟩ | ⟨S,_,e3⟩
 ·rw[e3]at hq;cases hq
 ·exact h R q S e3 hq
theorem GoodE.guess {k:Nat} {E:List Int} {P:List Pd} (h:GoodE k E P) {l:Int} (hk:l.natAbs<=k) (hl:l∈E∨(0 < l/\(∀ e∈E,e∈P.map (·.1)∨-e∈P.map (·.1))/\∀ m:Nat,1<=m->m < l.natAbs->∃ y∈P.map (·.1),y.natAbs=m)):GoodE k E (P++[(l,none)]):=by
 intro R q R' e hq
 rcases z9j e with ⟨_,e2,e3⟩ | ⟨S,_,e3⟩
 ·rw[e2,e3];exact⟨hk,hl⟩
 ·exact h R q S e3 hq
theorem GoodE.pre {k:Nat} {E:List Int} {R R':List Pd} (h:GoodE k E (R++R')):GoodE k E R:=fun R1 q R2 e hq=>h R1 q (R2++R') (by rw[e];simp) hq
structure SI (c k:Nat) (E:List Int) (G W:List (List Int)) (P:List Pd):Prop where
 tv:Tv W P.reverse
 bnd:∀ q∈P,q.1.natAbs<=c
 dis:Dis (P.map (·.1))
 imp:∀ s,z1z G s->z1z W s
 sub:∀ v∈G,v∈W
 lett:∀ v∈W,∀ y∈v,y≠0/\y.natAbs<=c
 good:GoodE k E P
theorem SI.zero {c k:Nat} {E:List Int} {G W:List (List Int)} (hi:∀ s,z1z G s->z1z W s) (hs:∀ v∈G,v∈W) (hl:∀ v∈W,∀ y∈v,y≠0/\y.natAbs<=c):SI c k E G W [] :=
 ⟨trivial,(fun _ h=>nomatch h),fun k l hk=>by simp at hk,hi,hs,hl,fun R q R' e=>by simp at e⟩
theorem SI.nz {c k:Nat} {E:List Int} {G W:List (List Int)} {P:List Pd} (h:SI c k E G W P):∀ q∈P,q.1≠0/\q.1.natAbs<=c:=fun q hq=>⟨Tv_nz h.tv q.1 (by simpa using ⟨q.2,hq⟩),h.bnd q hq⟩
theorem SI.len {c k:Nat} {E:List Int} {G W:List (List Int)} {P:List Pd} (h:SI c k E G W P):P.length<=c:=by
 have:=w0p (c:=c) h.dis fun y hy=>by
  obtain⟨q,hq,rfl⟩:=List.mem_map.mp hy
  exact h.nz q hq
 simpa using this
theorem SI.force {c k:Nat} {E:List Int} {G W:List (List Int)} {P:List Pd} (h:SI c k E G W P) {x:Int} {i:Nat} (hn:z2v W (P.map (·.1))=some (x,i)):SI c k E G W (P++[(x,some (i:Int))]):=by
 obtain⟨w,hw,hx,h1,h2,ho⟩:=x7o hn
 have hwm:=List.mem_of_getElem? hw
 have hil:i < W.length:=(List.getElem?_eq_some_iff.mp hw).1
 have hg:W.getD i []=w:=by simp[List.getD,hw]
 obtain⟨x0,xc⟩:=h.lett w hwm x hx
 have tv':Tv W ((x,some (i:Int))::P.reverse):=⟨x0,fun j hj=>by
  have:j=(i:Int):=(Option.some.inj hj).symm
  subst this
  have et:((i:Int)).toNat=i:=by omega
  rw[et,hg]
  exact⟨by omega,by omega,hx,fun y hy hne=>by have:=ho y hy hne;simpa using this⟩,h.tv⟩
 refine⟨by rw[List.reverse_append];exact tv',fun q hq=>?_,by rw[List.map_append];exact h.dis.snoc h1 h2,h.imp,h.sub,h.lett,h.good.put⟩
 rcases mApp hq with z | z
 ·exact h.bnd q z
 ·have:q=(x,some (i:Int)):=by simpa using z
  rw[this];exact xc
theorem SI.run {c k:Nat} {E:List Int} {G W:List (List Int)} {T:List Int} {r:List (Int × Nat)} (hr:Run W T r):∀ {P:List Pd},P.map (·.1)=T->SI c k E G W P->SI c k E G W (P++r.map fun p=>(p.1,some (p.2:Int)))/\z2v W ((P++r.map fun p=>(p.1,some (p.2:Int))).map (·.1))=none:=by
 induction hr with
 | stop h =>
  intro P e hi
  rw[List.map_nil,List.append_nil]
  exact⟨hi,by rw[e];exact h⟩
 | @step T x i r hn hr ih =>
  intro P e hi
  have h1:=hi.force (by rw[e];exact hn)
  obtain⟨a,d⟩:=ih (P:=P++[(x,some (i:Int))]) (by rw[List.map_append,e];rfl) h1
  have el:P++[(x,some (i:Int))]++r.map (fun p=>(p.1,some (p.2:Int)))=P++((x,i)::r).map fun p=>(p.1,some (p.2:Int)):=by simp
  rw[el]at a d
  exact⟨a,d⟩
theorem SI.guess {c k:Nat} {E:List Int} {G W:List (List Int)} {P:List Pd} (h:SI c k E G W P) {l:Int} (l0:l≠0) (lc:l.natAbs<=c) (hk:l.natAbs<=k) (h1:¬ l∈P.map (·.1)) (h2:¬ -l∈P.map (·.1)) (hl:l∈E∨(0 < l/\(∀ e∈E,e∈P.map (·.1)∨-e∈P.map (·.1))/\∀ m:Nat,1<=m->m < l.natAbs->∃ y∈P.map (·.1),y.natAbs=m)):SI c k E G W (P++[(l,none)]):=by
 refine⟨by rw[List.reverse_append];exact⟨l0,(fun j hj=>by cases hj),h.tv⟩,fun q hq=>?_,by rw[List.map_append];exact h.dis.snoc h1 h2,h.imp,h.sub,h.lett,h.good.guess hk hl⟩
 rcases mApp hq with z | z
 ·exact h.bnd q z
 ·have:q=(l,none):=by simpa using z
  rw[this];exact lc
theorem x5r {W:List (List Int)}:∀ (r:List Pd) (hand:Int) (wish:List Int) (n:Int),(goB W r hand wish n).1≠[]->wish≠[]/\∀ t∈(goB W r hand wish n).2,t.2.2.2≠[]
 | [],_,_,_,h=>absurd rfl h
 | (l,why)::r,hand,wish,n,h=>by
  by_cases c:-l∈wish
  ·cases why with
   | none =>
    have e:goB W ((l,none)::r) hand wish n=((-l,some hand)::r,[]):=by rw[goB,if_pos c]
    rw[e]
    exact⟨fun z=>by rw[z]at c;simp at c,fun t ht=>nomatch ht⟩
   | some j =>
    have e:goB W ((l,some j)::r) hand wish n=((goB W r n (stepB W hand wish l j).2.2.2 (n+1)).1,stepB W hand wish l j::(goB W r n (stepB W hand wish l j).2.2.2 (n+1)).2):=by rw[goB,if_pos c]
    rw[e]at h ⊢
    obtain⟨a,b⟩:=x5r r n (stepB W hand wish l j).2.2.2 (n+1) h
    refine⟨fun z=>by rw[z]at c;simp at c,fun t ht=>?_⟩
    rcases List.mem_cons.mp ht with z | z
    ·rw[z];exact a
    ·exact b t z
  ·have e:goB W ((l,why)::r) hand wish n=goB W r hand wish n:=z7q c
   rw[e]at h ⊢
   exact x5r r hand wish n h
theorem y0d {wish:List Int}:∀ {ts:List Stp},z8i wish ts=[]->wish≠[]->∃ pre t,ts=pre++[t]/\t.2.2.2=[]
 | [],h,hne=>absurd h hne
 | [t],h,_=>⟨[],t,rfl,h⟩
 | t::t2::ts,h,_=>by
  by_cases z:t.2.2.2=[]
  ·-- then all that follow stay as they are: told by the last
   have:∀ (ts:List Stp) (w:List Int) (t0:Stp),z8i w (t0::ts)=[]->∃ pre t,t0::ts=pre++[t]/\t.2.2.2=[]:=by
    intro ts
    induction ts with
    | nil=>intro w t0 h;exact⟨[],t0,rfl,h⟩
    | cons t1 ts ih =>
     intro w t0 h
     obtain⟨pre,u,e1,e2⟩:=ih t0.2.2.2 t1 h
     exact⟨t0::pre,u,by rw[e1];rfl,e2⟩
   exact this (t2::ts) wish t h
  ·obtain⟨pre,u,e1,e2⟩:=y0d (wish:=t.2.2.2) (ts:=t2::ts) h z
   exact⟨t::pre,u,by rw[e1];rfl,e2⟩
theorem SI.back {c k:Nat} {E:List Int} {G W:List (List Int)} {P:List Pd} (h:SI c k E G W P) {n:Int} (n0:0<=n) (n1:n < W.length) (hc:Cov (W.getD n.toNat []) P.reverse)
 {go:List Pd × List Stp} (hgo:goB W P.reverse n (W.getD n.toNat []) W.length=go) :
 go.2.length<=P.length/\(∀ t∈go.2,t.2.2.2.length<=P.length)/\z2k W go.2/\(∀ s,z1z W s->z1z (W++wlSt go.2) s) /\
 (go.1=[]->SI c k E G (W++wlSt go.2) []/\[]∈W++wlSt go.2/\(W.getD n.toNat []≠[]->∃ pre t,go.2=pre++[t]/\t.2.2.2=[])/\(W.getD n.toNat []=[]->go.2=[])) /\
 (go.1≠[]->W.getD n.toNat []≠[]/\(∀ t∈go.2,t.2.2.2≠[])/\SI c k E G (W++wlSt go.2) go.1.reverse/\nk k go.1.reverse < nk k P):=by
 subst hgo
 obtain⟨b1,b2,b3⟩:=w0s h.tv n0 n1 hc
 obtain⟨_,g2⟩:=z8w W P.reverse [] n (W.getD n.toNat []) W.length (by rw[List.append_nil]) h.tv hc n0 (by rw[List.append_nil];exact n1) (by rw[List.append_nil])
 have hs:=z8x (P:=fun y=>y≠0/\y.natAbs<=c) (W:=W) h.lett P.reverse n (W.getD n.toNat []) W.length h.tv hc (h.lett _ (z8y n0 n1))
 have hl:=z7h (W:=W) P.reverse n (W.getD n.toNat []) W.length
 have hne:=x5r (W:=W) P.reverse n (W.getD n.toNat []) W.length
 have hnil:W.getD n.toNat []=[]->(goB W P.reverse n (W.getD n.toNat []) W.length).2=[]:=fun e=>by
  rw[e]
  have:∀ (r:List Pd) (n m:Int),(goB W r n [] m).2=[]:=fun r=>by
   induction r with
   | nil=>intro n m;rfl
   | cons q r ih=>intro n m;obtain⟨l,why⟩:=q;rw[z7q (by simp)];exact ih n m
  exact this _ _ _
 generalize goB W P.reverse n (W.getD n.toNat []) W.length=go at b1 b2 b3 hs hl hne hnil g2
 rw[List.length_reverse]at hl
 have hw:∀ v∈wlSt go.2,∀ y∈v,y≠0/\y.natAbs<=c:=fun v hv=>by
  unfold wlSt at hv
  obtain⟨t,ht,rfl⟩:=List.mem_map.mp hv
  exact (hs t ht).2
 have hi:∀ s,z1z W s->z1z (W++wlSt go.2) s:=fun s hs=>y5t b1 hs
 have hlett:∀ v∈W++wlSt go.2,∀ y∈v,y≠0/\y.natAbs<=c:=fun v hv=>(mApp hv).elim (h.lett v) (hw v)
 refine⟨hl,fun t ht=>by have:=(hs t ht).1;rwa [List.length_reverse]at this,b1,hi,fun e=>⟨?_,b2 e,fun hz=>y0d (g2.nil e) hz,hnil⟩,fun e=>?_⟩
 ·exact SI.zero (fun s hs=>hi s (h.imp s hs)) (fun v hv=>List.mem_append_left _ (h.sub v hv)) hlett
 ·obtain⟨R,l,R',j,e1,e2,e3⟩:=b3 e
  obtain⟨z1,z2⟩:=hne e
  have hd:=h.dis
  rw[e1,List.map_append,List.map_cons]at hd
  obtain⟨d1,d2⟩:=hd.mid
  have hg:=h.good
  rw[e1]at hg
  refine⟨z1,z2,?_,?_⟩
  ·rw[e2]
   refine⟨by rw[List.reverse_append];exact e3,fun q hq=>?_,by rw[List.map_append];exact hd.pre.snoc d2 (by rw[Int.neg_neg];exact d1),fun s hs=>hi s (h.imp s hs),fun v hv=>List.mem_append_left _ (h.sub v hv),hlett,hg.pre.put⟩
   rcases mApp hq with z | z
   ·exact h.bnd q (by rw[e1];exact List.mem_append_left _ z)
   ·have:q=(-l,some j):=by simpa using z
    have hb:l.natAbs<=c:=h.bnd (l,none) (by rw[e1];simp)
    rw[this]
    show (-l).natAbs<=c
    omega
  ·rw[e2,e1]
   have hk:=(hg R (l,none) R' rfl rfl).1
   exact w0g (by rw[←e1];exact h.dis) (fun q hq=>(h.nz q (by rw[e1];exact hq)).1) hk
theorem GoodE.nil {k:Nat} {P:List Pd} (h:GoodE k [] P):GoodP P/\∀ q∈P,q.2=none->0 < q.1:=by
 refine⟨fun R q R' e hq=>?_,fun q hq hn=>?_⟩
 ·rcases (h R q R' e hq).2 with z | z
  ·cases z
  ·exact z.2.2
 ·obtain⟨R,R',e⟩:=List.append_of_mem hq
  rcases (h R q R' e hn).2 with z | z
  ·cases z
  ·exact z.1
theorem y7b {s:List Bool}:∀ {P:List Pd},agB P s=false->∃ R q R',P=R++q::R'/\agB R s=true/\so s q.1=false
 | [],h=>by cases h
 | q::P,h=>by
  have ea:∀ R,agB (q::R) s=(so s q.1 && agB R s):=fun R=>by simp[agB]
  by_cases c:so s q.1=true
  ·rw[ea,c]at h
   obtain⟨R,q',R',e1,e2,e3⟩:=y7b (P:=P) (by simpa using h)
   exact⟨q::R,q',R',by rw[e1];rfl,by rw[ea,c,e2];rfl,e3⟩
  ·exact⟨[],q,P,rfl,rfl,by simpa using c⟩
theorem SI.found {c k:Nat} {E:List Int} {G W:List (List Int)} {P:List Pd} (h:SI c k E G W P) (hb:z1e W (P.map (·.1))=none) (hf:∀ m:Nat,1<=m->m<=c->∃ y∈P.map (·.1),y.natAbs=m) :
 z1z W (setT c (P.map (·.1)))/\z1z G (setT c (P.map (·.1)))/\(E=[]->∀ s:List Bool,s.length=c->z1z G s->s≠setT c (P.map (·.1))->erl (setT c (P.map (·.1))) s=true):=by
 have ha:=y7y h.dis h.nz
 have hm:=y5g hb h.lett hf ha
 refine⟨hm,fun v hv=>hm v (h.sub v hv),fun hE s hs hG hne=>?_⟩
 have hno:agB P s=false:=Bool.eq_false_iff.mpr fun z=>hne (x3l h.dis hf hs z)
 obtain⟨R,q,R',e,a,n⟩:=y7b hno
 have hg:=h.good
 rw[hE]at hg
 obtain⟨hgp,hlit⟩:=hg.nil
 have hqm:q∈P:=by rw[e];simp
 have hqn:q.2=none:=by
  cases hq:q.2 with
  | none=>rfl
  | some j =>
   have hv2:Tv W ((q.1,some j)::R.reverse):=by
    have e3:P.reverse=R'.reverse++q::R.reverse:=by rw[e];simp
    have:=h.tv
    rw[e3]at this
    have:=y9f this
    rw[←hq];exact this
   have:=x5t hv2 (h.imp s hG) (by rw[w0v];exact a)
   rw[this]at n;cases n
 have q0:=hlit q hqm hqn
 have e1:(q.1.natAbs:Int)=q.1:=by omega
 have haR:agB R (setT c (P.map (·.1)))=true:=by
  have ha2:=ha
  have:agB (R++q::R') (setT c (P.map (·.1)))=true:=by rw[←e];exact ha2
  rw[x6s,Bool.and_eq_true]at this
  exact this.1
 exact x6a hgp e hqn (by omega) (h.bnd q hqm) (z8l c _) hs haR a (by rw[e1];exact List.all_eq_true.mp ha q hqm) (by rw[e1];exact n)
structure Free (c:Nat) (S:List Int) (r:Option Nat):Prop where
 none:r=Option.none->∀ j:Nat,1<=j->j<=c->(j:Int)∈S
 some:∀ x,r=Option.some x->1<=x/\x<=c/\¬ (x:Int)∈S/\∀ j:Nat,1<=j->j < x->(j:Int)∈S
def fv:Option Nat->V
 | .none=>.non
 | .some x=>.int x
theorem z6y {T:List Int} {j:Int} (hj:0<=j):j∈T.map absI↔j∈T∨-j∈T:=by
 rw[List.mem_map]
 constructor
 ·rintro⟨x,hx,e⟩
  unfold absI at e
  by_cases h:x < 0
  ·rw[if_pos h]at e
   have:x=-j:=by omega
   rw[←this];exact .inr hx
  ·rw[if_neg h]at e
   rw[←e];exact .inl hx
 ·rintro (h | h)
  ·exact⟨j,h,by unfold absI;rw[if_neg (by omega)]⟩
  ·by_cases z:j=0
   ·subst z;exact⟨0,h,rfl⟩
   ·exact⟨-j,h,by unfold absI;rw[if_pos (by omega),Int.neg_neg]⟩
def y7u:Sp:=fun vs H Q _=>∃ (c:Nat) (p:Addr) (T:List Int),vs=[.int c,.ref p]/\H p=some (.dK (mk T))/\c<=1000000/\∀ r,Free c (T.map absI) r->Q (fv r) H
section
variable {P:Program} {w:World} {K:W.Frag} {mg:Str->Option Value} {base:Heap}
theorem y6i (B:Blt mg) (Df:Def K mg "free_lamp" z3a z3u):Cal P w K mg base 1 "free_lamp" z3u y7u:=by
 refine Df.cal sc_free_lamp (fun vs H Q E h=>?_) (fun f cdv A outer s H vs Q E hr h=>?_)
 ·obtain⟨c,p,T,rfl,_⟩:=h;rfl
 ·obtain⟨c,p,T,rfl,hp,hc,q⟩:=h
  have hu:=hu_of hr
  refine⟨_,(z0b (z4c PassesOwn.never rfl (y1l (by rfl) B.range_ (z0a z0i (z0a (pe_op z9z (pv 0) z0i) z0d))) (z1l (i:=2) sc_free_lamp.nd rfl (Or.inl rfl))
 (z0e (ps_if (PW.pt (y2x (z8n (z6h hu (pv 2) (pv 1))) (z9l (z8n (z6h hu (pe_un z1c (pv 2)) (pv 1))))))
 (z0e (z0o (pv 2)))
 z0q)))
 (z0e (z0o z6g))),?_⟩
  refine⟨_,rfl,_,_,rfl,rfl,1,_,rfl,⟨by decide,by decide,by omega,by omega⟩,?_⟩
  have en:((c:Int)+1 - 1).toNat=c:=by omega
  rw[en]
  refine y1z (fun i σ H4=>∃ v,σ=[some (.int c),some (.ref p),v]/\H4=H/\∀ j:Nat,1<=j->j<=i->(j:Int)∈T.map absI)
   ⟨none,rfl,rfl,fun j h1 h2=>by omega⟩ ?_ ?_
  ·rintro i σ H4 hi ⟨v,rfl,rfl,hall⟩
   have e2:1+(i:Int)=((1+i:Nat):Int):=by omega
   have step:((1+i:Nat):Int)∈T.map absI->∀ j:Nat,1<=j->j<=i+1->(j:Int)∈T.map absI:=fun hm j h1 h2=>by
    by_cases z:j<=i
    ·exact hall j h1 z
    ·have:j=1+i:=by omega
     rw[this];exact hm
   refine⟨_,rfl,_,rfl,p,_,rfl,DGet.k (k:=Sum.inl (1+(i:Int))) hp,_,rfl,?_⟩
   rw[z7b]
   refine ite2 (fun c1=>?_) (fun c1=>?_)
   ·have c1':¬ (1+(i:Int))∈T:=fun z=>by rw[decide_eq_true z]at c1;cases c1
    refine⟨_,rfl,_,rfl,_,rfl,p,_,rfl,DGet.k (k:=Sum.inl (-(1+(i:Int)))) hp,_,rfl,?_⟩
    rw[z7b]
    refine ite2 (fun c2=>?_) (fun c2=>?_)
    ·have c2':¬ (-(1+(i:Int)))∈T:=fun z=>by rw[decide_eq_true z]at c2;cases c2
     refine⟨_,rfl,?_⟩
     rw[e2]
     refine q (some (1+i)) ⟨(fun z=>nomatch z),fun x hx=>?_⟩
     cases hx
     refine⟨by omega,by omega,fun z=>?_,fun j h1 h2=>hall j h1 (by omega)⟩
     rw[←e2]at z
     rcases (z6y (by omega)).mp z with z | z
     ·exact c1' z
     ·exact c2' z
    ·have c2':(-(1+(i:Int)))∈T:=by
      by_cases z:(-(1+(i:Int)))∈T
      ·exact z
      ·exfalso;apply c2;rw[decide_eq_false z];rfl
     exact⟨_,rfl,rfl,step (by rw[←e2];exact (z6y (by omega)).mpr (.inr c2'))⟩
   ·have c1':(1+(i:Int))∈T:=by
     by_cases z:(1+(i:Int))∈T
     ·exact z
     ·exfalso;apply c1;rw[decide_eq_false z];rfl
    refine iteF ?_
    exact⟨_,rfl,rfl,step (by rw[←e2];exact (z6y (by omega)).mpr (.inl c1'))⟩
  ·rintro σ H4 ⟨v,rfl,rfl,hall⟩
   exact q none ⟨fun _ j h1 h2=>hall j h1 h2,fun x hx=>nomatch hx⟩
end
abbrev Sf:=Addr × List Bool
theorem y0r (qs:List Pr):(pdat qs).map (·.1)=lets qs:=by simp[lets,pdat]
def frefs (fs:List Sf):List V:=fs.map fun f=>V.ref f.1
theorem x8p (ws:List Wr) (ss:List Sr):wl (ws++wst ss)=wl ws++wlSt (sls ss):=by simp[wl,wst,wlSt,sls]
theorem w0a (qs:List Pr) (ts:List Nw):pdat (qs++ts.map np)=pdat qs++(ts.map nn).map fun p=>(p.1,some (p.2:Int)):=by simp[pdat,np,nn]
theorem x8c {c:Nat} {T:List Int} (h:∀ j:Nat,1<=j->j<=c->(j:Int)∈T.map absI) (m:Nat) (h1:1<=m) (h2:m<=c):∃ y∈T,y.natAbs=m:=by
 rcases (z6y (by omega)).mp (h m h1 h2) with z | z
 ·exact⟨_,z,by omega⟩
 ·exact⟨_,z,by omega⟩
theorem Fr.not {p:Addr} {x x':Tly} {H H':Hp} (fr:Fr p x x' H H') {b:Addr} {o:HO} (hb:H b=some o) (n:¬ foot p x b):¬ foot p x' b:=fun z=>by
 rcases fr.inn b z with y | y
 ·exact n y
 ·rw[hb]at y;cases y
theorem Tal.out {C:Addr} {H:Hp} {p:Addr} {x:Tly} (h:Tal C H p x) {l:Addr} {vs:List V} {o:HO} (hl:H l=some (.lst vs)) (n:¬ foot p x l) (nw:∀ r∈x.ws,r.1≠l):Tal C (upd H l o) p x:=by
 have k:∀ {z:Addr} {u:HO},foot p x z->H z=some u->upd H l o z=some u:=fun {z u} hz e=>by rw[z0g (fun q=>n (by rw[←q];exact hz))];exact e
 obtain⟨dx,e⟩:=h.ty.ob
 exact⟨⟨⟨dx,k (.inl rfl) e⟩,k (.inr (.inl rfl)) h.ty.hw,k x0r h.ty.ht,k x5v h.ty.hd,k (.inr (.inr (.inr (.inr (.inl rfl))))) h.ty.hp,h.ty.hM.mono fun m hm=>by rw[k (.inr (.inr (.inr (.inr (.inr (.inr (.inr (.inr (.inr ⟨m,hm,rfl⟩))))))))) (h.ty.hM.ok m hm),h.ty.hM.ok m hm],k (.inr (.inr (.inr (.inr (.inr (.inl rfl)))))) h.ty.hs,k (.inr (.inr (.inr (.inr (.inr (.inr (.inl rfl))))))) h.ty.hl,k (.inr (.inr (.inr (.inr (.inr (.inr (.inr (.inl rfl)))))))) h.ty.hf,k (.inr (.inr (.inr (.inr (.inr (.inr (.inr (.inr (.inl rfl))))))))) h.ty.hg,
  fun r hr=>by rw[z0g (nw r hr)];exact h.ty.wo r hr,fun t ht=>by rw[z0g (ne_of (h.ty.to t ht) hl (by intro z;cases z))];exact h.ty.to t ht,h.ty.nl,h.ty.nd,h.ty.nm,h.ty.nw⟩,h.T,h.pl,h.so,h.lf,h.fg,h.dis,h.ne⟩
theorem z8e {W:List (List Int)} {T:List Int} (h:z1e W T=none) {v:List Int} (hv:v∈W):v≠[]:=fun e=>by
 unfold z1e at h
 rw[List.findIdx?_eq_none_iff]at h
 have:=h v hv
 rw[e]at this
 revert this
 have:cnt [] T=some 0:=by simp[cnt,z3n,z3h,once]
 rw[this];decide
def y7t (K:W.Frag) (C:Addr):Sp:=fun vs H Q _=>∃ (c:Nat) (p ae:Addr) (x:Tly) (E:List Int),vs=[.int c,.ref p,.ref ae]/\Tal C H p x/\SqL K H ae (E.map V.int)/\c<=1000000 /\
 (∀ e∈E,¬ e∈x.T->¬ -e∈x.T->Q (.int e) H)/\((∀ e∈E,e∈x.T∨-e∈x.T)->∀ r,Free c (x.T.map absI) r->Q (fv r) H)
section
variable {P:Program} {w:World} {K:W.Frag} {mg:Str->Option Value} {base:Heap} {C:Addr}
theorem y4l (T:TallyCls K mg C) (c_free_lamp:Cal P w K mg base 1 "free_lamp" z3u y7u) (Df:Def K mg "next_guess" z2o z3e):Cal P w K mg base 2 "next_guess" z3e (y7t K C):=by
 refine Df.cal sc_next_guess (fun vs H Q E h=>?_) (fun f cdv A outer s H vs Q E hr h=>?_)
 ·obtain⟨c,p,ae,x,E,rfl,_⟩:=h;rfl
 ·obtain⟨c,p,ae,x,El,rfl,hx,hE,hc,q1,q2⟩:=h
  have hu:=hu_of hr
  refine⟨_,(z0b (z4c PassesOwn.never rfl (z1u (pv 2)) (z1l (i:=3) sc_next_guess.nd rfl (Or.inl rfl))
 (z0e (ps_if (PW.pt (y2x (z8n (z6h hu (pv 3) (z1m (pv 1) rfl))) (z9l (z8n (z6h hu (pe_un z1c (pv 3)) (z1m (pv 1) rfl))))))
 (z0e (z0o (pv 3)))
 z0q)))
 (z0e (z0o (z1d c_free_lamp hr (by decide) (z0a (pv 0) (z0a (z1m (pv 1) rfl) z0d)))))),?_⟩
  obtain⟨d,ob⟩:=hx.ty.ob
  refine⟨_,rfl,ae,rfl,⟨_,hE⟩,z4o (K:=K) (a:=ae) (xs:=El.map V.int) (fun i σ Hx=>∃ v,σ=[some (.int c),some (.ref p),some (.ref ae),v]/\Hx=H/\∀ e∈El.take i,e∈x.T∨-e∈x.T)
   ⟨none,rfl,rfl,by simp⟩ (fun i σ Hx _ ⟨_,_,e,_⟩=>by rw[e];exact hE) ?_ ?_⟩
  ·rintro i y σ Hx hi ⟨v,rfl,rfl,hall⟩
   obtain⟨n,hni,rfl⟩:=getV hi
   have hm:=List.mem_of_getElem? hni
   have step:n∈x.T∨-n∈x.T->∀ e∈El.take (i+1),e∈x.T∨-e∈x.T:=fun hn e he=>by
    rw[List.take_add_one,hni]at he
    rcases mApp he with z | z
    ·exact hall e z
    ·have:e=n:=by simpa using z
     rw[this];exact hn
   refine⟨_,rfl,_,rfl,p,C,d,_,_,rfl,ob,T.cl,T.n3,z5a _,x.ad,_,rfl,DGet.k (k:=Sum.inl n) hx.ty.hd,_,rfl,?_⟩
   rw[z7b]
   refine ite2 (fun c1=>?_) (fun c1=>?_)
   ·have c1':¬ n∈x.T:=fun z=>by rw[decide_eq_true z]at c1;cases c1
    refine⟨_,rfl,n,rfl,_,rfl,p,C,d,_,_,rfl,ob,T.cl,T.n3,z5a _,x.ad,_,rfl,DGet.k (k:=Sum.inl (-n)) hx.ty.hd,_,rfl,?_⟩
    rw[z7b]
    refine ite2 (fun c2=>?_) (fun c2=>?_)
    ·have c2':¬ -n∈x.T:=fun z=>by rw[decide_eq_true z]at c2;cases c2
     exact⟨_,rfl,q1 n hm c1' c2'⟩
    ·have c2':-n∈x.T:=by
      by_cases z:-n∈x.T
      ·exact z
      ·exfalso;apply c2;rw[decide_eq_false z];rfl
     exact⟨_,rfl,rfl,step (.inr c2')⟩
   ·have c1':n∈x.T:=by
     by_cases z:n∈x.T
     ·exact z
     ·exfalso;apply c1;rw[decide_eq_false z];rfl
    refine iteF ?_
    exact⟨_,rfl,rfl,step (.inl c1')⟩
  ·rintro σ Hx ⟨v,rfl,rfl,hall⟩
   rw[List.length_map,List.take_length]at hall
   exact⟨_,rfl,_,rfl,p,C,d,_,_,rfl,ob,T.cl,T.n3,z5a _,c,x.ad,x.T,rfl,hx.ty.hd,hc,q2 hall⟩
end
def Det (c k:Nat) (G:List (List Int)):Prop:=∀ (W:List (List Int)) (T:List Int),(∀ v∈G,v∈W)->Dis T->z2v W T=none->z1e W T=none->(∀ m:Nat,1<=m->m<=k->∃ y∈T,y.natAbs=m)->∀ m:Nat,1<=m->m<=c->∃ y∈T,y.natAbs=m
theorem y0e:∀ {ts us:List Stp} {W:List (List Int)},z2k W ts->z2k (W++wlSt ts) us->z2k W (ts++us)
 | [],us,W,_,h=>by simpa[wlSt] using h
 | t::ts,us,W,⟨h1,h2⟩,h=>⟨h1,y0e h2 (by simpa[wlSt] using h)⟩
def Ends2 (c:Nat) (W0 W:List (List Int)) (T:List Int) (ts:List Stp):Prop :=
 (T=[]/\[]∈W/\((ts=[]/\[]∈W0)∨∃ pre t,ts=pre++[t]/\t.2.2.2=[]))∨(z1e W T=none/\∀ m:Nat,1<=m->m<=c->∃ y∈T,y.natAbs=m)
def y3v (K:W.Frag) (C:Addr):Sp:=fun vs H Q _=>∃ (c k:Nat) (p ae:Addr) (x:Tly) (E:List Int) (G:List (List Int)),vs=[.int c,.ref p,.ref ae]/\Tal C H p x/\x.qs=[]/\H ae=some (.lst (E.map V.int))/\¬ foot p x ae/\c<=28/\k<=c/\k<=16/\x.ws.length<=1000000/\(∀ v∈wl x.ws,v.length<=28) /\
 (∀ e∈E,e≠0/\e.natAbs<=k)/\Det c k G/\(∀ s,z1z G s->z1z (wl x.ws) s)/\(∀ v∈G,v∈wl x.ws)/\(∀ v∈wl x.ws,∀ y∈v,y≠0/\y.natAbs<=c) /\
 ∀ (ls:Addr) (ss:List Sr) (x':Tly) (H':Hp),Tal C H' p x'->Fr p x x' H H'->H ls=none->¬ foot p x' ls->H' ls=some (.lst (srefs ss))->SsOk H' ss->x'.ws=x.ws++wst ss->(∀ v∈wl x'.ws,v.length<=28)->x'.ws.length<=x.ws.length+c * 2 ^ k->z2k (wl x.ws) (sls ss)->SI c k E G (wl x'.ws) (pdat x'.qs)->Ends2 c (wl x.ws) (wl x'.ws) x'.T (sls ss)->Q (.ref ls) H'
theorem x9m (ss ts:List Sr):wst (ss++ts)=wst ss++wst ts:=by simp[wst]
theorem x3h (ss ts:List Sr):sls (ss++ts)=sls ss++sls ts:=by simp[sls]
structure Near (p:Addr) (x0 x:Tly) (H Hx:Hp) (l:Addr) (ss:List Sr):Prop where
 fr:Fr p x0 x H Hx
 hl:Hx l=some (.lst (srefs ss))
 l0:H l=none
 nl:¬ foot p x l
 ho:∀ s∈ss,Hx s.1=some (tupS s.2.2 s.2.1)
 nw:∀ r∈x.ws,r.1≠l
theorem Near.go {p:Addr} {x0 x x':Tly} {H Hx H':Hp} {l:Addr} {ss:List Sr} {C:Addr} (h:Near p x0 x H Hx l ss) (hx:TyAt C Hx p x) (fr:Fr p x x' Hx H') (ew:∀ r∈x'.ws,r∈x.ws∨Hx r.1=none):Near p x0 x' H H' l ss :=
 ⟨h.fr.trans fr,fr.out _ _ h.hl h.nl,h.l0,fr.not h.hl h.nl,fun s hs=>fr.out _ _ (h.ho s hs) (z6z hx (h.ho s hs)),fun r hr=>(ew r hr).elim (h.nw r) fun z=>(z0h h.hl z).symm⟩
theorem Near.ext {p:Addr} {x0 x:Tly} {H Hx:Hp} {l:Addr} {ss ts:List Sr} (h:Near p x0 x H Hx l ss) (ht:∀ s∈ts,Hx s.1=some (tupS s.2.2 s.2.1)):Near p x0 x H (upd Hx l (.lst (srefs (ss++ts)))) l (ss++ts) :=
 ⟨⟨fun b o hb hf=>by rw[z0g (z0h hb h.l0)];exact h.fr.out b o hb hf,h.fr.inn⟩,z0c,h.l0,h.nl,fun s hs=>by
   have hh:Hx s.1=some (tupS s.2.2 s.2.1):=(mApp hs).elim (h.ho s) (ht s)
   rw[z0g (ne_of hh h.hl (by unfold tupS;intro z;cases z))];exact hh,h.nw⟩
section
variable {P:Program} {w:World} {K:W.Frag} {mg:Str->Option Value} {base:Heap} {C:Addr}
theorem x4j (B:Blt mg) (T:TallyCls K mg C) (m_go_on:MCal P w K mg base 4 C "go_on" z2f (x3f C)) (m_first_broken:MCal P w K mg base 1 C "first_broken" z0x (y0o C)) (m_put:MCal P w K mg base 3 C "put" z2i (spPut C))
 (c_go_back:Cal P w K mg base 4 "go_back" z5j (y3y C)) (c_next_guess:Cal P w K mg base 2 "next_guess" z3e (y7t K C))
 (Df:Def K mg "search" z5s z6u):Cal P w K mg base 5 "search" z6u (y3v K C):=by
 refine Df.cal sc_search (fun vs H Q E h=>?_) (fun f cdv A outer s H vs Q E hr h=>?_)
 ·obtain⟨c,k,p,ae,x,E,G,rfl,_⟩:=h;rfl
 ·obtain⟨c,k,p,ae,x0,El,G,rfl,hx0,hq0,hE,nae,hc,hkc,hk16,hz,hv,hEl,hdet,himp,hsub,hlett,q⟩:=h
  have hu:=hu_of hr
  have cl:=T.cl
  refine⟨_,(z0b (z0n (i:=3) sc_search.nd rfl (Or.inl rfl) (z0u z0d))
 (z0b (z0r (z8p m_go_on cl hr (by decide) (pv 1)))
 (z0e (z5z PassesOwn.never (z3p pe_bl)
 (z0b (z0n (i:=4) sc_search.nd rfl (Or.inl rfl) (z8p m_first_broken cl hr (by decide) (pv 1)))
 (z0b (ps_if (z0k x4c (pv 4) z6g (z0p _))
 (z0b (z0r (pe_bm PySem.F.plainAttrs_list PySem.F.slot_list_extend PySem.F.type_list_extend z2r (pv 3) (z0a (z1d c_go_back hr (by decide) (z0a (pv 1) (z0a (pv 4) z0d))) z0d)))
 (z0e (ps_if (z4b (z5y (z1m (pv 1) rfl) (fun _=>rfl)))
 (z0e (z0o (pv 3)))
 z0q)))
 (z0b (z0n (i:=5) sc_search.nd rfl (Or.inl rfl) (z1d c_next_guess hr (by decide) (z0a (pv 0) (z0a (pv 1) (z0a (pv 2) z0d)))))
 (z0b (ps_if (z0k x0d (pv 5) z6g (z0p _))
 (z0e (z0o (pv 3)))
 z0q)
 (z0e (z0r (z6d m_put cl hr (by decide) (pv 1) (z0a (pv 5) (z0a z6g z0d))))))))
 (z0e (z0r (z8p m_go_on cl hr (by decide) (pv 1)))))))))),?_⟩
  refine⟨by decide,fun l hl=>?_⟩
  have sm1:Same H (upd H l (.lst [])):=(smR H).upd hl
  have g1:upd H l (.lst []) l=some (.lst []):=z0c
  have hx1:=hx0.same sm1
  have nl:¬ foot p x0 l:=z3q hx0.ty hl
  have ne0:Near p x0 x0 H (upd H l (.lst [])) l []:=⟨Fr.same sm1,g1,hl,nl,(fun _ h=>nomatch h),fun r hr=>z0h (hx0.ty.wo r hr) hl⟩
  generalize upd H l (.lst [])=H1 at sm1 g1 hx1 ne0
  have pw:2 ^ k<=65536:=by
   have:(2:Nat) ^ k<=2 ^ 16:=Nat.pow_le_pow_right (by decide) hk16
   omega
  have hcp:c * 2 ^ k<=28 * 65536:=Nat.mul_le_mul hc pw
  have noG:∀ y:Tly,(flds y).lookup ("go_on" : Str)=none:=fun y=>fl_nx y (by decide +kernel)
  have noB:∀ y:Tly,(flds y).lookup ("first_broken" : Str)=none:=fun y=>fl_nx y (by decide +kernel)
  have noP:∀ y:Tly,(flds y).lookup ("put" : Str)=none:=fun y=>fl_nx y (by decide +kernel)
  have keepE:∀ {x:Tly} {Hx:Hp} {ss:List Sr},Near p x0 x H Hx l ss->Hx ae=some (.lst (El.map V.int)):=fun h=>h.fr.out _ _ hE nae
  have bLen:∀ {x:Tly},(∀ v∈wl x.ws,v.length<=28)->∀ r∈x.ws,r.2.length<=100000:=fun {x} h r hr=>by
   have:=h r.2 (by unfold wl;exact List.mem_map.mpr ⟨r,hr,rfl⟩)
   omega
  have went:∀ {x x':Tly} {Hx H':Hp} {ss:List Sr} {ts:List Nw},Tal C Hx p x->Near p x0 x H Hx l ss->SI c k El G (wl x.ws) (pdat x.qs)->Tal C H' p x'->Fr p x x' Hx H'->x'.ws=x.ws->x'.qs=x.qs++ts.map np->Run (wl x.ws) x.T (ts.map nn) ->
   Near p x0 x' H H' l ss/\SI c k El G (wl x'.ws) (pdat x'.qs)/\z2v (wl x'.ws) x'.T=none/\nk k (pdat x'.qs)<=nk k (pdat x.qs)/\x.qs.length<=x'.qs.length/\(z2v (wl x.ws) x.T=none->x'.qs=x.qs):=by
   intro x x' Hx H' ss ts hx ne si hx' fr ew eq hrun
   have ep:pdat x'.qs=pdat x.qs++(ts.map nn).map fun p=>(p.1,some (p.2:Int)):=by rw[eq,w0a]
   obtain⟨i1,i3⟩:=SI.run hrun (P:=pdat x.qs) (by rw[y0r,hx.T]) si
   rw[←ep,←ew]at i1 i3
   refine⟨ne.go hx.ty fr (fun r hr=>.inl (by rw[←ew];exact hr)),i1,by rw[hx'.T,←y0r];exact i3,by rw[ep];exact w0f,by rw[eq];simp,fun hn=>?_⟩
   cases hts:ts.map nn with
   | nil =>
    have:ts=[]:=List.map_eq_nil_iff.mp hts
    rw[eq,this];simp
   | cons u r =>
    rw[hts]at hrun
    cases hrun with
    | step h _=>rw[hn]at h;cases h
  obtain⟨d1,ob1⟩:=hx1.ty.ob
  have si0:SI c k El G (wl x0.ws) (pdat x0.qs):=by rw[hq0];exact SI.zero himp hsub hlett
  refine⟨_,rfl,p,d1,_,rfl,ob1,noG _,p,x0,rfl,hx1,by rw[hq0];simp;omega,bLen hv,fun ts x2 H2 hx2 fr2 ew2 eq2 ea2 eM2 hrun=>?_⟩
  obtain⟨n2,si2,hn2,hk2,hl2,hst2⟩:=went hx1 ne0 si0 hx2 fr2 ew2 eq2 hrun
  have hnk0:nk k (pdat x0.qs)<=2 ^ k:=nk_le _ _
  have hmulc:∀ {a b:Nat},a<=b->c * a<=c * b:=fun h=>Nat.mul_le_mul_left _ h
  refine⟨fun m σ Hx=>∃ (x:Tly) (ss:List Sr) (v4 v5:Option V),σ=[some (.int c),some (.ref p),some (.ref ae),some (.ref l),v4,v5]/\Tal C Hx p x/\Near p x0 x H Hx l ss/\SI c k El G (wl x.ws) (pdat x.qs)/\z2v (wl x.ws) x.T=none/\(∀ v∈wl x.ws,v.length<=28)/\x.ws=x0.ws++wst ss/\z2k (wl x0.ws) (sls ss) /\
   x.ws.length+c * nk k (pdat x.qs)<=x0.ws.length+c * 2 ^ k/\((ss=[]/\x.qs=[])∨¬ []∈wl x.ws)/\nk k (pdat x.qs) * (c+2)+(c - x.qs.length)<=m,
   ⟨_,x2,[],none,none,rfl,hx2,n2,si2,hn2,by rw[ew2];exact hv,by rw[ew2];simp[wst],trivial,?_,?_,Nat.le_refl _⟩,?_⟩
  ·have:=hmulc (Nat.le_trans hk2 hnk0)
   rw[ew2];omega
  ·by_cases z:[]∈wl x0.ws
   ·refine .inl ⟨rfl,?_⟩
    rw[hst2 ?_,hq0]
    refine z9m fun hb=>z8e hb z rfl
   ·right;rw[ew2];exact z
  rintro m σ Hx ⟨x,ss,v4,v5,rfl,hx,ne,si,hnx,hvl,ew,hra,hsz,hem,hm⟩
  have hlen:=si.len
  have hql:(pdat x.qs).length=x.qs.length:=by simp[pdat]
  have hpos:0 < nk k (pdat x.qs):=w1t si.dis fun q hq=>(si.nz q hq).1
  have hpc:c * 1<=c * nk k (pdat x.qs):=hmulc hpos
  have eT:x.T=(pdat x.qs).map (·.1):=by rw[y0r,hx.T]
  obtain⟨d,ob⟩:=hx.ty.ob
  refine⟨_,rfl,iteT ?_⟩
  refine⟨_,fun σ' H' h=>h,?_⟩
  refine⟨_,rfl,p,d,_,rfl,ob,noB _,p,x,rfl,hx,?_⟩
  have turn:∀ {x3:Tly} {H3:Hp} {ss3:List Sr} {v4 v5:Option V} {m':Nat},Tal C H3 p x3->Near p x0 x3 H H3 l ss3->SI c k El G (wl x3.ws) (pdat x3.qs)->(∀ v∈wl x3.ws,v.length<=28)->x3.ws=x0.ws++wst ss3->z2k (wl x0.ws) (sls ss3)->x3.ws.length+c * nk k (pdat x3.qs)<=x0.ws.length+c * 2 ^ k->¬ []∈wl x3.ws ->
   nk k (pdat x3.qs) * (c+2)+(c - x3.qs.length) < m->∀ (ts:List Nw) (x4:Tly) (H4:Hp),Tal C H4 p x4->Fr p x3 x4 H3 H4->x4.ws=x3.ws->x4.qs=x3.qs++ts.map np->x4.at_=x3.at_->x4.M=x3.M->Run (wl x3.ws) x3.T (ts.map nn) ->
   ∃ m',m' < m/\∃ (x:Tly) (ss:List Sr) (v4' v5':Option V),[some (V.int c),some (.ref p),some (.ref ae),some (.ref l),v4,v5]=[some (.int c),some (.ref p),some (.ref ae),some (.ref l),v4',v5']/\Tal C H4 p x/\Near p x0 x H H4 l ss/\SI c k El G (wl x.ws) (pdat x.qs)/\z2v (wl x.ws) x.T=none/\(∀ v∈wl x.ws,v.length<=28)/\x.ws=x0.ws++wst ss/\z2k (wl x0.ws) (sls ss) /\
   x.ws.length+c * nk k (pdat x.qs)<=x0.ws.length+c * 2 ^ k/\((ss=[]/\x.qs=[])∨¬ []∈wl x.ws)/\nk k (pdat x.qs) * (c+2)+(c - x.qs.length)<=m':=by
   intro x3 H3 ss3 v4 v5 _ hx3 ne3 si3 hvl3 ew3 hra3 hsz3 hem3 hm3 ts x4 H4 hx4 fr4 ew4 eq4 _ _ hrun4
   obtain⟨n4,si4,hn4,hk4,hl4,_⟩:=went hx3 ne3 si3 hx4 fr4 ew4 eq4 hrun4
   have h1:=hmulc hk4
   have h2:nk k (pdat x4.qs) * (c+2)<=nk k (pdat x3.qs) * (c+2):=Nat.mul_le_mul_right _ hk4
   exact⟨_,by omega,x4,ss3,v4,v5,rfl,hx4,n4,si4,hn4,by rw[ew4];exact hvl3,by rw[ew4];exact ew3,hra3,by rw[ew4];omega,.inr (by rw[ew4];exact hem3),Nat.le_refl _⟩
  cases hbr:z1e (wl x.ws) x.T with
  | some i =>
   refine⟨_,rfl,rfl,_,rfl,ite2 (fun cb=>?_) (fun cb=>?_)⟩
   rotate_left
   ·exact absurd rfl cb
   rw[eT]at hbr
   obtain⟨hi,hcov⟩:=x2s hbr
   have hi2:(i:Int) < x.ws.length:=by rw[←z4a];omega
   have ei:((i:Int)).toNat=i:=by omega
   refine⟨_,rfl,.inl ⟨rfl,_,qLo ne.hl⟩,_,rfl,_,rfl,p,x,(i:Int),rfl,hx,by omega,hi2,by omega,by omega,fun v hv=>by have:=hvl v hv;omega,fun v hv y hy=>by have:=si.lett v hv y hy;omega,si.tv,by rw[ei];exact hcov,fun s2 ss2 x2 H4 hx2 fr2 ew2 ea2 hM2 ep2 es2 hs2 ns2 h4s2 h4ss hfs=>?_⟩
   generalize hgo:goB (wl x.ws) (pdat x.qs).reverse (i:Int) ((wl x.ws).getD ((i:Int)).toNat []) (x.ws.length:Int)=go at ep2 es2
   obtain⟨b1,b2,b3,b4,b5,b6⟩:=si.back (go:=go) (n:=(i:Int)) (by omega) (by rw[z4a];exact hi2) (by rw[ei];exact hcov) (by rw[z4a];exact hgo)
   have ewl:wl x2.ws=wl x.ws++wlSt go.2:=by rw[ew2,x8p,es2]
   have hssl:ss2.length=go.2.length:=by rw[←es2,y1e]
   have hw2:x2.ws.length=x.ws.length+ss2.length:=by rw[ew2];simp[wst]
   have hvl2:∀ v∈wl x2.ws,v.length<=28:=fun v hv=>by
    rw[ewl]at hv
    rcases mApp hv with z | z
    ·exact hvl v z
    ·unfold wlSt at z
     obtain⟨t,ht,rfl⟩:=List.mem_map.mp z
     have:=b2 t ht
     omega
   have n2:=ne.go hx.ty fr2 fun r hr=>by
    rw[ew2]at hr
    rcases mApp hr with z | z
    ·exact .inl z
    ·unfold wst at z
     obtain⟨s,hs,rfl⟩:=List.mem_map.mp z
     exact .inr (hfs s hs)
   have hsr:(srefs ss).length=ss.length:=z5g ss
   have hsr2:(srefs ss2).length=ss2.length:=z5g ss2
   have hssw:x.ws.length=x0.ws.length+ss.length:=by rw[ew];simp[wst]
   refine⟨l,s2,_,_,rfl,rfl,n2.hl,.inl h4s2,z1o (by omega),?_⟩
   have esr:srefs ss++srefs ss2=srefs (ss++ss2):=by simp[srefs]
   dsimp only
   rw[esr]
   have hx5:=hx2.out (o:=.lst (srefs (ss++ss2))) n2.hl n2.nl n2.nw
   have n5:=n2.ext (ts:=ss2) fun s hs=>(h4ss s hs).1
   generalize upd H4 l (.lst (srefs (ss++ss2)))=H5 at hx5 n5
   have ew5:x2.ws=x0.ws++wst (ss++ss2):=by rw[ew2,ew,x9m,List.append_assoc]
   have ewl0:wl x.ws=wl x0.ws++wlSt (sls ss):=by rw[ew,x8p]
   have hra5:z2k (wl x0.ws) (sls (ss++ss2)):=by
    rw[x3h,es2]
    exact y0e hra (by rw[←ewl0];exact b3)
   obtain⟨d2,ob2⟩:=hx5.ty.ob
   refine⟨_,rfl,p,C,d2,_,_,rfl,ob2,T.cl,T.n2,z7r _,_,.inl ⟨_,qLo hx5.ty.ht,rfl⟩,?_⟩
   by_cases hg:go.1=[]
   ·obtain⟨c1,c2,c3,c4⟩:=b5 hg
    have hq0':x2.qs=[]:=by
     rw[hg]at ep2
     have:=congrArg List.length ep2
     exact List.length_eq_zero_iff.mp (by simpa[pdat] using this)
    rw[hq0']
    refine iteT ⟨_,rfl,?_⟩
    have hT0:x2.T=[]:=by rw[hx2.T,hq0'];rfl
    refine q l (ss++ss2) x2 H5 hx5 n5.fr n5.l0 n5.nl n5.hl (fun s hs=>⟨n5.ho s hs,?_⟩) ew5 hvl2 (by omega) hra5 (by rw[hq0',ewl];exact c1) (.inl ⟨hT0,by rw[ewl];exact c2,?_⟩)
    ·refine hx5.ty.wo (s.2.1,s.2.2.2.2.2) ?_
     rw[ew5]
     exact List.mem_append_right _ (List.mem_map.mpr ⟨s,hs,rfl⟩)
    ·by_cases hw:(wl x.ws).getD ((i:Int)).toNat []=[]
     ·have hmem:[]∈wl x.ws:=by rw[←hw];exact z8y (by omega) (by rw[z4a];exact hi2)
      rcases hem with ⟨e1,e2⟩ | e
      ·left
       have e3:ss2=[]:=List.length_eq_zero_iff.mp (by rw[hssl,c4 hw];rfl)
       rw[e1,e3]
       refine⟨rfl,?_⟩
       rw[e1]at ew
       have:x.ws=x0.ws:=by rw[ew];simp[wst]
       rw[←this];exact hmem
      ·exact absurd hmem e
     ·right
      obtain⟨pre,t,e1,e2⟩:=c3 hw
      exact⟨sls ss++pre,t,by rw[x3h,es2,e1];simp,e2⟩
   ·obtain⟨c1,c2,c3,c4⟩:=b6 hg
    have hqn:x2.qs≠[]:=fun z=>by
     rw[z]at ep2
     have:=congrArg List.length ep2
     exact hg (List.length_eq_zero_iff.mp (by simpa[pdat] using this.symm))
    have het:(refs x2.qs).isEmpty=false:=by
     cases h:x2.qs with
     | nil=>exact absurd h hqn
     | cons u r=>rfl
    have hem5:¬ []∈wl x2.ws:=fun z=>by
     rw[ewl]at z
     rcases mApp z with y | y
     ·rcases hem with ⟨e1,e2⟩ | e
      ·rw[e2]at hgo
       refine hg ?_
       rw[←hgo];rfl
      ·exact e y
     ·unfold wlSt at y
      obtain⟨t,ht,e⟩:=List.mem_map.mp y
      exact c2 t ht e
    rw[←ep2]at c3 c4
    rw[←ewl]at c3
    have hfall:nk k (pdat x2.qs) * (c+2)+(c - x2.qs.length) < m:=by
     have h1:(nk k (pdat x2.qs)+1) * (c+2)<=nk k (pdat x.qs) * (c+2):=Nat.mul_le_mul_right _ c4
     rw[Nat.succ_mul]at h1
     omega
    have hszm:c * (nk k (pdat x2.qs)+1)<=c * nk k (pdat x.qs):=hmulc c4
    rw[Nat.mul_succ]at hszm
    refine ite2 (fun z=>?_) (fun _=>?_)
    ·exfalso
     revert z
     cases h:x2.qs with
     | nil=>exact absurd h hqn
     | cons u r=>simp[refs]
    have hl2:=c3.len
    have hql2:(pdat x2.qs).length=x2.qs.length:=by simp[pdat]
    refine⟨_,rfl,p,d2,_,rfl,ob2,noG _,p,x2,rfl,hx5,by omega,bLen hvl2,?_⟩
    exact turn (m':=0) hx5 n5 c3 hvl2 ew5 hra5 (by omega) hem5 hfall
  | none =>
   refine⟨_,rfl,rfl,_,rfl,ite2 (fun cb=>?_) (fun cb=>?_)⟩
   ·cases cb
   have hemW:¬ []∈wl x.ws:=fun z=>z8e hbr z rfl
   have put:∀ {lv:Int} {v5:Option V},lv≠0->lv.natAbs<=k->¬ lv∈x.T->¬ -lv∈x.T->(lv∈El∨(0 < lv/\(∀ e∈El,e∈x.T∨-e∈x.T)/\∀ m:Nat,1<=m->m < lv.natAbs->∃ y∈x.T,y.natAbs=m))->∀ (pt:Addr) (x3:Tly) (H3:Hp),Tal C H3 p x3->Fr p x x3 Hx H3->x3.ws=x.ws->x3.qs=x.qs++[(pt,lv,none)] ->
    Near p x0 x3 H H3 l ss/\SI c k El G (wl x3.ws) (pdat x3.qs)/\nk k (pdat x3.qs) * (c+2)+(c - x3.qs.length) < m/\c * nk k (pdat x3.qs)<=c * nk k (pdat x.qs)/\x3.qs.length<=c:=by
    intro lv v5 l0 lk h1 h2 hgd pt x3 H3 hx3 fr3 ew3 eq3
    have ep3:pdat x3.qs=pdat x.qs++[(lv,none)]:=by rw[eq3];simp[pdat]
    have si3:=si.guess l0 (by omega) lk (by rw[←eT];exact h1) (by rw[←eT];exact h2) (by rw[←eT];exact hgd)
    have hk3:nk k (pdat x3.qs)<=nk k (pdat x.qs):=by rw[ep3];exact x8z
    have hl3:=si3.len
    rw[←ep3]at si3 hl3
    have hql3:(pdat x3.qs).length=x3.qs.length:=by simp[pdat]
    have hq3:x3.qs.length=x.qs.length+1:=by rw[eq3];simp
    have hmm:nk k (pdat x3.qs) * (c+2)<=nk k (pdat x.qs) * (c+2):=Nat.mul_le_mul_right _ hk3
    exact⟨ne.go hx.ty fr3 (fun r hr=>.inl (by rw[←ew3];exact hr)),by rw[ew3];exact si3,by omega,hmulc hk3,by omega⟩
   refine⟨_,rfl,_,rfl,_,rfl,c,p,ae,x,El,rfl,hx,qLo (keepE ne),by omega,fun e he h1 h2=>?_,fun hall r hfree=>?_⟩
   ·refine⟨_,rfl,rfl,_,rfl,ite2 (fun z=>?_) (fun _=>?_)⟩
    ·cases z
    obtain⟨e0,ek⟩:=hEl e he
    refine⟨_,rfl,p,d,_,rfl,ob,noP _,_,rfl,p,x,e,none,rfl,hx,h1,h2,by omega,by omega,fun pt x3 H3 hx3 fr3 ew3 eq3 ea3 eM3=>?_⟩
    obtain⟨n3,si3,hm3,hs3,hl3⟩:=put (v5:=none) e0 ek h1 h2 (.inl he) pt x3 H3 hx3 fr3 ew3 eq3
    obtain⟨d3,ob3⟩:=hx3.ty.ob
    have ewl3:x3.ws.length=x.ws.length:=by rw[ew3]
    refine⟨_,rfl,p,d3,_,rfl,ob3,noG _,p,x3,rfl,hx3,by omega,bLen (by rw[ew3];exact hvl),?_⟩
    exact turn (m':=0) hx3 n3 si3 (by rw[ew3];exact hvl) (by rw[ew3];exact ew) hra (by omega) (by rw[ew3];exact hemW) hm3
   ·cases r with
    | none =>
     refine⟨_,rfl,rfl,_,rfl,iteT ⟨_,rfl,?_⟩⟩
     have hal:=hfree.none rfl
     refine q l ss x Hx hx ne.fr ne.l0 ne.nl ne.hl (fun s hs=>⟨ne.ho s hs,?_⟩) ew hvl (by omega) hra si (.inr ⟨hbr,fun m h1 h2=>x8c hal m h1 h2⟩)
     refine hx.ty.wo (s.2.1,s.2.2.2.2.2) ?_
     rw[ew]
     exact List.mem_append_right _ (List.mem_map.mpr ⟨s,hs,rfl⟩)
    | some lam =>
     obtain⟨f1,f2,f3,f4⟩:=hfree.some lam rfl
     have hn1:¬ (lam:Int)∈x.T:=fun z=>f3 ((z6y (by omega)).mpr (.inl z))
     have hn2:¬ -(lam:Int)∈x.T:=fun z=>f3 ((z6y (by omega)).mpr (.inr z))
     have below:∀ m:Nat,1<=m->m < lam->∃ y∈x.T,y.natAbs=m:=fun m h1 h2=>by
      rcases (z6y (by omega)).mp (f4 m h1 h2) with z | z
      ·exact⟨_,z,by omega⟩
      ·exact⟨_,z,by omega⟩
     have hlk:lam<=k:=by
      by_cases z:lam<=k
      ·exact z
      ·obtain⟨y,hy,ey⟩:=hdet (wl x.ws) x.T si.sub hx.dis hnx hbr (fun m h1 h2=>below m h1 (by omega)) lam f1 f2
       have:y=(lam:Int)∨y=-(lam:Int):=by omega
       rcases this with e | e
       ·exact absurd (e ▸ hy) hn1
       ·exact absurd (e ▸ hy) hn2
     refine⟨_,rfl,rfl,_,rfl,ite2 (fun z=>?_) (fun _=>?_)⟩
     ·cases z
     refine⟨_,rfl,p,d,_,rfl,ob,noP _,_,rfl,p,x,(lam:Int),none,rfl,hx,hn1,hn2,by omega,by omega,fun pt x3 H3 hx3 fr3 ew3 eq3 ea3 eM3=>?_⟩
     obtain⟨n3,si3,hm3,hs3,hl3⟩:=put (lv:=(lam:Int)) (v5:=none) (by omega) (by omega) hn1 hn2 (.inr ⟨by omega,hall,fun m h1 h2=>below m h1 (by omega)⟩) pt x3 H3 hx3 fr3 ew3 eq3
     obtain⟨d3,ob3⟩:=hx3.ty.ob
     have ewl3:x3.ws.length=x.ws.length:=by rw[ew3]
     refine⟨_,rfl,p,d3,_,rfl,ob3,noG _,p,x3,rfl,hx3,by omega,bLen (by rw[ew3];exact hvl),?_⟩
     exact turn (m':=0) hx3 n3 si3 (by rw[ew3];exact hvl) (by rw[ew3];exact ew) hra (by omega) (by rw[ew3];exact hemW) hm3
end
def y5c (W:List (List Int)) (ts:List Stp):Prop:=z2k W ts/\((ts=[]/\[]∈W)∨∃ pre t,ts=pre++[t]/\t.2.2.2=[])
def y3u (K:W.Frag):Sp:=fun vs H Q _=>∃ (c k:Nat) (a:Addr) (ws:List Wr),vs=[.int c,.ref a]/\SqL K H a (wrefs ws)/\WsOk H ws/\c<=28/\k<=c/\k<=16/\ws.length<=1000/\total (wl ws)<=10000/\(∀ v∈wl ws,v.length<=28)/\(∀ v∈wl ws,∀ y∈v,y≠0/\y.natAbs<=c)/\Det c k (wl ws) /\
 (∀ (t l:Addr) (s:List Bool) (H':Hp),H t=none->H l=none->Same H H'->H' t=some (.tup [.str "yes",.ref l])->H' l=some (.lst (s.map V.bl))->s.length=c->z1z (wl ws) s->(∀ s':List Bool,s'.length=c->z1z (wl ws) s'->s'≠s->erl s s'=true)->Q (.ref t) H') /\
 ∀ (t l:Addr) (ss:List Sr) (H':Hp),H t=none->H l=none->Same H H'->H' t=some (.tup [.str "no",.ref l])->H' l=some (.lst (srefs ss))->SsOk H' ss->y5c (wl ws) (sls ss)->ss.length<=c * 2 ^ k->(∀ s∈ss,s.2.2.2.2.2.length<=28)->(∀ s∈ss,∀ y∈s.2.2.2.2.2,y≠0/\y.natAbs<=c)->(∀ s,z1z (wl ws) s->False)->Q (.ref t) H'
section
variable {P:Program} {w:World} {K:W.Frag} {mg:Str->Option Value} {base:Heap} {C:Addr}
theorem x4i (B:Blt mg) (T:TallyCls K mg C) (mk_Tally:Made P w K mg base 4 "Tally" C z2e (y9o K C)) (m_first_broken:MCal P w K mg base 1 C "first_broken" z0x (y0o C))
 (c_search:Cal P w K mg base 5 "search" z6u (y3v K C)) (c_setting_of:Cal P w K mg base 1 "setting_of" z3d (y7r C))
 (Df:Def K mg "solved" z5r z6t):Cal P w K mg base 6 "solved" z6t (y3u K):=by
 refine Df.cal sc_solved (fun vs H Q E h=>?_) (fun f cdv A outer s H vs Q E hr h=>?_)
 ·obtain⟨c,k,a,ws,rfl,_⟩:=h;rfl
 ·obtain⟨c,k,a,ws,rfl,hS,hW,hc,hkc,hk,hz,hz2,hv,hlt,hdet,qy,qn⟩:=h
  have hu:=hu_of hr
  have cl:=T.cl
  refine⟨_,(z0b (z0n (i:=2) sc_solved.nd rfl (Or.inl rfl) (x9x mk_Tally hr (by decide) (z0a (pv 1) z0d)))
 (z0b (z0n (i:=3) sc_solved.nd rfl (Or.inl rfl) (z1d c_search hr (by decide) (z0a (pv 0) (z0a (pv 2) (z0a (z0u z0d) z0d)))))
 (z0b (ps_if (z0k x0d (z8p m_first_broken cl hr (by decide) (pv 2)) z6g (z0p _))
 (z0e (z0o (z2m (z0a z1g (z0a (z1d c_setting_of hr (by decide) (z0a (pv 0) (z0a (pv 2) z0d))) z0d)))))
 z0q)
 (z0e (z0o (z2m (z0a z1g (z0a (pv 3) z0d)))))))),?_⟩
  refine⟨_,rfl,fun p dx hp hdx ndx=>?_⟩
  have sm0:Same H (upd (upd H dx (.own p)) p (.ins C dx [])):=((smR H).upd hdx).upd hp
  refine⟨p,a,dx,H,ws,rfl,⟨sm0,z0c,hp,(fun _ h=>nomatch h),List.nodup_nil,Nat.le_refl _⟩,hS,hW,by omega,by omega,fun x0 H1 hx0 ew eq sm1 hf hm=>⟨rfl,?_⟩⟩
  refine⟨_,rfl,_,rfl,by decide,fun le hle=>?_⟩
  have sm2:Same H1 (upd H1 le (.lst [])):=(smR H1).upd hle
  have g2:upd H1 le (.lst []) le=some (.lst ([].map V.int)):=z0c
  have nle:¬ foot p x0 le:=z3q hx0.ty hle
  have hx2:=hx0.same sm2
  generalize upd H1 le (.lst [])=H2 at sm2 g2 hx2
  have s02:=sm1.trans sm2
  refine⟨c,k,p,le,x0,[],wl ws,rfl,hx2,eq,g2,nle,hc,hkc,hk,by rw[ew];omega,by rw[ew];exact hv,(fun _ h=>nomatch h),hdet,by rw[ew];exact fun s h=>h,by rw[ew];exact fun v h=>h,by rw[ew];exact hlt,fun ls ss x3 H3 hx3 fr3 hls nls h3s h3ss ew3 hvl3 hsz3 hra3 si3 hend=>?_⟩
  rw[ew]at ew3 hsz3 hra3 hend
  have s03:Same H H3:=fun b o hb=>fr3.out b o (s02 b o hb) fun z=>by rw[hf b z]at hb;cases hb
  have hlsH:=s02.free hls
  obtain⟨d3,ob3⟩:=hx3.ty.ob
  have noB:(flds x3).lookup ("first_broken" : Str)=none:=fl_nx x3 (by decide +kernel)
  refine⟨_,rfl,p,d3,_,rfl,ob3,noB,p,x3,rfl,hx3,rfl,_,rfl,?_⟩
  have eT:x3.T=(pdat x3.qs).map (·.1):=by rw[y0r,hx3.T]
  rcases hend with ⟨hT,hem,hl⟩ | ⟨hb,hall⟩
  ·have hbr:z1e (wl x3.ws) x3.T≠none:=fun z=>z8e z hem rfl
   refine ite2 (fun z=>?_) (fun _=>?_)
   ·exfalso
    cases h:z1e (wl x3.ws) x3.T with
    | none=>exact hbr h
    | some i=>rw[h]at z;cases z
   refine⟨_,rfl,len2,fun t ht=>?_⟩
   have s4:Same H3 (upd H3 t (.tup [.str "no",.ref ls])):=(smR H3).upd ht
   have hmem:∀ s∈ss,s.2.2.2.2.2∈wl x3.ws:=fun s hs=>by
    rw[ew3]
    unfold wl
    exact List.mem_map.mpr ⟨(s.2.1,s.2.2.2.2.2),List.mem_append_right _ (List.mem_map.mpr ⟨s,hs,rfl⟩),rfl⟩
   refine qn t ls ss _ (s03.free ht) hlsH (s03.trans s4) z0c (s4 _ _ h3s) (h3ss.mono s4) ⟨hra3,hl⟩ ?_ (fun s hs=>hvl3 _ (hmem s hs)) (fun s hs=>si3.lett _ (hmem s hs)) fun s hs=>?_
   ·have:x3.ws.length=ws.length+ss.length:=by rw[ew3];simp[wst]
    omega
   ·have:=si3.imp s hs [] hem
    simp at this
  ·rw[hb]
   refine iteT ⟨_,rfl,_,rfl,p,x3,c,rfl,hx3,by omega,fun l4 H4 hl4 s4 h4=>⟨len2,fun t ht=>?_⟩⟩
   have ef:(List.range c).map (fun (i:Nat)=>V.bl (decide ((1+(i:Int))∈x3.T)))=(setT c ((pdat x3.qs).map (·.1))).map V.bl:=by rw[←eT];simp[setT]
   rw[ef]at h4
   have s5:Same H4 (upd H4 t (.tup [.str "yes",.ref l4])):=(smR H4).upd ht
   have s04:=s03.trans s4
   rw[eT]at hb
   obtain⟨f1,f2,f3⟩:=si3.found hb (fun m h1 h2=>by rw[←eT];exact hall m h1 h2)
   exact qy t l4 _ _ (s04.free ht) (s03.free hl4) (s04.trans s5) z0c (s5 _ _ h4) (z8l c _) f2 (f3 rfl)
end
theorem x0v (b:Bool) (s s':List Bool):erl (b::s) (b::s')=erl s s':=by
 show (if b=b then erl s s' else b)=_
 rw[if_pos rfl]
theorem x1c:∀ c,(allS c).Pairwise fun s s'=>erl s s'=true
 | 0=>by simp[allS]
 | c+1=>by
  have ih:=x1c c
  unfold allS
  refine List.pairwise_append.mpr ⟨List.pairwise_map.mpr (ih.imp fun {a b} h=>by rw[x0v];exact h),List.pairwise_map.mpr (ih.imp fun {a b} h=>by rw[x0v];exact h),fun s hs s' hs'=>?_⟩
  obtain⟨u,_,rfl⟩:=List.mem_map.mp hs
  obtain⟨u',_,rfl⟩:=List.mem_map.mp hs'
  rfl
theorem x0w:∀ {s s':List Bool},erl s s'=true->erl s' s=false
 | [],_,h=>by cases h
 | _::_,[],h=>by cases h
 | a::s,b::s',h=>by
  have e1:erl (a::s) (b::s')=if a=b then erl s s' else a:=rfl
  have e2:erl (b::s') (a::s)=if b=a then erl s' s else b:=rfl
  rw[e1]at h
  rw[e2]
  by_cases c:a=b
  ·rw[if_pos c]at h
   rw[if_pos c.symm];exact x0w h
  ·rw[if_neg c]at h
   rw[if_neg (Ne.symm c)]
   cases b with
   | false=>rfl
   | true=>exact absurd h c
theorem y3i {p:List Bool->Bool} {s:List Bool} (hp:p s=true):∀ {l:List (List Bool)},l.Pairwise (fun s s'=>erl s s'=true)->s∈l->(∀ s'∈l,p s'=true->s'≠s->erl s s'=true)->l.find? p=some s
 | [],_,h,_=>nomatch h
 | a::l,hw,hm,hf=>by
  rw[List.pairwise_cons]at hw
  by_cases e:a=s
  ·rw[List.find?_cons_of_pos (by rw[e];exact hp),e]
  ·have hs:s∈l:=(List.mem_cons.mp hm).elim (fun z=>absurd z.symm e) id
   by_cases ha:p a=true
   ·have h1:=hf a List.mem_cons_self ha e
    have h2:=hw.1 s hs
    rw[x0w h1]at h2;cases h2
   ·rw[List.find?_cons_of_neg ha]
    exact y3i hp hw.2 hs fun s' hs'=>hf s' (List.mem_cons_of_mem _ hs')
def x8w (K:W.Frag):Sp:=fun vs H Q _=>∃ (a:Addr) (s:List Bool),vs=[.ref a,.int s.length]/\H a=some (.lst (s.map V.bl))/\Q (.bl true) H
section
variable {P:Program} {w:World} {K:W.Frag} {mg:Str->Option Value} {base:Heap}
theorem x4m (B:Blt mg) (Df:Def K mg "_law_full" z5v z7n):Cal P w K mg base 1 "_law_full" z7n (x8w K):=by
 refine Df.cal sc_l_full (fun vs H Q E h=>?_) (fun f cdv A outer s H vs Q E hr h=>?_)
 ·obtain⟨a,s,rfl,_⟩:=h;rfl
 ·obtain⟨a,s,rfl,ha,q⟩:=h
  refine⟨_,(z0b (ps_if (PW.pt (pw_or (z4b (z3p (z0t z2j (by rfl) B.isinstance_ z0w (z0a (pv 0) (z0a (pe_ty B.list_ z5n) z0d))))) (z7z (z0k op_ne (z0t z0v (by rfl) B.len_ PySem.boot_len (z0a (pv 0) z0d)) (pv 1) (z0p _)))))
 (z0e (z0o pe_bl))
 z0q)
 (z0b (z4c PassesOwn.never rfl (z1u (pv 0)) (z1l (i:=2) sc_l_full.nd rfl (Or.inl rfl))
 (z0e (ps_if (z4b (z3p (z0t z2j (by rfl) B.isinstance_ z0w (z0a (pv 2) (z0a (pe_ty B.bool_ y2h) z0d)))))
 (z0e (z0o pe_bl))
 z0q)))
 (z0e (z0o pe_bl)))),?_⟩
  have el:(((s.map V.bl).length:Nat):Int)=(s.length:Int):=by simp
  refine⟨_,rfl,_,.lst,.lst,rfl,⟨_,.inl ha⟩,_,rfl,?_⟩
  refine iteF ⟨_,rfl,a,_,rfl,.inl (qLo ha),_,rfl,rfl,_,rfl,ite2 (fun c=>?_) (fun _=>?_)⟩
  ·rw[el]at c;simp at c
  ·refine⟨_,rfl,a,rfl,⟨_,qLo ha⟩,z4o (K:=K) (a:=a) (xs:=s.map V.bl) (fun i σ H2=>∃ v,σ=[some (.ref a),some (.int s.length),v]/\H2=H) ⟨none,rfl,rfl⟩ (fun i σ H2 _ ⟨_,_,e⟩=>by rw[e];exact qLo ha) ?_ ?_⟩
   ·rintro i y σ H2 hi ⟨v,rfl,rfl⟩
    obtain⟨b,_,rfl⟩:=getV hi
    exact⟨_,rfl,_,.bl,.bl,rfl,trivial,_,rfl,iteF ⟨_,rfl,rfl⟩⟩
   ·rintro σ H2 ⟨v,rfl,rfl⟩
    exact q
end
theorem rd_op {r:R2} {ta tb:TE} {σ:L2.St} {H:Hp} {Q:VK} (h:ta σ H fun x H1=>tb σ H1 fun y H2=>r x y H2 Q):tOp r ta tb σ H Q:=h
def FsOk (H:Hp) (fs:List Sf):Prop:=∀ f∈fs,H f.1=some (.lst (f.2.map V.bl))
theorem FsOk.mono {H H':Hp} {fs:List Sf} (h:FsOk H fs) (s:Same H H'):FsOk H' fs:=fun f hf=>s _ _ (h f hf)
theorem y1y (fs:List Sf):(frefs fs).length=fs.length:=by simp[frefs]
def y9r:Sp:=fun vs H Q _=>∃ (t:Addr) (w:Str) (v:V),vs=[.ref t]/\H t=some (.tup [.str w,v])/\(w="yes"∨w="no")/\Q (.bl true) H
section
variable {P:Program} {w:World} {K:W.Frag} {mg:Str->Option Value} {base:Heap}
theorem y8o (B:Blt mg) (Df:Def K mg "_law_answer" z3z z5f):Cal P w K mg base 1 "_law_answer" z5f y9r:=by
 refine Df.cal y7z (fun vs H Q E h=>?_) (fun f cdv A outer s H vs Q E hr h=>?_)
 ·obtain⟨t,w,v,rfl,_⟩:=h;rfl
 ·obtain⟨t,wd,v,rfl,ht,hw,q⟩:=h
  refine⟨_,(z0b (ps_if (PW.pt (pw_or (z4b (z3p (z0t z2j (by rfl) B.isinstance_ z0w (z0a (pv 0) (z0a (pe_ty B.tuple_ z9d) z0d))))) (pw_or (z0k op_ne (z0t z0v (by rfl) B.len_ PySem.boot_len (z0a (pv 0) z0d)) z0i (z0p _)) (z7z (z4b (z3p (z0t z2j (by rfl) B.isinstance_ z0w (z0a (pe_ix ix_tup (pv 0) z0i (fun _ _=>rfl)) (z0a (pe_ty B.str_ w2l) z0d)))))))))
 (z0e (z0o pe_bl))
 z0q)
 (z0e (z0o (pe_or (z6e op_eq (pe_ix ix_tup (pv 0) z0i (fun _ _=>rfl)) z1g (z0p _)) (z8a (z6e op_eq (pe_ix ix_tup (pv 0) z0i (fun _ _=>rfl)) z1g (z0p _))))))),?_⟩
  refine⟨_,rfl,_,.tup,.tup,rfl,⟨_,ht⟩,_,rfl,iteF ?_⟩
  refine⟨_,rfl,t,_,rfl,.inr (qTo ht),rfl,_,rfl,iteNS rfl ?_⟩
  refine⟨_,rfl,t,_,_,_,rfl,rfl,qTo ht,rfl,_,.str,.str,rfl,trivial,_,rfl,iteF ?_⟩
  refine⟨_,rfl,t,_,_,_,rfl,rfl,qTo ht,rfl,rfl,_,rfl,?_⟩
  rcases hw with e | e
  ·subst e;exact iteT q
  ·subst e;exact iteF ⟨_,rfl,t,_,_,_,rfl,rfl,qTo ht,rfl,rfl,q⟩
end
def draw (n p m:Int):Int:=n * 48271 % p % m
def x3g:Sp:=fun vs H Q _=>∃ n p m:Int,vs=[.int n,.int p,.int m]/\0 < p/\0 < m/\Q (.int (draw n p m)) H
section
variable {P:Program} {w:World} {K:W.Frag} {mg:Str->Option Value} {base:Heap}
theorem x4n (Df:Def K mg "_law_draw" z5w z6x):Cal P w K mg base 1 "_law_draw" z6x x3g:=by
 refine Df.cal x3n (fun vs H Q E h=>?_) (fun f cdv A outer s H vs Q E hr h=>?_)
 ·obtain⟨n,p,m,rfl,_⟩:=h;rfl
 ·obtain⟨n,p,m,rfl,hp,hm,q⟩:=h
  refine⟨_,(z0e (z0o (pe_op z8s (pe_op z8s (pe_op x8y (pv 0) z0i) (pv 1)) (pv 2)))),?_⟩
  exact⟨_,rfl,_,_,rfl,rfl,.inr ⟨by decide,by decide⟩,_,rfl,_,_,rfl,rfl,hp,_,rfl,_,_,rfl,rfl,hm,q⟩
end
def setting (c:Int) (n:Nat):List Bool:=(List.range n).map fun (k:Nat)=>decide (draw (c+7919 * (k:Int)) 1009 2=1)
theorem y5p (c:Int) (n:Nat):setting c (n+1)=setting c n++[decide (draw (c+7919 * (n:Int)) 1009 2=1)]:=by
 simp[setting,List.range_succ]
theorem y1f (c:Int) (n:Nat):(setting c n).length=n:=by simp[setting]
def y5l:Sp:=fun vs H Q _=>∃ (c:Int) (n:Nat),vs=[.int c,.int n]/\n<=100000/\∀ l H',H l=none->Same H H'->H' l=some (.lst ((setting c n).map V.bl))->Q (.ref l) H'
section
variable {P:Program} {w:World} {K:W.Frag} {mg:Str->Option Value} {base:Heap}
theorem y1m (B:Blt mg) (c_l_draw:Cal P w K mg base 1 "_law_draw" z6x x3g) (Df:Def K mg "_law_setting_of" z1v z2t):Cal P w K mg base 2 "_law_setting_of" z2t y5l:=by
 refine Df.cal sc_l_setting_of (fun vs H Q E h=>?_) (fun f cdv A outer s H vs Q E hr h=>?_)
 ·obtain⟨c,n,rfl,_⟩:=h;rfl
 ·obtain⟨c,n,rfl,hn,q⟩:=h
  refine⟨_,(z0b (z0n (i:=2) sc_l_setting_of.nd rfl (Or.inl rfl) (z0u z0d))
 (z0b (z4c PassesOwn.never rfl (y5y (by rfl) B.range_ (z0a (pv 1) z0d)) (z1l (i:=3) sc_l_setting_of.nd rfl (Or.inl rfl))
 (z0e (z0r (pe_bm PySem.F.plainAttrs_list PySem.F.slot_list_append PySem.F.type_list_append z0z (pv 2) (z0a (z6e op_eq (z1d c_l_draw hr (by decide) (z0a (pe_op z9z (pv 0) (pe_op x8y z0i (pv 3))) (z0a z0i (z0a z0i z0d)))) z0i (z0p _)) z0d)))))
 (z0e (z0o (pv 2))))),?_⟩
  refine⟨by decide,fun l hl=>?_⟩
  refine⟨_,rfl,(n:Int),rfl,by omega,by omega,?_⟩
  have e1:((n:Int)).toNat=n:=by omega
  rw[e1]
  refine y1z (fun i σ H2=>∃ v,σ=[some (.int c),some (.int n),some (.ref l),v]/\Same H H2/\H2 l=some (.lst ((setting c i).map V.bl)))
   ⟨none,rfl,fun b o e=>by rw[z0g (z0h e hl)];exact e,z0c⟩ ?_ ?_
  ·rintro i σ H2 hi ⟨v,rfl,sm,h2⟩
   refine⟨_,rfl,.inl ⟨rfl,_,qLo h2⟩,_,rfl,_,rfl,_,_,rfl,rfl,.inl ⟨by decide,by decide⟩,_,_,rfl,rfl,_,_,_,rfl,by decide,by decide,rfl,l,_,_,rfl,rfl,h2,?_,?_⟩
   ·rw[List.length_map,y1f];exact z1r (by omega)
   ·refine⟨_,rfl,sm.upd hl,?_⟩
    rw[z0c,y5p,List.map_append]
    simp
  ·rintro σ H2 ⟨v,rfl,sm,h2⟩
   exact⟨_,rfl,q l H2 hl sm h2⟩
end
def y3t:Sp:=fun vs H Q _=>∃ (v:V) (t:Ty),vs=[v]/\TyIs H v t/\Q (.bl (decide (t=.int))) H
section
variable {P:Program} {w:World} {K:W.Frag} {mg:Str->Option Value} {base:Heap}
theorem x1x (B:Blt mg) (Df:Def K mg "_law_whole" z4r z4v):Cal P w K mg base 1 "_law_whole" z4v y3t:=by
 refine Df.cal x1l (fun vs H Q E h=>?_) (fun f cdv A outer s H vs Q E hr h=>?_)
 ·obtain⟨v,t,rfl,_⟩:=h;rfl
 ·obtain⟨v,t,rfl,ty,q⟩:=h
  refine⟨_,(z0e (z0o (y2y (z0t z2j (by rfl) B.isinstance_ z0w (z0a (pv 0) (z0a (pe_ty B.int_ x9k) z0d))) (z8a (y6a (z0t z2j (by rfl) B.isinstance_ z0w (z0a (pv 0) (z0a (pe_ty B.bool_ y2h) z0d)))))))),?_⟩
  refine⟨_,rfl,v,t,.int,rfl,ty,_,rfl,?_⟩
  cases t with
  | int=>exact iteT ⟨_,rfl,v,.int,.bl,rfl,ty,_,rfl,q⟩
  | bl=>exact iteT ⟨_,rfl,v,.bl,.bl,rfl,ty,_,rfl,q⟩
  | non=>exact iteF q
  | str=>exact iteF q
  | lst=>exact iteF q
  | tup=>exact iteF q
end
def spAt (K:W.Frag):Sp:=fun vs H Q _=>∃ (a:Addr) (ns:List Int) (k:Nat),vs=[.ref a,.int k]/\SqL K H a (ns.map V.int)/\Q (.int (ns.getD k 0)) H
section
variable {P:Program} {w:World} {K:W.Frag} {mg:Str->Option Value} {base:Heap}
theorem w0b (B:Blt mg) (Df:Def K mg "_law_at" z9w y2z):Cal P w K mg base 1 "_law_at" y2z (spAt K):=by
 refine Df.cal x9s (fun vs H Q E h=>?_) (fun f cdv A outer s H vs Q E hr h=>?_)
 ·obtain⟨a,ns,k,rfl,_⟩:=h;rfl
 ·obtain⟨a,ns,k,rfl,ha,q⟩:=h
  refine⟨_,(z0b (ps_if (z0k op_lt (pv 1) (z0t z0v (by rfl) B.len_ PySem.boot_len (z0a (pv 0) z0d)) (z0p _))
 (z0e (z0o (pe_ix ix_list (pv 0) (pv 1) (fun _ _=>rfl))))
 z0q)
 (z0e (z0o z0i))),?_⟩
  refine⟨_,rfl,_,rfl,a,_,rfl,.inl ha,_,_,rfl,rfl,_,rfl,ite2 (fun c=>?_) (fun c=>?_)⟩
  ·have c':k < ns.length:=by
    have:=of_decide_eq_true c
    simp at this;omega
   refine⟨_,rfl,_,rfl,a,_,_,.int (ns.getD k 0),rfl,rfl,ha,z4f (by simp[c']),q⟩
  ·have c':¬ k < ns.length:=by
    intro z
    apply c
    apply decide_eq_true
    simp;omega
   have:ns.getD k 0=0:=by simp[List.getD,Nat.not_lt.mp c']
   rw[this]at q
   exact q
end
def y7v:Sp:=fun vs H Q _=>∃ (v1 v2:V) (d:D),vs=[v1,v2]/\At H d v1/\At H d v2/\d.plain=true/\d.size<=1000000/\∀ H',Same H H'->Q (.bl true) H'
section
variable {P:Program} {w:World} {K:W.Frag} {mg:Str->Option Value} {base:Heap}
theorem x1z (B:Blt mg) (c_l_whole:Cal P w K mg base 1 "_law_whole" z4v y3t) (Df:Def K mg "_law_alike" z4t z5i):Cal P w K mg base 2 "_law_alike" z5i y7v:=by
 refine Df.cal sc_l_alike (fun vs H Q E h=>?_) (fun f cdv A outer s H vs Q E hr h=>?_)
 ·obtain⟨v1,v2,d,rfl,_⟩:=h;rfl
 ·obtain⟨v1,v2,d,rfl,a1,a2,hpl,hz,q⟩:=h
  refine⟨_,(z0b (z0n (i:=2) sc_l_alike.nd rfl (Or.inl rfl) (z0u (z0a (pv 0) z0d)))
 (z0b (z0n (i:=3) sc_l_alike.nd rfl (Or.inl rfl) (z0u (z0a (pv 1) z0d)))
 (z0b (z5z PassesOwn.never (z0k (x4d (hu0 hr)) (pv 3) (z0u z0d) (z0p _))
 (z0b (z0n (i:=4) sc_l_alike.nd rfl (Or.inl rfl) (z4d PySem.F.plainAttrs_list PySem.F.slot_list_pop PySem.F.type_list_pop z4e (pv 2)))
 (z0b (z0n (i:=5) sc_l_alike.nd rfl (Or.inl rfl) (z4d PySem.F.plainAttrs_list PySem.F.slot_list_pop PySem.F.type_list_pop z4e (pv 3)))
 (z0e (ps_if (z3p (z0t x6p (by rfl) B.isinstance_ z0w (z0a (pv 5) (z0a (z2m (z0a (pe_ty B.list_ z5n) (z0a (pe_ty B.tuple_ z9d) z0d))) z0d))))
 (z0b (ps_if (z0k op_ne (z0t z2j (by rfl) B.isinstance_ z0w (z0a (pv 4) (z0a (pe_ty B.list_ z5n) z0d))) (z0t z2j (by rfl) B.isinstance_ z0w (z0a (pv 5) (z0a (pe_ty B.list_ z5n) z0d))) (z0p _))
 (z0e (z0o pe_bl))
 z0q)
 (z0b (ps_if (PW.pt (pw_or (z0k op_ne (z0t z2j (by rfl) B.isinstance_ z0w (z0a (pv 4) (z0a (pe_ty B.tuple_ z9d) z0d))) (z0t z2j (by rfl) B.isinstance_ z0w (z0a (pv 5) (z0a (pe_ty B.tuple_ z9d) z0d))) (z0p _)) (z7z (z0k op_ne (z0t z0v (by rfl) B.len_ PySem.boot_len (z0a (pv 4) z0d)) (z0t z0v (by rfl) B.len_ PySem.boot_len (z0a (pv 5) z0d)) (z0p _)))))
 (z0e (z0o pe_bl))
 z0q)
 (z0b (z0r (pe_bm PySem.F.plainAttrs_list PySem.F.slot_list_extend PySem.F.type_list_extend z2r (pv 2) (z0a (pv 4) z0d)))
 (z0e (z0r (pe_bm PySem.F.plainAttrs_list PySem.F.slot_list_extend PySem.F.type_list_extend z2r (pv 3) (z0a (pv 5) z0d)))))))
 (z0e (ps_if (z0k x0d (pv 5) z6g (z0p _))
 (z0e (ps_if (z0k x4c (pv 4) z6g (z0p _))
 (z0e (z0o pe_bl))
 z0q))
 (z0e (ps_if (z3p (z0t z2j (by rfl) B.isinstance_ z0w (z0a (pv 5) (z0a (pe_ty B.bool_ y2h) z0d))))
 (z0e (ps_if (PW.pt (pw_or (z4b (z3p (z0t z2j (by rfl) B.isinstance_ z0w (z0a (pv 4) (z0a (pe_ty B.bool_ y2h) z0d))))) (z7z (z0k op_ne (pv 4) (pv 5) (z0p _)))))
 (z0e (z0o pe_bl))
 z0q))
 (z0e (ps_if (PW.pt (pw_or (z4b (z3p (z1d c_l_whole hr (by decide) (z0a (pv 4) z0d)))) (z7z (z0k op_ne (pv 4) (pv 5) (z0p _)))))
 (z0e (z0o pe_bl))
 z0q)))))))))))
 (z0e (z0o pe_bl))))),?_⟩
  refine⟨_,rfl,len1,fun l hl=>?_⟩
  refine⟨_,rfl,len1,fun r hr0=>?_⟩
  have nlr:l≠r:=z0h z0c hr0
  have hr1:H r=none:=by rw[z0g nlr.symm]at hr0;exact hr0
  refine z9x (y3q (fun m σ H2=>∃ ds Ls Rs o1 o2,σ=[some v1,some v2,some (.ref l),some (.ref r),o1,o2]/\Same H H2/\H2 l=some (.lst Ls)/\H2 r=some (.lst Rs)/\AtL H ds Ls/\AtL H ds Rs/\z4g ds=true/\sizes ds<=1000000/\m=sizes ds)
   ⟨_,[d],[v1],[v2],none,none,rfl,((smR H).upd hl).upd hr1,by rw[z0g nlr,z0c],z0c,AtL.cons a1 AtL.nil,AtL.cons a2 AtL.nil,by simp[z4g,hpl],by simpa[sizes] using hz,rfl⟩ ?_)
  rintro m σ H2 ⟨ds,Ls,Rs,o1,o2,rfl,sm,hL,hR,aL,aR,hp,hsz,rfl⟩ Y X hY hX
  refine⟨_,rfl,by decide,fun p hp0=>?_⟩
  have npr:r≠p:=z0h hR hp0
  have npl:l≠p:=z0h hL hp0
  refine⟨Rs.isEmpty,⟨r,p,Rs,[],rfl,rfl,qLo (by rw[z0g npr];exact hR),qLo z0c,.inl ⟨rfl,rfl⟩⟩,_,rfl,?_⟩
  rcases z5c ds with rfl | ⟨ds',d',rfl⟩
  ·have:Rs=[]:=by unfold AtL at aR;exact aR
   subst this
   refine iteF (hX _ _ ?_)
   exact q _ (sm.upd (sm.free hp0))
  ·obtain⟨Ls',x1,rfl,aL',ax1⟩:=aL.last
   obtain⟨Rs',x2,rfl,aR',ax2⟩:=aR.last
   have ene:(Rs'++[x2]).isEmpty=false:=by simp
   rw[ene]
   refine iteT ⟨Y,fun _ _ h=>h,?_⟩
   have hL3:upd H2 p (.lst []) l=some (.lst (Ls'++[x1])):=by rw[z0g npl];exact hL
   refine rd_k fun N1 k1=>?_
   refine⟨_,rfl,.inl ⟨rfl,_,qLo hL3⟩,l,_,x1,rfl,rfl,hL3,by simp,k1 _ _ ?_⟩
   have hR4:upd (upd H2 p (.lst [])) l (.lst (Ls'++[x1]).dropLast) r=some (.lst (Rs'++[x2])):=by rw[z0g nlr.symm,z0g npr];exact hR
   refine rd_k fun N2 k2=>?_
   refine⟨_,rfl,.inl ⟨rfl,_,qLo hR4⟩,r,_,x2,rfl,rfl,hR4,by simp,k2 _ _ ?_⟩
   have sm5:Same H (upd (upd (upd H2 p (.lst [])) l (.lst (Ls'++[x1]).dropLast)) r (.lst (Rs'++[x2]).dropLast)):=((sm.upd (sm.free hp0)).upd hl).upd hr1
   have hL5:(upd (upd (upd H2 p (.lst [])) l (.lst (Ls'++[x1]).dropLast)) r (.lst (Rs'++[x2]).dropLast)) l=some (.lst Ls'):=by rw[z0g nlr,z0c];simp
   have hR5:(upd (upd (upd H2 p (.lst [])) l (.lst (Ls'++[x1]).dropLast)) r (.lst (Rs'++[x2]).dropLast)) r=some (.lst Rs'):=by rw[z0c];simp
   generalize (upd (upd (upd H2 p (.lst [])) l (.lst (Ls'++[x1]).dropLast)) r (.lst (Rs'++[x2]).dropLast))=H5 at sm5 hL5 hR5
   have e1:z4g ds'=true/\d'.plain=true:=by
    rw[z4y]at hp
    simpa[z4g] using hp
   have e2:sizes (ds'++[d'])=sizes ds'+d'.size:=by rw[z3w];simp[sizes]
   refine⟨_,rfl,by decide,fun pt hpt=>?_⟩
   have npt:r≠pt:=z0h hR5 hpt
   have nlt:l≠pt:=z0h hL5 hpt
   have sm6:Same H (upd H5 pt (.tup [.ty "list",.ty "tuple"])):=sm5.upd (sm5.free hpt)
   have hL6:upd H5 pt (.tup [.ty "list",.ty "tuple"]) l=some (.lst Ls'):=by rw[z0g nlt];exact hL5
   have hR6:upd H5 pt (.tup [.ty "list",.ty "tuple"]) r=some (.lst Rs'):=by rw[z0g npt];exact hR5
   have hP6:upd H5 pt (.tup [.ty "list",.ty "tuple"]) pt=some (.tup [.ty "list",.ty "tuple"]):=z0c
   generalize upd H5 pt (.tup [.ty "list",.ty "tuple"])=H6 at sm6 hL6 hR6 hP6
   have fin:∀ o1 o2,∃ m',m' < sizes (ds'++[d'])/\∃ ds Ls Rs o1' o2',[some v1,some v2,some (V.ref l),some (V.ref r),o1,o2]=[some v1,some v2,some (.ref l),some (.ref r),o1',o2']/\Same H H6/\H6 l=some (.lst Ls)/\H6 r=some (.lst Rs)/\AtL H ds Ls/\AtL H ds Rs/\z4g ds=true/\sizes ds<=1000000/\m'=sizes ds :=
    fun o1 o2=>⟨sizes ds',by have:1<=d'.size:=(by cases d'<;>simp[D.size]<;>omega);omega,ds',Ls',Rs',o1,o2,rfl,sm6,hL6,hR6,aL',aR',e1.1,by omega,rfl⟩
   have isi:∀ {t:Ty} {R:Prop},TyIs H6 x2 t->(∀ k:Bool,k=([Ty.lst,Ty.tup].any (Ty.isa t))->R)->R:=fun _ h=>h _ rfl
   cases d' with
   | str x=>exact absurd e1.2 (by simp[D.plain])
   | non =>
    unfold At at ax1 ax2;subst ax1 ax2
    refine⟨_,pt,.non,[.lst,.tup],rfl,hP6,trivial,_,rfl,iteF ?_⟩
    refine⟨_,rfl,rfl,_,rfl,iteT ?_⟩
    refine⟨_,rfl,rfl,_,rfl,iteF ?_⟩
    exact hY _ _ (fin _ _)
   | bl b =>
    unfold At at ax1 ax2;subst ax1 ax2
    refine⟨_,pt,.bl,[.lst,.tup],rfl,hP6,trivial,_,rfl,iteF ?_⟩
    refine⟨_,rfl,rfl,_,rfl,iteF ?_⟩
    refine⟨_,rfl,_,.bl,.bl,rfl,trivial,_,rfl,iteT ?_⟩
    refine⟨_,rfl,_,.bl,.bl,rfl,trivial,_,rfl,iteF ?_⟩
    refine⟨_,rfl,_,rfl,rfl,_,rfl,iteNS rfl ?_⟩
    exact hY _ _ (fin _ _)
   | int b =>
    unfold At at ax1 ax2;subst ax1 ax2
    refine⟨_,pt,.int,[.lst,.tup],rfl,hP6,trivial,_,rfl,iteF ?_⟩
    refine⟨_,rfl,rfl,_,rfl,iteF ?_⟩
    refine⟨_,rfl,_,.int,.bl,rfl,trivial,_,rfl,iteF ?_⟩
    refine⟨_,rfl,_,.int,rfl,trivial,_,rfl,iteF ?_⟩
    refine⟨_,rfl,_,rfl,rfl,_,rfl,iteNS rfl ?_⟩
    exact hY _ _ (fin _ _)
   | lst es =>
    have ax1':=ax1.mono sm6
    have ax2':=ax2.mono sm6
    unfold At at ax1 ax2 ax1' ax2'
    obtain⟨p1,w1,rfl,g1,k1⟩:=ax1
    obtain⟨p2,w2,rfl,g2,k2⟩:=ax2
    have g1':=sm6 _ _ g1
    have g2':=sm6 _ _ g2
    have T1:TyIs H6 (.ref p1) .lst:=⟨_,.inl g1'⟩
    have T2:TyIs H6 (.ref p2) .lst:=⟨_,.inl g2'⟩
    have lw:w1.length=w2.length:=by rw[←k1.length,←k2.length]
    have el:es.length<=sizes es:=z4w es
    have e3:sizes (ds'++[D.lst es])=sizes ds'+(1+sizes es):=e2
    have eL:=aL'.length
    have eR:=aR'.length
    have lL:=z4w ds'
    have np2:p2≠l:=z0h g2 hl
    refine⟨_,pt,.lst,[.lst,.tup],rfl,hP6,T2,_,rfl,iteT ?_⟩
    refine⟨_,rfl,_,.lst,.lst,rfl,T1,_,rfl,_,.lst,.lst,rfl,T2,rfl,_,rfl,iteNS rfl ?_⟩
    refine⟨_,rfl,_,.lst,.tup,rfl,T1,_,rfl,_,.lst,.tup,rfl,T2,rfl,_,rfl,iteNS rfl ?_⟩
    refine⟨_,rfl,p1,_,rfl,.inl (qLo g1'),_,rfl,p2,_,rfl,.inl (qLo g2'),rfl,_,rfl,iteNS (by rw[lw]) ?_⟩
    refine⟨_,rfl,.inl ⟨rfl,_,qLo hL6⟩,_,rfl,l,p1,_,_,rfl,rfl,hL6,.inl g1',z1o (by have:=k1.length;omega),?_⟩
    have hR7:upd H6 l (.lst (Ls'++w1)) r=some (.lst Rs'):=by rw[z0g nlr.symm];exact hR6
    refine⟨_,rfl,.inl ⟨rfl,_,qLo hR7⟩,_,rfl,r,p2,_,_,rfl,rfl,hR7,.inl (by rw[z0g np2];exact g2'),z1o (by have:=k2.length;omega),?_⟩
    exact hY _ _ ⟨sizes (ds'++es),by rw[z3w,e3];omega,ds'++es,Ls'++w1,Rs'++w2,_,_,rfl,(sm6.upd hl).upd hr1,by rw[z0g nlr,z0c],z0c,aL'.append k1,aR'.append k2,by rw[z4y];simpa[D.plain] using e1,by rw[z3w];omega,rfl⟩
   | tup es =>
    unfold At at ax1 ax2
    obtain⟨p1,w1,rfl,g1,k1⟩:=ax1
    obtain⟨p2,w2,rfl,g2,k2⟩:=ax2
    have g1':=sm6 _ _ g1
    have g2':=sm6 _ _ g2
    have T1:TyIs H6 (.ref p1) .tup:=⟨_,g1'⟩
    have T2:TyIs H6 (.ref p2) .tup:=⟨_,g2'⟩
    have lw:w1.length=w2.length:=by rw[←k1.length,←k2.length]
    have el:es.length<=sizes es:=z4w es
    have e3:sizes (ds'++[D.tup es])=sizes ds'+(1+sizes es):=e2
    have eL:=aL'.length
    have eR:=aR'.length
    have lL:=z4w ds'
    have np2:p2≠l:=z0h g2 hl
    refine⟨_,pt,.tup,[.lst,.tup],rfl,hP6,T2,_,rfl,iteT ?_⟩
    refine⟨_,rfl,_,.tup,.lst,rfl,T1,_,rfl,_,.tup,.lst,rfl,T2,rfl,_,rfl,iteNS rfl ?_⟩
    refine⟨_,rfl,_,.tup,.tup,rfl,T1,_,rfl,_,.tup,.tup,rfl,T2,rfl,_,rfl,iteNS rfl ?_⟩
    refine⟨_,rfl,p1,_,rfl,.inr (qTo g1'),_,rfl,p2,_,rfl,.inr (qTo g2'),rfl,_,rfl,iteNS (by rw[lw]) ?_⟩
    refine⟨_,rfl,.inl ⟨rfl,_,qLo hL6⟩,_,rfl,l,p1,_,_,rfl,rfl,hL6,.inr g1',z1o (by have:=k1.length;omega),?_⟩
    have hR7:upd H6 l (.lst (Ls'++w1)) r=some (.lst Rs'):=by rw[z0g nlr.symm];exact hR6
    refine⟨_,rfl,.inl ⟨rfl,_,qLo hR7⟩,_,rfl,r,p2,_,_,rfl,rfl,hR7,.inr (by rw[z0g np2];exact g2'),z1o (by have:=k2.length;omega),?_⟩
    exact hY _ _ ⟨sizes (ds'++es),by rw[z3w,e3];omega,ds'++es,Ls'++w1,Rs'++w2,_,_,rfl,(sm6.upd hl).upd hr1,by rw[z0g nlr,z0c],z0c,aL'.append k1,aR'.append k2,by rw[z4y];simpa[D.plain] using e1,by rw[z3w];omega,rfl⟩
end
def spLaw (K:W.Frag):Sp:=fun vs H Q _=>∃ (a:Addr) (ns:List Int),vs=[.ref a]/\SqL K H a (ns.map V.int)/\ns.length<=63/\∀ H',Q (.bl true) H'
theorem x8k (ns:List Int) (lo hi:Option Int):∃ cs:List Int,cutV (ns.map V.int) lo hi=cs.map V.int/\cs.length<=ns.length/\∀ n∈cs,n∈ns:=by
 refine⟨(ns.drop (HT.sIx (ns.map V.int).length 0 lo)).take (HT.sIx (ns.map V.int).length (ns.map V.int).length hi - HT.sIx (ns.map V.int).length 0 lo),?_,?_,fun n hn=>?_⟩
 ·unfold cutV;rw[List.map_take,List.map_drop]
 ·rw[List.length_take,List.length_drop];omega
 ·exact List.mem_of_mem_drop (List.mem_of_mem_take hn)
theorem w0r (xs:List V) (n:Nat):cutV xs none (some (n:Int))=xs.take n:=by
 unfold cutV
 rw[HT.sIx_none,HT.sIx_nat,List.drop_zero,Nat.sub_zero,List.take_eq_take_iff]
 omega
inductive Wd where
 | and
 | or
 | same
inductive Stt where
 | lamp (k:Nat)
 | non (s:Stt)
 | two (w:Wd) (s t:Stt)
def opW:Wd->Bool->Bool->Bool
 | .and,a,b=>a && b
 | .or,a,b=>a || b
 | .same,a,b=>a == b
def valS (b:List Bool):Stt->Bool
 | .lamp k=>b.getD (k - 1) false
 | .non s=>!valS b s
 | .two w s t=>opW w (valS b s) (valS b t)
def okS (n:Nat):Stt->Prop
 | .lamp k=>1<=k/\k<=n
 | .non s=>okS n s
 | .two _ s t=>okS n s/\okS n t
def post:Stt->List Stt
 | .lamp k=>[.lamp k]
 | .non s=>post s++[.non s]
 | .two w s t=>post s++post t++[.two w s t]
theorem z6q:∀ s:Stt,0 < (post s).length
 | .lamp _=>by simp[post]
 | .non s=>by simp[post]
 | .two _ s t=>by simp[post];omega
def posts (l:List Stt):List Stt:=l.flatMap post
theorem z5d (l:List Stt) (s:Stt):posts (l++[s])=posts l++post s:=by simp[posts]
def stepV (b:List Bool):Stt->List Bool->Option (Bool × List Bool)
 | .lamp k,st=>some (b.getD (k - 1) false,st)
 | .non _,x::st=>some (!x,st)
 | .two w _ _,y::x::st=>some (opW w x y,st)
 | _,_=>none
def runV (b:List Bool):List Stt->List Bool->Option (List Bool)
 | [],st=>some st
 | p::ps,st=>match stepV b p st with
  | some (v,st')=>runV b ps (v::st')
  | none=>none
theorem z8m (b:List Bool):∀ (s:Stt) (R:List Stt) (st:List Bool),runV b (post s++R) st=runV b R (valS b s::st)
 | .lamp k,R,st=>rfl
 | .non s,R,st=>by
  have e:post (.non s)++R=post s++(.non s::R):=by simp[post]
  rw[e,z8m b s];rfl
 | .two w s t,R,st=>by
  have e:post (.two w s t)++R=post s++(post t++(.two w s t::R)):=by simp[post]
  rw[e,z8m b s,z8m b t];rfl
theorem y4e (b:List Bool):∀ (ps R:List Stt) (st:List Bool),runV b (ps++R) st=(runV b ps st).bind fun st'=>runV b R st'
 | [],R,st=>rfl
 | p::ps,R,st=>by
  show (match stepV b p st with
   | some (v,st')=>runV b (ps++R) (v::st')
   | none=>none)=Option.bind (match stepV b p st with
   | some (v,st')=>runV b ps (v::st')
   | none=>none) _
  cases stepV b p st with
  | none=>rfl
  | some q=>exact y4e b ps R _
def wishW:Wd->Int->Int->Int->List (List Int)
 | .and,p,a,b=>[[-p,a],[-p,b],[p,-a,-b]]
 | .or,p,a,b=>[[p,-a],[p,-b],[-p,a,b]]
 | .same,p,a,b=>[[-p,-a,b],[-p,a,-b],[p,a,b],[p,-a,-b]]
structure Sh where
 st:List Int
 W:List (List Int)
 p:Nat
def stepL:Stt->Sh->Option Sh
 | .lamp k,x=>some ⟨(k:Int)::x.st,x.W,x.p⟩
 | .non _,⟨l::st,W,p⟩=>some ⟨-l::st,W,p⟩
 | .two w _ _,⟨b::a::st,W,p⟩=>some ⟨((p+1:Nat):Int)::st,W++wishW w ((p+1:Nat):Int) a b,p+1⟩
 | _,_=>none
def runL:List Stt->Sh->Option Sh
 | [],x=>some x
 | q::ps,x=>(stepL q x).bind (runL ps)
def enc:Stt->Nat->Int × List (List Int) × Nat
 | .lamp k,p=>((k:Int),[],p)
 | .non s,p=>(-(enc s p).1,(enc s p).2.1,(enc s p).2.2)
 | .two w s t,p=>((((enc t (enc s p).2.2).2.2+1:Nat):Int),(enc s p).2.1++(enc t (enc s p).2.2).2.1++wishW w (((enc t (enc s p).2.2).2.2+1:Nat):Int) (enc s p).1 (enc t (enc s p).2.2).1,(enc t (enc s p).2.2).2.2+1)
theorem z6f:∀ (s:Stt) (R:List Stt) (x:Sh),runL (post s++R) x=runL R ⟨(enc s x.p).1::x.st,x.W++(enc s x.p).2.1,(enc s x.p).2.2⟩
 | .lamp k,R,x=>by
  show (some (⟨(k:Int)::x.st,x.W,x.p⟩:Sh)).bind (runL R)=_
  simp[enc]
 | .non s,R,x=>by
  have e:post (.non s)++R=post s++(.non s::R):=by simp[post]
  rw[e,z6f s]
  rfl
 | .two w s t,R,x=>by
  have e:post (.two w s t)++R=post s++(post t++(.two w s t::R)):=by simp[post]
  rw[e,z6f s,z6f t]
  show (some (⟨_,_,_⟩:Sh)).bind (runL R)=_
  simp only[Option.bind_some,enc,List.append_assoc]
theorem y4f:∀ (ps R:List Stt) (x:Sh),runL (ps++R) x=(runL ps x).bind (runL R)
 | [],R,x=>rfl
 | q::ps,R,x=>by
  show (stepL q x).bind (runL (ps++R))=((stepL q x).bind (runL ps)).bind (runL R)
  cases stepL q x with
  | none=>rfl
  | some y=>exact y4f ps R y
def Wd.str:Wd->Str
 | .and=>"and"
 | .or=>"or"
 | .same=>"same"
def SAt (H:Hp):Stt->Addr->Prop
 | .lamp k,a=>H a=some (.tup [.str "lamp",.int k])
 | .non s,a=>∃ b,H a=some (.tup [.str "not",.ref b])/\SAt H s b
 | .two w s t,a=>∃ b c,H a=some (.tup [.str w.str,.ref b,.ref c])/\SAt H s b/\SAt H t c
theorem SAt.mono {H H':Hp} (e:∀ a xs,H a=some (.tup xs)->H' a=some (.tup xs)):∀ {s:Stt} {a:Addr},SAt H s a->SAt H' s a
 | .lamp k,a,h=>e _ _ h
 | .non s,a,⟨b,h1,h2⟩=>⟨b,e _ _ h1,SAt.mono e h2⟩
 | .two w s t,a,⟨b,c,h1,h2,h3⟩=>⟨b,c,e _ _ h1,SAt.mono e h2,SAt.mono e h3⟩
theorem SAt.same {H H':Hp} {s:Stt} {a:Addr} (h:SAt H s a) (e:Same H H'):SAt H' s a:=h.mono fun _ _ q=>e _ _ q
abbrev Pt:=Addr × Stt
def prefs (ps:List Pt):List V:=ps.map fun p=>V.ref p.1
def PsOk (H:Hp) (ps:List Pt):Prop:=∀ p∈ps,SAt H p.2 p.1
theorem PsOk.same {H H':Hp} {ps:List Pt} (h:PsOk H ps) (e:Same H H'):PsOk H' ps:=fun p hp=>(h p hp).same e
theorem PsOk.tups {H H':Hp} {ps:List Pt} (h:PsOk H ps) (e:∀ a xs,H a=some (.tup xs)->H' a=some (.tup xs)):PsOk H' ps:=fun p hp=>(h p hp).mono e
theorem y1j:∀ W:List Pt,W.length<=(posts (W.map (·.2))).length
 | []=>Nat.zero_le _
 | p::W=>by
  have h1:=y1j W
  have h2:=z6q p.2
  simp[posts]at h1 ⊢
  omega
theorem y1i (ps:List Pt):(prefs ps).length=ps.length:=by simp[prefs]
theorem SAt.tup {H:Hp}:∀ {s:Stt} {a:Addr},SAt H s a->∃ w xs,H a=some (.tup (.str w::xs))
 | .lamp k,a,h=>⟨_,_,h⟩
 | .non s,a,⟨b,h1,_⟩=>⟨_,_,h1⟩
 | .two w s t,a,⟨b,c,h1,_,_⟩=>⟨_,_,h1⟩
def y3x (K:W.Frag):Sp:=fun vs H Q _=>∃ (a:Addr) (s:Stt),vs=[.ref a]/\SAt H s a/\(post s).length<=100000/\∀ (l:Addr) (ps:List Pt) (H':Hp),Same H H'->H l=none->H' l=some (.lst (prefs ps))->PsOk H' ps->ps.map (·.2)=post s->Q (.ref l) H'
section
variable {P:Program} {w:World} {K:W.Frag} {mg:Str->Option Value} {base:Heap}
theorem y2o (B:Blt mg) (Df:Def K mg "inner_first" z2b z2d):Cal P w K mg base 1 "inner_first" z2d (y3x K):=by
 refine Df.cal sc_inner_first (fun vs H Q E h=>?_) (fun f cdv A outer s H vs Q E hr h=>?_)
 ·obtain⟨a,s,rfl,_⟩:=h;rfl
 ·obtain⟨a,s0,rfl,ha,hz,q⟩:=h
  refine⟨_,(z0b (z0n (i:=1) sc_inner_first.nd rfl (Or.inl rfl) (z0u z0d))
 (z0b (z0n (i:=2) sc_inner_first.nd rfl (Or.inl rfl) (z0u (z0a (pv 0) z0d)))
 (z0b (z5z PassesOwn.never (z5y (pv 2) (fun _=>rfl))
 (z0b (z0n (i:=3) sc_inner_first.nd rfl (Or.inl rfl) (z4d PySem.F.plainAttrs_list PySem.F.slot_list_pop PySem.F.type_list_pop z4e (pv 2)))
 (z0b (z0r (pe_bm PySem.F.plainAttrs_list PySem.F.slot_list_append PySem.F.type_list_append z0z (pv 1) (z0a (pv 3) z0d)))
 (z0e (ps_if (z0k op_ne (pe_ix ix_tup (pv 3) z0i (fun _ _=>rfl)) z1g (z0p _))
 (z0e (z0r (pe_bm PySem.F.plainAttrs_list PySem.F.slot_list_extend PySem.F.type_list_extend z2r (pv 2) (z0a (y0q x8x (pv 3) (y1k z0i) y8c) z0d))))
 z0q)))))
 (z0e (z0o (x1p rfl B.list_ B.reversed_ (pv 1))))))),?_⟩
  refine⟨by decide,fun lo hlo=>?_⟩
  have s1:Same H (upd H lo (.lst [])):=(smR H).upd hlo
  have g1:upd H lo (.lst []) lo=some (.lst (prefs [])):=z0c
  generalize upd H lo (.lst [])=H1 at s1 g1
  refine⟨_,rfl,len1,fun lw hlw=>?_⟩
  have s2:Same H1 (upd H1 lw (.lst [V.ref a])):=(smR H1).upd hlw
  have g2:upd H1 lw (.lst [V.ref a]) lw=some (.lst (prefs [(a,s0)])):=z0c
  have nlw:lo≠lw:=z0h g1 hlw
  generalize upd H1 lw (.lst [V.ref a])=H2 at s2 g2
  have s02:=s1.trans s2
  have hlwH:H lw=none:=s1.free hlw
  refine⟨fun m σ Hx=>∃ (P W:List Pt) (v:Option V),m=(posts (W.map (·.2))).length/\σ=[some (.ref a),some (.ref lo),some (.ref lw),v]/\Same H Hx/\Hx lo=some (.lst (prefs P))/\Hx lw=some (.lst (prefs W))/\PsOk Hx P/\PsOk Hx W/\posts (W.map (·.2))++(P.map (·.2)).reverse=post s0,
   ⟨_,[],[(a,s0)],none,rfl,rfl,s02,s2 _ _ g1,g2,(fun _ h=>nomatch h),fun p hp=>?_,by simp[posts]⟩,?_⟩
  ·have:p=(a,s0):=by simpa using hp
   rw[this];exact ha.same s02
  rintro m σ Hx ⟨Ps,W,v,rfl,rfl,sx,hxo,hxw,hOP,hOW,hpo⟩
  refine⟨_,rfl,_,.inl ⟨_,qLo hxw,rfl⟩,?_⟩
  have hlen:(posts (W.map (·.2))).length+Ps.length=(post s0).length:=by rw[←hpo];simp
  by_cases hW:W=[]
  ·subst hW
   refine iteF ?_
   refine⟨_,rfl,lo,_,rfl,.inl (.inl hxo),fun l hl=>?_⟩
   have er:(prefs Ps).reverse=prefs Ps.reverse:=by simp[prefs]
   rw[er]
   have s3:Same Hx (upd Hx l (.lst (prefs Ps.reverse))):=(smR Hx).upd hl
   refine q l Ps.reverse _ (sx.trans s3) (sx.free hl) z0c (fun p hp=>(hOP p (by simpa using hp)).same s3) ?_
   rw[List.map_reverse,←hpo];simp[posts]
  ·obtain⟨Wi,p,rfl⟩:∃ Wi p,W=Wi++[p]:=⟨_,_,(List.dropLast_concat_getLast hW).symm⟩
   have e1:(!(prefs (Wi++[p])).isEmpty)=true:=by simp[prefs]
   rw[e1]
   refine iteT ?_
   refine⟨_,fun σ' H' h=>h,?_⟩
   have ew:prefs (Wi++[p])=prefs Wi++[V.ref p.1]:=by simp[prefs]
   rw[ew]at hxw
   refine⟨_,rfl,.inl ⟨rfl,_,qLo hxw⟩,lw,_,.ref p.1,rfl,rfl,hxw,by simp,?_⟩
   have edl:(prefs Wi++[V.ref p.1]).dropLast=prefs Wi:=by simp
   dsimp only
   rw[edl]
   have tp:∀ {b:Addr} {ys:List V} {Hy:Hp} {z:Addr} {o:HO},Hy z=some (.lst ys)->∀ a xs,Hy a=some (.tup xs)->upd Hy z o a=some (.tup xs):=fun {b ys Hy z o} hz a xs h=>by rw[z0g (ne_of h hz (by intro q;cases q))];exact h
   have s3:Same H (upd Hx lw (.lst (prefs Wi))):=sx.upd hlwH
   have g3:upd Hx lw (.lst (prefs Wi)) lw=some (.lst (prefs Wi)):=z0c
   have h3o:upd Hx lw (.lst (prefs Wi)) lo=some (.lst (prefs Ps)):=by rw[z0g nlw];exact hxo
   have hP3:PsOk (upd Hx lw (.lst (prefs Wi))) Ps:=hOP.tups (tp (b:=lw) hxw)
   have hW3:PsOk (upd Hx lw (.lst (prefs Wi))) (Wi++[p]):=hOW.tups (tp (b:=lw) hxw)
   generalize upd Hx lw (.lst (prefs Wi))=H3 at s3 g3 h3o hP3 hW3
   have hp3:SAt H3 p.2 p.1:=hW3 p (by simp)
   refine⟨_,rfl,.inl ⟨rfl,_,qLo h3o⟩,_,rfl,lo,_,_,rfl,rfl,h3o,z1r (by rw[y1i];omega),?_⟩
   have ep:prefs Ps++[V.ref p.1]=prefs (Ps++[p]):=by simp[prefs]
   dsimp only
   rw[ep]
   have s4:Same H (upd H3 lo (.lst (prefs (Ps++[p])))):=s3.upd hlo
   have g4:upd H3 lo (.lst (prefs (Ps++[p]))) lo=some (.lst (prefs (Ps++[p]))):=z0c
   have h4w:upd H3 lo (.lst (prefs (Ps++[p]))) lw=some (.lst (prefs Wi)):=by rw[z0g nlw.symm];exact g3
   have hP4:PsOk (upd H3 lo (.lst (prefs (Ps++[p])))) (Ps++[p]):=fun r hr=>by
    rcases mApp hr with z | z
    ·exact (hP3 r z).mono (tp (b:=lo) h3o)
    ·have:r=p:=by simpa using z
     rw[this];exact hp3.mono (tp (b:=lo) h3o)
   have hW4:PsOk (upd H3 lo (.lst (prefs (Ps++[p])))) (Wi++[p]):=hW3.tups (tp (b:=lo) h3o)
   generalize upd H3 lo (.lst (prefs (Ps++[p])))=H4 at s4 g4 h4w hP4 hW4
   have hp4:SAt H4 p.2 p.1:=hW4 p (by simp)
   have hWi:PsOk H4 Wi:=fun r hr=>hW4 r (List.mem_append_left _ hr)
   have emap:(Wi++[p]).map (·.2)=Wi.map (·.2)++[p.2]:=by simp
   rw[emap,z5d]at hpo hlen
   have erev:((Ps++[p]).map (·.2)).reverse=p.2::(Ps.map (·.2)).reverse:=by simp
   obtain⟨pa,ps⟩:=p
   cases ps with
   | lamp k =>
    have hk:H4 pa=some (.tup [.str "lamp",.int k]):=hp4
    refine⟨_,rfl,pa,_,_,_,rfl,rfl,qTo hk,rfl,rfl,_,rfl,iteF ?_⟩
    refine⟨_,?_,Ps++[(pa,.lamp k)],Wi,_,rfl,rfl,s4,g4,h4w,hP4,hWi,?_⟩
    ·rw[emap,z5d];simp[post]
    ·rw[erev,←hpo];simp[post]
   | non s1 =>
    obtain⟨b,hb,hs1⟩:=hp4
    refine⟨_,rfl,pa,_,_,_,rfl,rfl,qTo hb,rfl,rfl,_,rfl,iteT ?_⟩
    refine⟨_,rfl,.inl ⟨rfl,_,qLo h4w⟩,_,rfl,_,rfl,pa,_,rfl,qTo hb,?_,fun p5 hp5=>?_⟩
    ·show ¬ (HT.sIx 2 0 (some 1)=0/\HT.sIx 2 2 none=2)
     decide
    have ec:cutV [V.str "not",.ref b] (some 1) none=[.ref b]:=rfl
    rw[ec]
    have s5:Same H4 (upd H4 p5 (.tup [.ref b])):=(smR H4).upd hp5
    have g5:upd H4 p5 (.tup [.ref b]) p5=some (.tup [.ref b]):=z0c
    generalize upd H4 p5 (.tup [.ref b])=H5 at s5 g5
    refine⟨lw,p5,_,_,rfl,rfl,s5 _ _ h4w,.inr g5,z1o (by rw[y1i];simp at hlen ⊢;have:=z6q s1;have h6:=y1j Wi;omega),?_⟩
    have ew5:prefs Wi++[V.ref b]=prefs (Wi++[(b,s1)]):=by simp[prefs]
    dsimp only
    rw[ew5]
    have h5w:=s5 _ _ h4w
    have k5:∀ a xs,H5 a=some (.tup xs)->upd H5 lw (.lst (prefs (Wi++[(b,s1)]))) a=some (.tup xs):=tp (b:=lw) h5w
    have emap2:(Wi++[(b,s1)]).map (·.2)=Wi.map (·.2)++[s1]:=by simp
    refine⟨_,?_,Ps++[(pa,.non s1)],Wi++[(b,s1)],_,rfl,rfl,(s4.trans s5).upd hlwH,by rw[z0g nlw];exact s5 _ _ g4,z0c,(hP4.same s5).tups k5,fun r hr=>?_,?_⟩
    ·rw[emap,z5d,emap2,z5d];simp[post]
    ·rcases mApp hr with z | z
     ·exact ((hWi r z).same s5).mono k5
     ·have:r=(b,s1):=by simpa using z
      rw[this];exact (hs1.same s5).mono k5
    ·rw[erev,emap2,z5d,←hpo];simp[post]
   | two wd s1 s2 =>
    obtain⟨b,c,hb,hs1,hs2⟩:=hp4
    have hne:decide (¬ V.str wd.str=V.str "lamp")=true:=by cases wd<;>rfl
    refine⟨_,rfl,pa,_,_,_,rfl,rfl,qTo hb,rfl,rfl,_,rfl,?_⟩
    refine ite2 (fun _=>?_) (fun z=>by cases wd<;>exact absurd rfl z)
    refine⟨_,rfl,.inl ⟨rfl,_,qLo h4w⟩,_,rfl,_,rfl,pa,_,rfl,qTo hb,?_,fun p5 hp5=>?_⟩
    ·show ¬ (HT.sIx 3 0 (some 1)=0/\HT.sIx 3 3 none=3)
     decide
    have ec:cutV [V.str wd.str,.ref b,.ref c] (some 1) none=[.ref b,.ref c]:=rfl
    rw[ec]
    have s5:Same H4 (upd H4 p5 (.tup [.ref b,.ref c])):=(smR H4).upd hp5
    have g5:upd H4 p5 (.tup [.ref b,.ref c]) p5=some (.tup [.ref b,.ref c]):=z0c
    generalize upd H4 p5 (.tup [.ref b,.ref c])=H5 at s5 g5
    refine⟨lw,p5,_,_,rfl,rfl,s5 _ _ h4w,.inr g5,z1o (by rw[y1i];simp at hlen ⊢;have:=z6q s1;have:=z6q s2;have h6:=y1j Wi;omega),?_⟩
    have ew5:prefs Wi++[V.ref b,V.ref c]=prefs (Wi++[(b,s1),(c,s2)]):=by simp[prefs]
    dsimp only
    rw[ew5]
    have h5w:=s5 _ _ h4w
    have k5:∀ a xs,H5 a=some (.tup xs)->upd H5 lw (.lst (prefs (Wi++[(b,s1),(c,s2)]))) a=some (.tup xs):=tp (b:=lw) h5w
    have emap2:posts ((Wi++[(b,s1),(c,s2)]).map (·.2))=posts (Wi.map (·.2))++post s1++post s2:=by simp[posts]
    refine⟨_,?_,Ps++[(pa,.two wd s1 s2)],Wi++[(b,s1),(c,s2)],_,rfl,rfl,(s4.trans s5).upd hlwH,by rw[z0g nlw];exact s5 _ _ g4,z0c,(hP4.same s5).tups k5,fun r hr=>?_,?_⟩
    ·rw[emap,z5d,emap2];simp[post]
    ·rcases mApp hr with z | z
     ·exact ((hWi r z).same s5).mono k5
     ·have:r=(b,s1)∨r=(c,s2):=by simpa using z
      rcases this with e | e
      ·rw[e];exact (hs1.same s5).mono k5
      ·rw[e];exact (hs2.same s5).mono k5
    ·rw[erev,emap2,←hpo];simp[post]
end
theorem x3a {bs:List Bool}:∀ {p:Stt} {st st':List Bool} {v:Bool},stepV bs p st=some (v,st')->st'.length<=st.length
 | .lamp k,st,st',v,h=>by
  have e:st=st':=congrArg Prod.snd (Option.some.inj h)
  rw[e];exact Nat.le_refl _
 | .non _,x::st,st',v,h=>by
  have e:st=st':=congrArg Prod.snd (Option.some.inj h)
  rw[←e];simp
 | .two _ _ _,y::x::st,st',v,h=>by
  have e:st=st':=congrArg Prod.snd (Option.some.inj h)
  rw[←e];simp;omega
 | .non _,[],_,_,h=>by cases h
 | .two _ _ _,[],_,_,h=>by cases h
 | .two _ _ _,[_],_,_,h=>by cases h
def y1b (K:W.Frag):Sp:=fun vs H Q _=>∃ (p lv b:Addr) (t:Stt) (bs st st':List Bool) (v:Bool),vs=[.ref p,.ref lv,.ref b]/\SAt H t p/\H lv=some (.lst (st.reverse.map V.bl))/\SqL K H b (bs.map V.bl)/\okS bs.length t/\stepV bs t st=some (v,st') /\
 ∀ H',(∀ z o,z≠lv->H z=some o->H' z=some o)->H' lv=some (.lst (st'.reverse.map V.bl))->Q (.bl v) H'
def y9j (K:W.Frag):Sp:=fun vs H Q _=>∃ (a b:Addr) (s:Stt) (bs:List Bool),vs=[.ref a,.ref b]/\SAt H s a/\H b=some (.lst (bs.map V.bl))/\okS bs.length s/\(post s).length<=100000/\∀ H',Same H H'->Q (.bl (valS bs s)) H'
theorem y0t {n:Nat}:∀ {s:Stt},okS n s->∀ p∈post s,okS n p
 | .lamp k,h,p,hp=>by
  have:p=.lamp k:=by simpa[post] using hp
  rw[this];exact h
 | .non s,h,p,hp=>by
  rcases mApp hp with z | z
  ·exact y0t (s:=s) h p z
  ·have:p=.non s:=by simpa using z
   rw[this];exact h
 | .two w s t,h,p,hp=>by
  rcases mApp hp with z | z
  ·rcases mApp z with y | y
   ·exact y0t (s:=s) h.1 p y
   ·exact y0t (s:=t) h.2 p y
  ·have:p=.two w s t:=by simpa using z
   rw[this];exact h
section
variable {P:Program} {w:World} {K:W.Frag} {mg:Str->Option Value} {base:Heap}
theorem y8i (Df:Def K mg "value_of" z3x z4i):Cal P w K mg base 1 "value_of" z4i (y1b K):=by
 refine Df.cal sc_value_of (fun vs H Q E h=>?_) (fun f cdv A outer s H vs Q E hr h=>?_)
 ·obtain⟨p,lv,b,t,bs,st,st',v,rfl,_⟩:=h;rfl
 ·obtain⟨p,lv,b,t,bs,st,st',v,rfl,ht,hv,hb,hok,hst,q⟩:=h
  refine⟨_,(z0b (ps_if (z0k op_eq (pe_ix ix_tup (pv 0) z0i (fun _ _=>rfl)) z1g (z0p _))
 (z0e (z0o (pe_ix ix_list (pv 2) (pe_op y6d (pe_ix ix_tup (pv 0) z0i (fun _ _=>rfl)) z0i) (fun _ _=>rfl))))
 z0q)
 (z0b (z0n (i:=3) sc_value_of.nd rfl (Or.inl rfl) (z4d PySem.F.plainAttrs_list PySem.F.slot_list_pop PySem.F.type_list_pop z4e (pv 1)))
 (z0b (ps_if (z0k op_eq (pe_ix ix_tup (pv 0) z0i (fun _ _=>rfl)) z1g (z0p _))
 (z0e (z0o (y6a (pv 3))))
 z0q)
 (z0b (z0n (i:=4) sc_value_of.nd rfl (Or.inl rfl) (z4d PySem.F.plainAttrs_list PySem.F.slot_list_pop PySem.F.type_list_pop z4e (pv 1)))
 (z0b (ps_if (z0k op_eq (pe_ix ix_tup (pv 0) z0i (fun _ _=>rfl)) z1g (z0p _))
 (z0e (z0o (y2y (pv 4) (z8a (pv 3)))))
 z0q)
 (z0b (ps_if (z0k op_eq (pe_ix ix_tup (pv 0) z0i (fun _ _=>rfl)) z1g (z0p _))
 (z0e (z0o (pe_or (pv 4) (z8a (pv 3)))))
 z0q)
 (z0e (z0o (z6e op_eq (pv 4) (pv 3) (z0p _)))))))))),?_⟩
  have tk:∀ {Hy:Hp} {o:HO} {ys:List V},Hy lv=some (.lst ys)->∀ {a:Addr} {xs:List V},Hy a=some (.tup xs)->upd Hy lv o a=some (.tup xs):=fun {Hy o ys} hl {a xs} h=>by rw[z0g (ne_of h hl (by intro z;cases z))];exact h
  cases t with
  | lamp k =>
   have hk:H p=some (.tup [.str "lamp",.int k]):=ht
   have e:bs.getD (k - 1) false=v/\st=st':=by
    have:=Option.some.inj hst
    exact⟨congrArg (·.1) this,congrArg (·.2) this⟩
   refine⟨_,rfl,p,_,_,_,rfl,rfl,qTo hk,rfl,rfl,_,rfl,iteT ?_⟩
   have hat:atI (bs.map V.bl) ((k:Int) - 1)=some (.bl v):=by
    have e1:(k:Int) - 1=((k - 1:Nat):Int):=by have:=hok.1;omega
    rw[e1]
    refine z4f ?_
    have h2:k - 1 < bs.length:=by have:=hok.1;have:=hok.2;omega
    rw[←e.1];simp[h2]
   refine⟨_,rfl,_,rfl,p,_,_,_,rfl,rfl,qTo hk,rfl,_,_,rfl,rfl,b,_,_,_,rfl,rfl,hb,hat,?_⟩
   exact q H (fun _ _ _ h=>h) (by rw[←e.2];exact hv)
  | non s1 =>
   obtain⟨c,hc,_⟩:=ht
   cases st with
   | nil=>cases hst
   | cons x st =>
    have e:(!x)=v/\st=st':=by
     have:=Option.some.inj hst
     exact⟨congrArg (·.1) this,congrArg (·.2) this⟩
    refine⟨_,rfl,p,_,_,_,rfl,rfl,qTo hc,rfl,rfl,_,rfl,iteF ?_⟩
    have ev:((x::st).reverse.map V.bl)=st.reverse.map V.bl++[V.bl x]:=by simp
    rw[ev]at hv
    refine⟨_,rfl,.inl ⟨rfl,_,qLo hv⟩,lv,_,.bl x,rfl,rfl,hv,by simp,?_⟩
    have ed:(st.reverse.map V.bl++[V.bl x]).dropLast=st.reverse.map V.bl:=by simp
    dsimp only
    rw[ed]
    have hc1:=tk (o:=.lst (st.reverse.map V.bl)) hv hc
    refine⟨_,rfl,p,_,_,_,rfl,rfl,qTo hc1,rfl,rfl,_,rfl,iteT ?_⟩
    refine⟨_,rfl,_,rfl,?_⟩
    rw[e.1]
    exact q _ (fun z o n h=>by rw[z0g n];exact h) (by rw[z0c,e.2])
  | two wd s1 s2 =>
   obtain⟨c,d,hc,_,_⟩:=ht
   cases st with
   | nil=>cases hst
   | cons y st =>
    cases st with
    | nil=>cases hst
    | cons x st =>
     have e:opW wd x y=v/\st=st':=by
      have:=Option.some.inj hst
      exact⟨congrArg (·.1) this,congrArg (·.2) this⟩
     have nl:¬ V.str wd.str=V.str "lamp":=by cases wd<;>(intro z;revert z;decide +kernel)
     have nn:¬ V.str wd.str=V.str "not":=by cases wd<;>(intro z;revert z;decide +kernel)
     refine⟨_,rfl,p,_,_,_,rfl,rfl,qTo hc,rfl,rfl,_,rfl,ite2 (fun z=>absurd (of_decide_eq_true z) nl) (fun _=>?_)⟩
     have ev:((y::x::st).reverse.map V.bl)=(x::st).reverse.map V.bl++[V.bl y]:=by simp
     rw[ev]at hv
     refine⟨_,rfl,.inl ⟨rfl,_,qLo hv⟩,lv,_,.bl y,rfl,rfl,hv,by simp,?_⟩
     have ed:((x::st).reverse.map V.bl++[V.bl y]).dropLast=st.reverse.map V.bl++[V.bl x]:=by simp
     dsimp only
     rw[ed]
     have hc1:=tk (o:=.lst (st.reverse.map V.bl++[V.bl x])) hv hc
     have hv1:upd H lv (.lst (st.reverse.map V.bl++[V.bl x])) lv=some (.lst (st.reverse.map V.bl++[V.bl x])):=z0c
     have k1:∀ z o,z≠lv->H z=some o->upd H lv (.lst (st.reverse.map V.bl++[V.bl x])) z=some o:=fun z o n h=>by rw[z0g n];exact h
     generalize upd H lv (.lst (st.reverse.map V.bl++[V.bl x]))=H1 at hc1 hv1 k1
     refine⟨_,rfl,p,_,_,_,rfl,rfl,qTo hc1,rfl,rfl,_,rfl,ite2 (fun z=>absurd (of_decide_eq_true z) nn) (fun _=>?_)⟩
     refine⟨_,rfl,.inl ⟨rfl,_,qLo hv1⟩,lv,_,.bl x,rfl,rfl,hv1,by simp,?_⟩
     have ed2:(st.reverse.map V.bl++[V.bl x]).dropLast=st.reverse.map V.bl:=by simp
     dsimp only
     rw[ed2]
     have hc2:=tk (o:=.lst (st.reverse.map V.bl)) hv1 hc1
     have fin:Q (.bl v) (upd H1 lv (.lst (st.reverse.map V.bl))):=q _ (fun z o n h=>by rw[z0g n];exact k1 z o n h) (by rw[z0c,e.2])
     cases wd with
     | and =>
      refine⟨_,rfl,p,_,_,_,rfl,rfl,qTo hc2,rfl,rfl,_,rfl,iteT ?_⟩
      refine⟨_,rfl,_,rfl,?_⟩
      cases x with
      | true =>
       refine iteT ⟨_,rfl,?_⟩
       have:v=y:=by rw[←e.1];rfl
       rw[←this];exact fin
      | false =>
       refine iteF ?_
       have:v=false:=by rw[←e.1];rfl
       rw[←this];exact fin
     | or =>
      refine⟨_,rfl,p,_,_,_,rfl,rfl,qTo hc2,rfl,rfl,_,rfl,iteF ?_⟩
      refine⟨_,rfl,p,_,_,_,rfl,rfl,qTo hc2,rfl,rfl,_,rfl,iteT ?_⟩
      refine⟨_,rfl,_,rfl,?_⟩
      cases x with
      | true =>
       refine iteT ?_
       have:v=true:=by rw[←e.1];rfl
       rw[←this];exact fin
      | false =>
       refine iteF ⟨_,rfl,?_⟩
       have:v=y:=by rw[←e.1];rfl
       rw[←this];exact fin
     | same =>
      refine⟨_,rfl,p,_,_,_,rfl,rfl,qTo hc2,rfl,rfl,_,rfl,iteF ?_⟩
      refine⟨_,rfl,p,_,_,_,rfl,rfl,qTo hc2,rfl,rfl,_,rfl,iteF ?_⟩
      refine⟨_,rfl,_,rfl,rfl,?_⟩
      have:decide (V.bl x=V.bl y)=v:=by rw[←e.1];cases x<;>cases y<;>rfl
      rw[this];exact fin
theorem x1v (B:Blt mg) (c_inner_first:Cal P w K mg base 1 "inner_first" z2d (y3x K)) (c_value_of:Cal P w K mg base 1 "value_of" z4i (y1b K)) (Df:Def K mg "true_in" z4q z6j):Cal P w K mg base 2 "true_in" z6j (y9j K):=by
 refine Df.cal sc_true_in (fun vs H Q E h=>?_) (fun f cdv A outer s H vs Q E hr h=>?_)
 ·obtain⟨a,b,s,bs,rfl,_⟩:=h;rfl
 ·obtain⟨a,b,s0,bs,rfl,ha,hb,hok,hz,q⟩:=h
  refine⟨_,(z0b (z0n (i:=2) sc_true_in.nd rfl (Or.inl rfl) (z0u z0d))
 (z0b (z4c PassesOwn.never rfl (z1u (z1d c_inner_first hr (by decide) (z0a (pv 0) z0d))) (z1l (i:=3) sc_true_in.nd rfl (Or.inl rfl))
 (z0e (z0r (pe_bm PySem.F.plainAttrs_list PySem.F.slot_list_append PySem.F.type_list_append z0z (pv 2) (z0a (z1d c_value_of hr (by decide) (z0a (pv 3) (z0a (pv 2) (z0a (pv 1) z0d)))) z0d)))))
 (z0e (z0o (pe_ix ix_list (pv 2) z0i (fun _ _=>rfl)))))),?_⟩
  refine⟨by decide,fun lv hlv=>?_⟩
  have s1:Same H (upd H lv (.lst [])):=(smR H).upd hlv
  have g1:upd H lv (.lst []) lv=some (.lst (([]:List Bool).reverse.map V.bl)):=z0c
  generalize upd H lv (.lst [])=H1 at s1 g1
  refine⟨_,rfl,a,s0,rfl,ha.same s1,hz,fun l ps H2 s2 hl h2 hO2 hps=>⟨l,rfl,⟨_,qLo h2⟩,?_⟩⟩
  have s02:=s1.trans s2
  have nlv:l≠lv:=fun e=>by rw[e,g1]at hl;cases hl
  have nb:b≠lv:=z0h hb hlv
  have hrun:=z8m bs s0 [] []
  rw[List.append_nil]at hrun
  refine z6k (K:=K) (a:=l) (xs:=prefs ps) (fun i σ Hx=>∃ (st:List Bool) (v:Option V),σ=[some (.ref a),some (.ref b),some (.ref lv),v]/\Same H Hx/\Hx l=some (.lst (prefs ps))/\PsOk Hx ps/\Hx lv=some (.lst (st.reverse.map V.bl))/\runV bs ((post s0).take i) []=some st/\st.length<=i)
   ⟨[],none,rfl,s02,h2,hO2,s2 _ _ g1,rfl,Nat.le_refl _⟩ (fun i σ Hx _ ⟨_,_,_,_,e,_⟩=>qLo e) ?_ ?_
  ·rintro i y σ Hx N B' hi ⟨st,v,rfl,sx,hxl,hOx,hxv,hr1,hlen⟩ hN
   obtain⟨p,hpi,rfl⟩:=getV (f:=fun p:Pt=>V.ref p.1) hi
   have hpm:=List.mem_of_getElem? hpi
   have hpo:(post s0)[i]?=some p.2:=by rw[←hps,List.getElem?_map,hpi];rfl
   have hil:i < (post s0).length:=(List.getElem?_eq_some_iff.mp hpo).1
   have etk:(post s0).take (i+1)=(post s0).take i++[p.2]:=by rw[List.take_add_one,hpo];rfl
   have hall:runV bs (post s0) []=some [valS bs s0]:=hrun
   have hsplit:post s0=(post s0).take i++(p.2::(post s0).drop (i+1)):=by
    have h1:=List.take_append_drop (i+1) (post s0)
    rw[etk,List.append_assoc]at h1
    exact h1.symm
   rw[hsplit,y4e,hr1]at hall
   have hstep:∃ v st',stepV bs p.2 st=some (v,st'):=by
    have h2:(match stepV bs p.2 st with
     | some (v,st')=>runV bs ((post s0).drop (i+1)) (v::st')
     | none=>none)=some [valS bs s0]:=hall
    cases h3:stepV bs p.2 st with
    | none=>rw[h3]at h2;cases h2
    | some q'=>exact⟨q'.1,q'.2,rfl⟩
   obtain⟨v',st',hst⟩:=hstep
   have hst'l:st'.length<=st.length:=by
    exact x3a hst
   refine⟨_,rfl,.inl ⟨rfl,_,qLo hxv⟩,_,rfl,_,rfl,_,rfl,p.1,lv,b,p.2,bs,st,st',v',rfl,hOx p hpm,hxv,qLo (sx _ _ hb),y0t hok p.2 (List.mem_of_getElem? hpo),hst,fun H3 k3 h3v=>?_⟩
   have hxv':∃ o,Hx lv=some o:=⟨_,hxv⟩
   have s3:Same H H3:=fun z o h=>k3 z o (z0h h hlv) (sx _ _ h)
   have hl3:=k3 l _ nlv hxl
   have hO3:PsOk H3 ps:=hOx.tups fun a xs h=>k3 a _ (ne_of h hxv (by intro z;cases z)) h
   refine⟨lv,_,_,rfl,rfl,h3v,z1r (by simp;omega),?_⟩
   refine hN _ _ ⟨v'::st',_,rfl,s3.upd hlv,by rw[z0g nlv];exact hl3,hO3.tups fun a xs h=>by rw[z0g (ne_of h h3v (by intro z;cases z))];exact h,by rw[z0c];simp,?_,by simp;omega⟩
   rw[etk,y4e,hr1]
   show (match stepV bs p.2 st with
    | some (v,st')=>runV bs [] (v::st')
    | none=>none)=_
   rw[hst];rfl
  ·rintro σ Hx ⟨st,v,rfl,sx,hxl,hOx,hxv,hr1,_⟩
   have e1:(post s0).take (prefs ps).length=post s0:=by
    have:(prefs ps).length=(post s0).length:=by rw[←hps];simp[prefs]
    rw[this,List.take_length]
   rw[e1,hrun]at hr1
   have e2:st=[valS bs s0]:=(Option.some.inj hr1).symm
   rw[e2]at hxv
   exact⟨_,rfl,lv,_,_,_,rfl,rfl,qLo hxv,rfl,q _ sx⟩
end
theorem WsOk.new {H:Hp} {ws:List Wr} {p:Addr} {v:List Int} {xs:List V} (e:xs=v.map V.int) (hO:WsOk H ws) (hp:H p=none):WsOk (upd H p (.lst xs)) (ws++[(p,v)]):=fun r hr=>by
 rcases mApp hr with z | z
 ·rw[z0g (z0h (hO r z) hp)];exact hO r z
 ·have:r=(p,v):=by simpa using z
  rw[this,z0c,e]
def z9h:Sp:=fun vs H Q _=>∃ (wd:Wd) (own one two:Int),vs=[.str wd.str,.int own,.int one,.int two]/\∀ (l:Addr) (ws:List Wr) (H':Hp),Same H H'->H l=none->H' l=some (.lst (wrefs ws))->WsOk H' ws->(∀ r∈ws,H r.1=none)->wl ws=wishW wd own one two->Q (.ref l) H'
structure Laid (H H':Hp) (ws:List Wr):Prop where
 sm:Same H H'
 ok:WsOk H' ws
 nw:∀ r∈ws,H r.1=none
theorem Laid.new {H H':Hp} {ws:List Wr} (h:Laid H H' ws) {p:Addr} {v:List Int} {xs:List V} (e:xs=v.map V.int) (hp:H' p=none):Laid H (upd H' p (.lst xs)) (ws++[(p,v)]) :=
 ⟨h.sm.trans ((smR H').upd hp),h.ok.new e hp,fun r hr=>by
  rcases mApp hr with z | z
  ·exact h.nw r z
  ·have:r=(p,v):=by simpa using z
   rw[this];exact h.sm.free hp⟩
theorem Laid.zero (H:Hp):Laid H H []:=⟨smR H,(fun _ h=>nomatch h),(fun _ h=>nomatch h)⟩
theorem len3:(3:Nat)<=sizeLine:=by decide
theorem len4:(4:Nat)<=sizeLine:=by decide
section
variable {P:Program} {w:World} {K:W.Frag} {mg:Str->Option Value} {base:Heap}
theorem y6e (Df:Def K mg "wishes_of" z2w z3r):Cal P w K mg base 1 "wishes_of" z3r z9h:=by
 refine Df.cal y5q (fun vs H Q E h=>?_) (fun f cdv A outer s H vs Q E hr h=>?_)
 ·obtain⟨wd,own,one,two,rfl,_⟩:=h;rfl
 ·obtain⟨wd,own,one,two,rfl,q⟩:=h
  refine⟨_,(z0b (ps_if (z0k op_eq (pv 0) z1g (z0p _))
 (z0e (z0o (z0u (z0a (z0u (z0a (pe_un z1c (pv 1)) (z0a (pv 2) z0d))) (z0a (z0u (z0a (pe_un z1c (pv 1)) (z0a (pv 3) z0d))) (z0a (z0u (z0a (pv 1) (z0a (pe_un z1c (pv 2)) (z0a (pe_un z1c (pv 3)) z0d)))) z0d))))))
 z0q)
 (z0b (ps_if (z0k op_eq (pv 0) z1g (z0p _))
 (z0e (z0o (z0u (z0a (z0u (z0a (pv 1) (z0a (pe_un z1c (pv 2)) z0d))) (z0a (z0u (z0a (pv 1) (z0a (pe_un z1c (pv 3)) z0d))) (z0a (z0u (z0a (pe_un z1c (pv 1)) (z0a (pv 2) (z0a (pv 3) z0d)))) z0d))))))
 z0q)
 (z0e (z0o (z0u (z0a (z0u (z0a (pe_un z1c (pv 1)) (z0a (pe_un z1c (pv 2)) (z0a (pv 3) z0d)))) (z0a (z0u (z0a (pe_un z1c (pv 1)) (z0a (pv 2) (z0a (pe_un z1c (pv 3)) z0d)))) (z0a (z0u (z0a (pv 1) (z0a (pv 2) (z0a (pv 3) z0d)))) (z0a (z0u (z0a (pv 1) (z0a (pe_un z1c (pv 2)) (z0a (pe_un z1c (pv 3)) z0d)))) z0d))))))))),?_⟩
  have fin:∀ {Hx:Hp} {ws:List Wr} {l:Addr} {xs:List V},Laid H Hx ws->Hx l=none->xs=wrefs ws->wl ws=wishW wd own one two->Q (.ref l) (upd Hx l (.lst xs)):=fun {Hx ws l xs} h hl e ew=>by
   have s1:Same Hx (upd Hx l (.lst xs)):=(smR Hx).upd hl
   exact q l ws _ (h.sm.trans s1) (h.sm.free hl) (by rw[z0c,e]) (h.ok.mono s1) h.nw ew
  cases wd with
  | and =>
   refine⟨_,rfl,rfl,_,rfl,iteT ?_⟩
   refine⟨_,rfl,_,rfl,_,rfl,len2,fun p1 h1=>?_⟩
   have L1:=(Laid.zero H).new (v:=[-own,one]) rfl h1
   refine⟨_,rfl,_,rfl,_,rfl,len2,fun p2 h2=>?_⟩
   have L2:=L1.new (v:=[-own,two]) rfl h2
   refine⟨_,rfl,_,rfl,_,rfl,_,rfl,_,rfl,len3,fun p3 h3=>?_⟩
   have L3:=L2.new (v:=[own,-one,-two]) rfl h3
   exact⟨len3,fun l hl=>fin L3 hl rfl rfl⟩
  | or =>
   refine⟨_,rfl,rfl,_,rfl,iteF ?_⟩
   refine⟨_,rfl,rfl,_,rfl,iteT ?_⟩
   refine⟨_,rfl,_,rfl,_,rfl,len2,fun p1 h1=>?_⟩
   have L1:=(Laid.zero H).new (v:=[own,-one]) rfl h1
   refine⟨_,rfl,_,rfl,_,rfl,len2,fun p2 h2=>?_⟩
   have L2:=L1.new (v:=[own,-two]) rfl h2
   refine⟨_,rfl,_,rfl,_,rfl,_,rfl,len3,fun p3 h3=>?_⟩
   have L3:=L2.new (v:=[-own,one,two]) rfl h3
   exact⟨len3,fun l hl=>fin L3 hl rfl rfl⟩
  | same =>
   refine⟨_,rfl,rfl,_,rfl,iteF ?_⟩
   refine⟨_,rfl,rfl,_,rfl,iteF ?_⟩
   refine⟨_,rfl,_,rfl,_,rfl,_,rfl,_,rfl,len3,fun p1 h1=>?_⟩
   have L1:=(Laid.zero H).new (v:=[-own,-one,two]) rfl h1
   refine⟨_,rfl,_,rfl,_,rfl,_,rfl,_,rfl,len3,fun p2 h2=>?_⟩
   have L2:=L1.new (v:=[-own,one,-two]) rfl h2
   refine⟨_,rfl,_,rfl,_,rfl,len3,fun p3 h3=>?_⟩
   have L3:=L2.new (v:=[own,one,two]) rfl h3
   refine⟨_,rfl,_,rfl,_,rfl,_,rfl,_,rfl,len3,fun p4 h4=>?_⟩
   have L4:=L3.new (v:=[own,-one,-two]) rfl h4
   exact⟨len4,fun l hl=>fin L4 hl rfl rfl⟩
structure ShI (c:Nat) (s0:Stt) (i:Nat) (x:Sh) (ws:List Wr) (lw ll:Addr) (H Hx:Hp):Prop where
 sm:Same H Hx
 hw:Hx lw=some (.lst (wrefs ws))
 hl:Hx ll=some (.lst (x.st.reverse.map V.int))
 ok:WsOk Hx ws
 nw:∀ r∈ws,r.1≠lw/\r.1≠ll
 ew:wl ws=x.W
 run:runL ((post s0).take i) ⟨[],[],c⟩=some x
 sl:x.st.length<=i
 wn:ws.length<=4 * i
 pn:x.p<=c+i
theorem x7b {s0:Stt} {c i:Nat} {x:Sh} {p:Stt} (hr:runL ((post s0).take i) ⟨[],[],c⟩=some x) (hp:(post s0)[i]?=some p):∃ x',stepL p x=some x'/\runL ((post s0).take (i+1)) ⟨[],[],c⟩=some x':=by
 have etk:(post s0).take (i+1)=(post s0).take i++[p]:=by rw[List.take_add_one,hp];rfl
 have hsplit:post s0=(post s0).take i++(p::(post s0).drop (i+1)):=by
  have h1:=List.take_append_drop (i+1) (post s0)
  rw[etk,List.append_assoc]at h1
  exact h1.symm
 have hall:=z6f s0 [] ⟨[],[],c⟩
 rw[List.append_nil,hsplit,y4f,hr]at hall
 cases h3:stepL p x with
 | none =>
  have h2:(stepL p x).bind (runL ((post s0).drop (i+1)))=some _:=hall
  rw[h3]at h2;cases h2
 | some x' =>
  refine⟨x',rfl,?_⟩
  rw[etk,y4f,hr]
  show (stepL p x).bind (runL [])=_
  rw[h3];rfl
def y1c (K:W.Frag):Sp:=fun vs H Q _=>∃ (c:Nat) (a:Addr) (s:Stt),vs=[.int c,.ref a]/\SAt H s a/\(post s).length<=10000/\c<=1000 /\
 ∀ (t lw ll:Addr) (ws:List Wr) (H':Hp),Same H H'->H t=none->H' t=some (.tup [.int (enc s c).2.2,.ref lw])->H' lw=some (.lst (wrefs (ws++[(ll,[(enc s c).1])])))->WsOk H' (ws++[(ll,[(enc s c).1])])->wl ws=(enc s c).2.1->(∀ r∈ws++[(ll,[(enc s c).1])],r.1≠lw)->H lw=none->ws.length<=4 * (post s).length->Q (.ref t) H'
theorem y8k (B:Blt mg) (c_inner_first:Cal P w K mg base 1 "inner_first" z2d (y3x K)) (c_wishes_of:Cal P w K mg base 1 "wishes_of" z3r z9h) (Df:Def K mg "sheet_of" z3y z4k):Cal P w K mg base 2 "sheet_of" z4k (y1c K):=by
 refine Df.cal sc_sheet_of (fun vs H Q E h=>?_) (fun f cdv A outer s H vs Q E hr h=>?_)
 ·obtain⟨c,a,s,rfl,_⟩:=h;rfl
 ·obtain⟨c,a,s0,rfl,ha,hz,hc,q⟩:=h
  refine⟨_,(z0b (z0n (i:=2) sc_sheet_of.nd rfl (Or.inl rfl) (pv 0))
 (z0b (z0n (i:=3) sc_sheet_of.nd rfl (Or.inl rfl) (z0u z0d))
 (z0b (z0n (i:=4) sc_sheet_of.nd rfl (Or.inl rfl) (z0u z0d))
 (z0b (z4c PassesOwn.never rfl (z1u (z1d c_inner_first hr (by decide) (z0a (pv 1) z0d))) (z1l (i:=5) sc_sheet_of.nd rfl (Or.inl rfl))
 (z0e (ps_if (z0k op_eq (pe_ix ix_tup (pv 5) z0i (fun _ _=>rfl)) z1g (z0p _))
 (z0e (z0r (pe_bm PySem.F.plainAttrs_list PySem.F.slot_list_append PySem.F.type_list_append z0z (pv 4) (z0a (pe_ix ix_tup (pv 5) z0i (fun _ _=>rfl)) z0d))))
 (z0e (ps_if (z0k op_eq (pe_ix ix_tup (pv 5) z0i (fun _ _=>rfl)) z1g (z0p _))
 (z0e (z0r (pe_bm PySem.F.plainAttrs_list PySem.F.slot_list_append PySem.F.type_list_append z0z (pv 4) (z0a (pe_un z1c (z4d PySem.F.plainAttrs_list PySem.F.slot_list_pop PySem.F.type_list_pop z4e (pv 4))) z0d))))
 (z0b (z0n (i:=6) sc_sheet_of.nd rfl (Or.inl rfl) (z4d PySem.F.plainAttrs_list PySem.F.slot_list_pop PySem.F.type_list_pop z4e (pv 4)))
 (z0b (z0n (i:=7) sc_sheet_of.nd rfl (Or.inl rfl) (z4d PySem.F.plainAttrs_list PySem.F.slot_list_pop PySem.F.type_list_pop z4e (pv 4)))
 (z0b (w1n (i:=2) sc_sheet_of.nd rfl (Or.inl rfl) z0i x9c)
 (z0b (z0r (pe_bm PySem.F.plainAttrs_list PySem.F.slot_list_extend PySem.F.type_list_extend z2r (pv 3) (z0a (z1d c_wishes_of hr (by decide) (z0a (pe_ix ix_tup (pv 5) z0i (fun _ _=>rfl)) (z0a (pv 2) (z0a (pv 7) (z0a (pv 6) z0d))))) z0d)))
 (z0e (z0r (pe_bm PySem.F.plainAttrs_list PySem.F.slot_list_append PySem.F.type_list_append z0z (pv 4) (z0a (pv 2) z0d)))))))))))))
 (z0b (z0r (pe_bm PySem.F.plainAttrs_list PySem.F.slot_list_append PySem.F.type_list_append z0z (pv 3) (z0a (pv 4) z0d)))
 (z0e (z0o (z2m (z0a (pv 2) (z0a (pv 3) z0d)))))))))),?_⟩
  refine⟨_,rfl,by decide,fun lw hlw=>?_⟩
  have s1:Same H (upd H lw (.lst [])):=(smR H).upd hlw
  have g1:upd H lw (.lst []) lw=some (.lst (wrefs [])):=z0c
  generalize upd H lw (.lst [])=H1 at s1 g1
  refine⟨by decide,fun ll hll=>?_⟩
  have s2:Same H1 (upd H1 ll (.lst [])):=(smR H1).upd hll
  have g2:upd H1 ll (.lst []) ll=some (.lst (([]:List Int).reverse.map V.int)):=z0c
  have nwl:lw≠ll:=z0h g1 hll
  generalize upd H1 ll (.lst [])=H2 at s2 g2
  have s02:=s1.trans s2
  have hllH:H ll=none:=s1.free hll
  refine⟨_,rfl,a,s0,rfl,ha.same s02,by omega,fun l ps H3 s3 hl h3 hO3 hps=>⟨l,rfl,⟨_,qLo h3⟩,?_⟩⟩
  have nlw:l≠lw:=fun e=>by rw[e,s2 _ _ g1]at hl;cases hl
  have nll:l≠ll:=fun e=>by rw[e,g2]at hl;cases hl
  have el:(prefs ps).length=(post s0).length:=by rw[←hps];simp[prefs]
  refine z6k (K:=K) (a:=l) (xs:=prefs ps) (fun i σ Hx=>∃ (x:Sh) (ws:List Wr) (v5 v6 v7:Option V),σ=[some (.int c),some (.ref a),some (.int x.p),some (.ref lw),some (.ref ll),v5,v6,v7]/\Hx l=some (.lst (prefs ps))/\PsOk Hx ps/\ShI c s0 i x ws lw ll H Hx)
   ⟨⟨[],[],c⟩,[],none,none,none,rfl,h3,hO3,s02.trans s3,s3 _ _ (s2 _ _ g1),s3 _ _ g2,(fun _ h=>nomatch h),(fun _ h=>nomatch h),rfl,rfl,Nat.le_refl _,Nat.zero_le _,Nat.le_refl _⟩ (fun i σ Hx _ ⟨_,_,_,_,_,_,e,_⟩=>qLo e) ?_ ?_
  ·rintro i y σ Hx N B' hi ⟨x,ws,v5,v6,v7,rfl,hxl,hOx,hI⟩ hN
   obtain⟨p,hpi,rfl⟩:=getV (f:=fun p:Pt=>V.ref p.1) hi
   have hpm:=List.mem_of_getElem? hpi
   have hpo:(post s0)[i]?=some p.2:=by rw[←hps,List.getElem?_map,hpi];rfl
   have hil:i < (post s0).length:=(List.getElem?_eq_some_iff.mp hpo).1
   obtain⟨x',hst,hrun⟩:=x7b hI.run hpo
   have hp:=hOx p hpm
   obtain⟨x_st,x_W,x_p⟩:=x
   have hsl:x_st.length<=i:=hI.sl
   have hpn:x_p<=c+i:=hI.pn
   have hxll:Hx ll=some (.lst (x_st.reverse.map V.int)):=hI.hl
   have tupL:∀ {Hy:Hp} {o:HO} {z:Addr} {ys:List V},Hy z=some (.lst ys)->∀ a xs,Hy a=some (.tup xs)->upd Hy z o a=some (.tup xs):=fun {Hy o z ys} hl a xs h=>by rw[z0g (ne_of h hl (by intro q;cases q))];exact h
   have letters:∀ {st':List Int} {Hy:Hp},(∀ z o,z≠ll->Hx z=some o->Hy z=some o)->Hy ll=some (.lst (st'.reverse.map V.int))->x'=⟨st',x_W,x_p⟩->st'.length<=i+1->∀ v5,N [some (.int c),some (.ref a),some (.int x_p),some (.ref lw),some (.ref ll),v5,v6,v7] Hy:=fun {st' Hy} k1 k2 e hl' v5=>by
    subst e
    exact hN _ _ ⟨⟨st',x_W,x_p⟩,ws,v5,v6,v7,rfl,k1 _ _ nll hxl,hOx.tups fun a xs h=>k1 _ _ (ne_of h hxll (by intro q;cases q)) h,fun b o h=>k1 _ _ (z0h h hllH) (hI.sm _ _ h),k1 _ _ nwl hI.hw,k2,fun r hr=>k1 _ _ (hI.nw r hr).2 (hI.ok r hr),hI.nw,hI.ew,hrun,hl',by have:=hI.wn;omega,by show x_p<=c+(i+1);omega⟩
   obtain⟨pa,pt⟩:=p
   cases pt with
   | lamp k =>
    have hk:Hx pa=some (.tup [.str "lamp",.int k]):=hp
    refine⟨_,rfl,pa,_,_,_,rfl,rfl,qTo hk,rfl,rfl,_,rfl,iteT ?_⟩
    refine⟨_,rfl,.inl ⟨rfl,_,qLo hxll⟩,_,rfl,pa,_,_,_,rfl,rfl,qTo hk,rfl,ll,_,_,rfl,rfl,hxll,z1r (by simp;omega),?_⟩
    exact letters (st':=(k:Int)::x_st) (fun z o n h=>by rw[z0g n];exact h) (by rw[z0c];simp) (Option.some.inj hst).symm (by simp;omega) _
   | non s1 =>
    obtain⟨b,hb,_⟩:=hp
    cases x_st with
    | nil=>cases hst
    | cons l0 st =>
     have er:((l0::st).reverse.map V.int)=st.reverse.map V.int++[V.int l0]:=by simp
     rw[er]at hxll
     refine⟨_,rfl,pa,_,_,_,rfl,rfl,qTo hb,rfl,rfl,_,rfl,iteF ?_⟩
     refine⟨_,rfl,pa,_,_,_,rfl,rfl,qTo hb,rfl,rfl,_,rfl,iteT ?_⟩
     refine⟨_,rfl,.inl ⟨rfl,_,qLo hxll⟩,_,rfl,.inl ⟨rfl,_,qLo hxll⟩,ll,_,.int l0,rfl,rfl,hxll,by simp,_,rfl,?_⟩
     have ed:(st.reverse.map V.int++[V.int l0]).dropLast=st.reverse.map V.int:=by simp
     dsimp only
     rw[ed]
     refine⟨ll,_,_,rfl,rfl,z0c,z1r (by simp at hsl ⊢;omega),?_⟩
     exact letters (st':=-l0::st) (fun z o n h=>by rw[z0g n,z0g n];exact h) (by rw[z0c];simp) (Option.some.inj hst).symm (by simp at hsl ⊢;omega) _
   | two wd s1 s2 =>
    obtain⟨b,d,hb,_,_⟩:=hp
    have nl:¬ V.str wd.str=V.str "lamp":=by cases wd<;>(intro z;revert z;decide +kernel)
    have nn:¬ V.str wd.str=V.str "not":=by cases wd<;>(intro z;revert z;decide +kernel)
    cases x_st with
    | nil=>cases hst
    | cons y0 st =>
     cases st with
     | nil=>cases hst
     | cons x0 st =>
      have ex':x'=⟨((x_p+1:Nat):Int)::st,x_W++wishW wd ((x_p+1:Nat):Int) x0 y0,x_p+1⟩:=(Option.some.inj hst).symm
      have er:((y0::x0::st).reverse.map V.int)=(x0::st).reverse.map V.int++[V.int y0]:=by simp
      rw[er]at hxll
      refine⟨_,rfl,pa,_,_,_,rfl,rfl,qTo hb,rfl,rfl,_,rfl,ite2 (fun z=>absurd (of_decide_eq_true z) nl) (fun _=>?_)⟩
      refine⟨_,rfl,pa,_,_,_,rfl,rfl,qTo hb,rfl,rfl,_,rfl,ite2 (fun z=>absurd (of_decide_eq_true z) nn) (fun _=>?_)⟩
      refine⟨_,rfl,.inl ⟨rfl,_,qLo hxll⟩,ll,_,.int y0,rfl,rfl,hxll,by simp,?_⟩
      have ed:((x0::st).reverse.map V.int++[V.int y0]).dropLast=st.reverse.map V.int++[V.int x0]:=by simp
      dsimp only
      rw[ed]
      have k4:∀ z o,z≠ll->Hx z=some o->upd Hx ll (.lst (st.reverse.map V.int++[V.int x0])) z=some o:=fun z o n h=>by rw[z0g n];exact h
      have g4:upd Hx ll (.lst (st.reverse.map V.int++[V.int x0])) ll=some (.lst (st.reverse.map V.int++[V.int x0])):=z0c
      generalize upd Hx ll (.lst (st.reverse.map V.int++[V.int x0]))=H4 at k4 g4
      refine⟨_,rfl,.inl ⟨rfl,_,qLo g4⟩,ll,_,.int x0,rfl,rfl,g4,by simp,?_⟩
      have ed2:(st.reverse.map V.int++[V.int x0]).dropLast=st.reverse.map V.int:=by simp
      dsimp only
      rw[ed2]
      have k5:∀ z o,z≠ll->Hx z=some o->upd H4 ll (.lst (st.reverse.map V.int)) z=some o:=fun z o n h=>by rw[z0g n];exact k4 z o n h
      have g5:upd H4 ll (.lst (st.reverse.map V.int)) ll=some (.lst (st.reverse.map V.int)):=z0c
      generalize upd H4 ll (.lst (st.reverse.map V.int))=H5 at k5 g5
      refine⟨_,rfl,_,_,rfl,rfl,?_⟩
      have elp:((x_p:Int)+1)=((x_p+1:Nat):Int):=by omega
      dsimp only
      rw[elp]
      have h5w:=k5 _ _ nwl hI.hw
      have hb5:=k5 pa _ (ne_of hb hxll (by intro q;cases q)) hb
      refine⟨_,rfl,.inl ⟨rfl,_,qLo h5w⟩,_,rfl,pa,_,_,_,rfl,rfl,qTo hb5,rfl,_,rfl,_,rfl,_,rfl,wd,((x_p+1:Nat):Int),x0,y0,rfl,fun l6 us H6 s6 hl6 h6 hO6 hn6 ewu=>?_⟩
      have h6w:=s6 _ _ h5w
      have hul:us.length<=4:=by
       have:us.length=(wishW wd ((x_p+1:Nat):Int) x0 y0).length:=by rw[←ewu,z4a]
       rw[this];cases wd<;>simp[wishW]
      have hwn:=hI.wn
      refine⟨lw,l6,_,_,rfl,rfl,h6w,.inl h6,z1o (by rw[z2l,z2l];omega),?_⟩
      have ewr:wrefs ws++wrefs us=wrefs (ws++us):=by simp[wrefs]
      dsimp only
      rw[ewr]
      have k7:∀ z o,z≠ll->z≠lw->Hx z=some o->upd H6 lw (.lst (wrefs (ws++us))) z=some o:=fun z o n n2 h=>by rw[z0g n2];exact s6 _ _ (k5 z o n h)
      have g7:upd H6 lw (.lst (wrefs (ws++us))) lw=some (.lst (wrefs (ws++us))):=z0c
      have h7l:upd H6 lw (.lst (wrefs (ws++us))) ll=some (.lst (st.reverse.map V.int)):=by rw[z0g nwl.symm];exact s6 _ _ g5
      have hO7:WsOk (upd H6 lw (.lst (wrefs (ws++us)))) us:=fun r hr=>by
       have:r.1≠lw:=fun e=>by have:=hn6 r hr;rw[e,h5w]at this;cases this
       rw[z0g this];exact hO6 r hr
      generalize upd H6 lw (.lst (wrefs (ws++us)))=H7 at k7 g7 h7l hO7
      refine⟨_,rfl,.inl ⟨rfl,_,qLo h7l⟩,_,rfl,ll,_,_,rfl,rfl,h7l,z1r (by simp at hsl ⊢;omega),?_⟩
      have el8:st.reverse.map V.int++[V.int ((x_p+1:Nat):Int)]=(((x_p+1:Nat):Int)::st).reverse.map V.int:=by simp
      dsimp only
      rw[el8]
      subst ex'
      have nus:∀ r∈us,r.1≠lw/\r.1≠ll:=fun r hr=>⟨(fun e=>by have:=hn6 r hr;rw[e,h5w]at this;cases this),(fun e=>by have:=hn6 r hr;rw[e,g5]at this;cases this)⟩
      refine hN _ _ ⟨_,ws++us,_,_,_,rfl,by rw[z0g nll];exact k7 _ _ nll nlw hxl,hOx.tups fun a xs h=>?_,fun b o h=>?_,by rw[z0g nwl];exact g7,z0c,fun r hr=>?_,fun r hr=>?_,?_,hrun,by simp at hsl ⊢;omega,by simp;omega,by show x_p+1<=c+(i+1);omega⟩
      ·have n1:a≠ll:=ne_of h hxll (by intro q;cases q)
       rw[z0g n1]
       exact k7 _ _ n1 (ne_of h hI.hw (by intro q;cases q)) h
      ·have n1:b≠ll:=z0h h hllH
       rw[z0g n1]
       exact k7 _ _ n1 (z0h h hlw) (hI.sm _ _ h)
      ·rcases mApp hr with z | z
       ·rw[z0g (hI.nw r z).2];exact k7 _ _ (hI.nw r z).2 (hI.nw r z).1 (hI.ok r z)
       ·rw[z0g (nus r z).2];exact hO7 r z
      ·rcases mApp hr with z | z
       ·exact hI.nw r z
       ·exact nus r z
      ·have e1:wl (ws++us)=wl ws++wl us:=by simp[wl]
       rw[e1,hI.ew,ewu]
  ·rintro σ Hx ⟨x,ws,v5,v6,v7,rfl,hxl,hOx,hI⟩
   have hrun:=hI.run
   rw[el,List.take_length]at hrun
   have hall:=z6f s0 [] ⟨[],[],c⟩
   rw[List.append_nil,hrun]at hall
   have ex:x=⟨[(enc s0 c).1],(enc s0 c).2.1,(enc s0 c).2.2⟩:=Option.some.inj hall
   subst ex
   have hwn:=hI.wn
   rw[el]at hwn
   refine⟨_,rfl,.inl ⟨rfl,_,qLo hI.hw⟩,_,rfl,lw,_,_,rfl,rfl,hI.hw,z1r (by rw[z2l];omega),?_⟩
   have ewr:wrefs ws++[V.ref ll]=wrefs (ws++[(ll,[(enc s0 c).1])]):=by simp[wrefs]
   dsimp only
   rw[ewr]
   have hll2:upd Hx lw (.lst (wrefs (ws++[(ll,[(enc s0 c).1])]))) ll=some (.lst ([(enc s0 c).1].map V.int)):=by rw[z0g nwl.symm];exact hI.hl
   refine⟨_,rfl,_,rfl,len2,fun t ht=>?_⟩
   have sA:Same H (upd Hx lw (.lst (wrefs (ws++[(ll,[(enc s0 c).1])])))):=hI.sm.upd hlw
   have gA:upd Hx lw (.lst (wrefs (ws++[(ll,[(enc s0 c).1])]))) lw=some (.lst (wrefs (ws++[(ll,[(enc s0 c).1])]))):=z0c
   have hOA:WsOk (upd Hx lw (.lst (wrefs (ws++[(ll,[(enc s0 c).1])])))) (ws++[(ll,[(enc s0 c).1])]):=fun r hr=>by
    rcases mApp hr with z | z
    ·rw[z0g (hI.nw r z).1];exact hI.ok r z
    ·have:r=(ll,[(enc s0 c).1]):=by simpa using z
     rw[this];exact hll2
   generalize upd Hx lw (.lst (wrefs (ws++[(ll,[(enc s0 c).1])])))=HA at sA gA hOA ht
   have sB:Same HA (upd HA t (.tup [.int ((enc s0 c).2.2:Nat),.ref lw])):=(smR HA).upd ht
   refine q t lw ll ws _ (sA.trans sB) (sA.free ht) z0c (sB _ _ gA) (hOA.mono sB) hI.ew (fun r hr=>?_) hlw hwn
   rcases mApp hr with z | z
   ·exact (hI.nw r z).1
   ·have:r=(ll,[(enc s0 c).1]):=by simpa using z
    rw[this];exact nwl.symm
end
def x3c:Sp:=fun vs H Q _=>∃ (wd:Wd) (p q a b:Addr) (x y:Bool),vs=[.str wd.str,.ref p,.ref q]/\H p=some (.tup [.ref a,.bl x])/\H q=some (.tup [.ref b,.bl y])/\∀ (r t:Addr) (H':Hp),Same H H'->H r=none->H t=none->H' r=some (.tup [.ref t,.bl (opW wd x y)])->H' t=some (.tup [.str wd.str,.ref a,.ref b])->Q (.ref r) H'
section
variable {P:Program} {w:World} {K:W.Frag} {mg:Str->Option Value} {base:Heap}
theorem x4l (Df:Def K mg "_law_pair" z4n z6w):Cal P w K mg base 1 "_law_pair" z6w x3c:=by
 refine Df.cal sc_l_pair (fun vs H Q E h=>?_) (fun f cdv A outer s H vs Q E hr h=>?_)
 ·obtain⟨wd,p,q,a,b,x,y,rfl,_⟩:=h;rfl
 ·obtain⟨wd,p,q,a,b,x,y,rfl,hp,hq,k⟩:=h
  obtain⟨u3,hu3,key3⟩:∃ u,PSs (cxOf CX0 P w K mg base x0i "_law_pair" (z0f z4n) f cdv A outer s H E).nox ((z0m z4n).drop 3) u /\
   ∀ v,v=opW wd x y->u { nx:=fun _ H'=>Q .non H',rt:=Q } [some (.str wd.str),some (.ref p),some (.ref q),some (.bl v)] H:=by
   refine⟨_,(z0e (z0o (z2m (z0a (z2m (z0a (pv 0) (z0a (pe_ix ix_tup (pv 1) z0i (fun _ _=>rfl)) (z0a (pe_ix ix_tup (pv 2) z0i (fun _ _=>rfl)) z0d)))) (z0a (pv 3) z0d))))),fun v hv=>?_⟩
   refine⟨_,rfl,_,rfl,p,_,_,_,rfl,rfl,qTo hp,rfl,_,rfl,q,_,_,_,rfl,rfl,qTo hq,rfl,(by show 3<=sizeLine;decide),fun t ht=>?_⟩
   have s1:Same H (upd H t (.tup [.str wd.str,.ref a,.ref b])):=(smR H).upd ht
   have g1:upd H t (.tup [.str wd.str,.ref a,.ref b]) t=some (.tup [.str wd.str,.ref a,.ref b]):=z0c
   generalize upd H t (.tup [.str wd.str,.ref a,.ref b])=H1 at s1 g1
   refine⟨_,rfl,len2,fun r hr=>?_⟩
   have s2:Same H1 (upd H1 r (.tup [.ref t,.bl v])):=(smR H1).upd hr
   exact k r t _ (s1.trans s2) (s1.free hr) ht (by rw[z0c,hv]) (s2 _ _ g1)
  refine⟨_,(z0b (z0n (i:=3) sc_l_pair.nd rfl (Or.inl rfl) (z6e op_eq (pe_ix ix_tup (pv 1) z0i (fun _ _=>rfl)) (pe_ix ix_tup (pv 2) z0i (fun _ _=>rfl)) (z0p _)))
 (z0b (ps_if (z0k op_eq (pv 0) z1g (z0p _))
 (z0e (z0n (i:=3) sc_l_pair.nd rfl (Or.inl rfl) (y2y (pe_ix ix_tup (pv 1) z0i (fun _ _=>rfl)) (z8a (pe_ix ix_tup (pv 2) z0i (fun _ _=>rfl))))))
 z0q)
 (z0b (ps_if (z0k op_eq (pv 0) z1g (z0p _))
 (z0e (z0n (i:=3) sc_l_pair.nd rfl (Or.inl rfl) (pe_or (pe_ix ix_tup (pv 1) z0i (fun _ _=>rfl)) (z8a (pe_ix ix_tup (pv 2) z0i (fun _ _=>rfl))))))
 z0q)
 hu3))),?_⟩
  refine⟨_,rfl,p,_,_,_,rfl,rfl,qTo hp,rfl,_,rfl,q,_,_,_,rfl,rfl,qTo hq,rfl,rfl,?_⟩
  cases wd with
  | and =>
   refine⟨_,rfl,rfl,_,rfl,iteT ?_⟩
   refine⟨_,rfl,p,_,_,_,rfl,rfl,qTo hp,rfl,_,rfl,?_⟩
   cases x with
   | true =>
    refine iteT ⟨_,rfl,q,_,_,_,rfl,rfl,qTo hq,rfl,?_⟩
    exact⟨_,rfl,rfl,_,rfl,iteF (key3 y rfl)⟩
   | false =>
    refine iteF ?_
    exact⟨_,rfl,rfl,_,rfl,iteF (key3 false rfl)⟩
  | or =>
   refine⟨_,rfl,rfl,_,rfl,iteF ?_⟩
   refine⟨_,rfl,rfl,_,rfl,iteT ?_⟩
   refine⟨_,rfl,p,_,_,_,rfl,rfl,qTo hp,rfl,_,rfl,?_⟩
   cases x with
   | true=>exact iteT (key3 true rfl)
   | false=>exact iteF ⟨_,rfl,q,_,_,_,rfl,rfl,qTo hq,rfl,key3 y rfl⟩
  | same =>
   refine⟨_,rfl,rfl,_,rfl,iteF ?_⟩
   refine⟨_,rfl,rfl,_,rfl,iteF ?_⟩
   exact key3 _ (by cases x<;>cases y<;>rfl)
end
def btS (b:List Bool):Stt->List Bool
 | .lamp _=>[]
 | .non s=>btS b s
 | .two w s t=>btS b s++btS b t++[opW w (valS b s) (valS b t)]
abbrev Rw:=Addr × Addr × Stt
def z0l (rs:List Rw):List V:=rs.map fun r=>V.ref r.1
def RwOk (bs:List Bool) (H:Hp) (rs:List Rw):Prop:=∀ r∈rs,H r.1=some (.tup [.ref r.2.1,.bl (valS bs r.2.2)])/\SAt H r.2.2 r.2.1/\okS bs.length r.2.2
theorem RwOk.tups {bs:List Bool} {H H':Hp} {rs:List Rw} (h:RwOk bs H rs) (e:∀ a xs,H a=some (.tup xs)->H' a=some (.tup xs)):RwOk bs H' rs:=fun r hr=>⟨e _ _ (h r hr).1,(h r hr).2.1.mono e,(h r hr).2.2⟩
theorem RwOk.same {bs:List Bool} {H H':Hp} {rs:List Rw} (h:RwOk bs H rs) (e:Same H H'):RwOk bs H' rs:=h.tups fun _ _ q=>e _ _ q
theorem RwOk.app {bs:List Bool} {H:Hp} {rs:List Rw} {r:Rw} (h:RwOk bs H rs) (h1:H r.1=some (.tup [.ref r.2.1,.bl (valS bs r.2.2)])) (h2:SAt H r.2.2 r.2.1) (h3:okS bs.length r.2.2):RwOk bs H (rs++[r]):=fun x hx=>by
 rcases mApp hx with z | z
 ·exact h x z
 ·have:x=r:=by simpa using z
  rw[this];exact⟨h1,h2,h3⟩
def z3m (rs:List Rw):Nat:=(rs.map fun r=>(post r.2.2).length).sum
def z1n (bs:List Bool) (rs:List Rw):List Bool:=rs.flatMap fun r=>btS bs r.2.2
theorem z4h (rs:List Rw):(z0l rs).length=rs.length:=by simp[z0l]
theorem z7l:∀ rs:List Rw,rs.length<=z3m rs
 | []=>Nat.zero_le _
 | r::rs=>by
  have h1:=z7l rs
  have h2:=z6q r.2.2
  simp[z3m]at h1 ⊢;omega
theorem z9k (rs ts:List Rw):z3m (rs++ts)=z3m rs+z3m ts:=by simp[z3m]
theorem y4y (bs:List Bool):∀ s:Stt,(btS bs s).length < (post s).length
 | .lamp _=>by simp[btS,post]
 | .non s=>by have:=y4y bs s;simp[btS,post];omega
 | .two _ s t=>by have h1:=y4y bs s;have h2:=y4y bs t;simp[btS,post];omega
theorem z8f (bs:List Bool):∀ rs:List Rw,(z1n bs rs).length<=z3m rs
 | []=>Nat.zero_le _
 | r::rs=>by
  have h1:=z8f bs rs
  have h2:=y4y bs r.2.2
  simp[z1n,z3m]at h1 ⊢;omega
theorem y1g (bs:List Bool) (rs ts:List Rw):z1n bs (rs++ts)=z1n bs rs++z1n bs ts:=by simp[z1n]
structure StI (bs:List Bool) (lr lt:Addr) (rs:List Rw) (H Hx:Hp):Prop where
 sm:Same H Hx
 hr:Hx lr=some (.lst (z0l rs))
 ht:Hx lt=some (.lst ((z1n bs rs).map V.bl))
 ok:RwOk bs Hx rs
def y9k (K:W.Frag):Sp:=fun vs H Q _=>∃ (a b:Addr) (cells:List Int) (bs:List Bool),vs=[.ref a,.ref b]/\H a=some (.lst (cells.map V.int))/\H b=some (.lst (bs.map V.bl))/\0 < bs.length/\bs.length<=1000/\cells.length<=1000 /\
 ∀ (t a' l:Addr) (s:Stt) (H':Hp),Same H H'->H t=none->H' t=some (.tup [.ref a',.bl (valS bs s),.ref l])->SAt H' s a'->okS bs.length s->H' l=some (.lst ((btS bs s).map V.bl))->(post s).length<=2 * cells.length+1->Q (.ref t) H'
section
variable {P:Program} {w:World} {K:W.Frag} {mg:Str->Option Value} {base:Heap}
theorem y8n (B:Blt mg) (c_l_pair:Cal P w K mg base 1 "_law_pair" z6w x3c) (Df:Def K mg "_law_stated" z2s z5e):Cal P w K mg base 2 "_law_stated" z5e (y9k K):=by
 refine Df.cal sc_l_stated (fun vs H Q E h=>?_) (fun f cdv A outer s H vs Q E hr h=>?_)
 ·obtain⟨a,b,cells,bs,rfl,_⟩:=h;rfl
 ·obtain⟨a,b,cells,bs,rfl,ha,hb,hb0,hbz,hz,q⟩:=h
  have tupL:∀ {Hy:Hp} {o:HO} {z:Addr} {ys:List V},Hy z=some (.lst ys)->∀ a xs,Hy a=some (.tup xs)->upd Hy z o a=some (.tup xs):=fun {Hy o z ys} hl a xs h=>by rw[z0g (ne_of h hl (by intro q;cases q))];exact h
  have join:∀ {rs:List Rw} {r1 r2:Rw} {wd:Wd} {r t:Addr},valS bs (.two wd r1.2.2 r2.2.2)=opW wd (valS bs r1.2.2) (valS bs r2.2.2)/\z1n bs (rs++[(r,t,.two wd r1.2.2 r2.2.2)])=z1n bs (rs++[r1,r2])++[valS bs (.two wd r1.2.2 r2.2.2)]/\z3m (rs++[(r,t,.two wd r1.2.2 r2.2.2)])=z3m (rs++[r1,r2])+1:=fun {rs r1 r2 wd r t} =>
   ⟨rfl,by simp[z1n,btS,valS],by simp[z3m,post];omega⟩
  obtain⟨u4,hu4,key4⟩:∃ u,PSs (cxOf CX0 P w K mg base y3c "_law_stated" (z0f z2s) f cdv A outer s H E).nox ((z0m z2s).drop 4) u /\
   ∀ (lr lt:Addr),H lr=none->H lt=none->lr≠lt->∀ (rs:List Rw) (Hx:Hp) (v4 v5 v6 v7 v8:Option V),StI bs lr lt rs H Hx->rs≠[]->z3m rs+rs.length<=2 * cells.length+2->u { nx:=fun _ H'=>Q .non H',rt:=Q } [some (.ref a),some (.ref b),some (.ref lr),some (.ref lt),v4,v5,v6,v7,v8] Hx:=by
   refine⟨_,(z0b (z5z PassesOwn.never (z0k op_gt (z0t z0v (by rfl) B.len_ PySem.boot_len (z0a (pv 2) z0d)) z0i (z0p _))
 (z0b (z0n (i:=6) sc_l_stated.nd rfl (Or.inl rfl) (z4d PySem.F.plainAttrs_list PySem.F.slot_list_pop PySem.F.type_list_pop z4e (pv 2)))
 (z0b (z0r (pe_bm PySem.F.plainAttrs_list PySem.F.slot_list_append PySem.F.type_list_append z0z (pv 2) (z0a (z1d c_l_pair hr (by decide) (z0a (pe_ix ix_list (z0u (z0a z1g (z0a z1g (z0a z1g z0d)))) (pe_op z8s (z0t z0v (by rfl) B.len_ PySem.boot_len (z0a (pv 2) z0d)) z0i) (fun _ _=>rfl)) (z0a (z4d PySem.F.plainAttrs_list PySem.F.slot_list_pop PySem.F.type_list_pop z4e (pv 2)) (z0a (pv 6) z0d)))) z0d)))
 (z0e (z0r (pe_bm PySem.F.plainAttrs_list PySem.F.slot_list_append PySem.F.type_list_append z0z (pv 3) (z0a (pe_ix ix_tup (pe_ix ix_list (pv 2) (pe_un z1c z0i) (fun _ _=>rfl)) z0i (fun _ _=>rfl)) z0d)))))))
 (z0e (z0o (z2m (z0a (pe_ix ix_tup (pe_ix ix_list (pv 2) z0i (fun _ _=>rfl)) z0i (fun _ _=>rfl)) (z0a (pe_ix ix_tup (pe_ix ix_list (pv 2) z0i (fun _ _=>rfl)) z0i (fun _ _=>rfl)) (z0a (pv 3) z0d))))))),fun lr lt hlr hltH nrt rs0 Hx0 v4 v5 v60 v7 v8 hI0 hne0 hn0=>?_⟩
   refine z9x (y3q (fun m σ Hx=>∃ (rs:List Rw) (v6:Option V),m=rs.length/\σ=[some (.ref a),some (.ref b),some (.ref lr),some (.ref lt),v4,v5,v6,v7,v8]/\StI bs lr lt rs H Hx/\rs≠[]/\z3m rs+rs.length<=2 * cells.length+2) ⟨_,rs0,v60,rfl,rfl,hI0,hne0,hn0⟩ ?_)
   rintro m σ Hx ⟨rs,v6,rfl,rfl,hI,hne,hn⟩ Y X hY hX
   refine⟨_,rfl,lr,_,rfl,.inl (qLo hI.hr),_,_,rfl,rfl,_,rfl,?_⟩
   have erl:=z4h rs
   have hrn:=z7l rs
   refine ite2 (fun c1=>?_) (fun c1=>?_)
   ·have h2:2<=rs.length:=by have:=of_decide_eq_true c1;omega
    obtain⟨ri,r2,e1⟩:∃ ri r2,rs=ri++[r2]:=⟨_,_,(List.dropLast_concat_getLast hne).symm⟩
    have hne2:ri≠[]:=fun z=>by rw[e1,z]at h2;simp at h2
    obtain⟨rj,r1,e2⟩:∃ rj r1,ri=rj++[r1]:=⟨_,_,(List.dropLast_concat_getLast hne2).symm⟩
    subst e2
    subst e1
    have eapp:rj++[r1]++[r2]=rj++[r1,r2]:=by simp
    refine⟨Y,fun _ _ h=>h,?_⟩
    have er:z0l (rj++[r1]++[r2])=z0l (rj++[r1])++[V.ref r2.1]:=by simp[z0l]
    have hxr:=hI.hr
    rw[er]at hxr
    refine⟨_,rfl,.inl ⟨rfl,_,qLo hxr⟩,lr,_,.ref r2.1,rfl,rfl,hxr,by simp,?_⟩
    have ed:(z0l (rj++[r1])++[V.ref r2.1]).dropLast=z0l rj++[V.ref r1.1]:=by simp[z0l]
    dsimp only
    rw[ed]
    have k3:=tupL (o:=.lst (z0l rj++[V.ref r1.1])) hxr
    have g3:upd Hx lr (.lst (z0l rj++[V.ref r1.1])) lr=some (.lst (z0l rj++[V.ref r1.1])):=z0c
    have s3:Same H (upd Hx lr (.lst (z0l rj++[V.ref r1.1]))):=hI.sm.upd hlr
    have h3t:upd Hx lr (.lst (z0l rj++[V.ref r1.1])) lt=some (.lst ((z1n bs (rj++[r1]++[r2])).map V.bl)):=by rw[z0g nrt.symm];exact hI.ht
    have hO3:=hI.ok.tups k3
    generalize upd Hx lr (.lst (z0l rj++[V.ref r1.1]))=H3 at g3 s3 h3t hO3
    refine⟨_,rfl,.inl ⟨rfl,_,qLo g3⟩,(by show 3<=sizeLine;decide),fun pl hpl=>?_⟩
    have s4:Same H3 (upd H3 pl (.lst [V.str "same",V.str "and",V.str "or"])):=(smR H3).upd hpl
    have g4:upd H3 pl (.lst [V.str "same",V.str "and",V.str "or"]) pl=some (.lst [V.str "same",V.str "and",V.str "or"]):=z0c
    generalize upd H3 pl (.lst [V.str "same",V.str "and",V.str "or"])=H4 at s4 g4
    obtain⟨wd,hwd⟩:∃ wd:Wd,atI [V.str "same",V.str "and",V.str "or"] ((((z0l rj++[V.ref r1.1]).length:Nat):Int) % 3)=some (.str wd.str):=by
     generalize (((z0l rj++[V.ref r1.1]).length:Nat):Int)=z
     have:z % 3=0∨z % 3=1∨z % 3=2:=by omega
     rcases this with e | e | e
     ·rw[e];exact⟨.same,rfl⟩
     ·rw[e];exact⟨.and,rfl⟩
     ·rw[e];exact⟨.or,rfl⟩
    have g3':=s4 _ _ g3
    refine⟨_,rfl,lr,_,rfl,.inl (qLo g3'),_,_,rfl,rfl,(by show (0:Int) < 3;decide),pl,_,_,_,rfl,rfl,qLo g4,hwd,?_⟩
    refine⟨_,rfl,.inl ⟨rfl,_,qLo g3'⟩,lr,_,.ref r1.1,rfl,rfl,g3',by simp,?_⟩
    have ed2:(z0l rj++[V.ref r1.1]).dropLast=z0l rj:=by simp
    dsimp only
    rw[ed2]
    have k5:=tupL (o:=.lst (z0l rj)) g3'
    have g5:upd H4 lr (.lst (z0l rj)) lr=some (.lst (z0l rj)):=z0c
    have s5:Same H (upd H4 lr (.lst (z0l rj))):=(s3.trans s4).upd hlr
    have h5t:upd H4 lr (.lst (z0l rj)) lt=some (.lst ((z1n bs (rj++[r1]++[r2])).map V.bl)):=by rw[z0g nrt.symm];exact s4 _ _ h3t
    have hO5:=(hO3.same s4).tups k5
    generalize upd H4 lr (.lst (z0l rj))=H5 at g5 s5 h5t hO5
    have o1:=hO5 r1 (by simp)
    have o2:=hO5 r2 (by simp)
    refine⟨_,rfl,wd,r1.1,r2.1,r1.2.1,r2.2.1,_,_,rfl,o1.1,o2.1,fun r t H6 s6 hr6 ht6 h6r h6t=>?_⟩
    have g6:=s6 _ _ g5
    obtain⟨j1,j2,j3⟩:=join (rs:=rj) (r1:=r1) (r2:=r2) (wd:=wd) (r:=r) (t:=t)
    rw[←eapp]at j2 j3
    refine⟨lr,_,_,rfl,rfl,g6,z1r (by rw[z4h];simp at hrn hn ⊢;omega),?_⟩
    have erw:z0l rj++[V.ref r]=z0l (rj++[(r,t,.two wd r1.2.2 r2.2.2)]):=by simp[z0l]
    dsimp only
    rw[erw]
    have hOj:RwOk bs H6 rj:=fun z hz=>hO5.same s6 z (by simp[hz])
    have hOn:RwOk bs H6 (rj++[(r,t,.two wd r1.2.2 r2.2.2)]):=hOj.app h6r ⟨_,_,h6t,o1.2.1.same s6,o2.2.1.same s6⟩ ⟨o1.2.2,o2.2.2⟩
    have k7:=tupL (o:=.lst (z0l (rj++[(r,t,.two wd r1.2.2 r2.2.2)]))) g6
    have g7:upd H6 lr (.lst (z0l (rj++[(r,t,.two wd r1.2.2 r2.2.2)]))) lr=some (.lst (z0l (rj++[(r,t,.two wd r1.2.2 r2.2.2)]))):=z0c
    have s7:Same H (upd H6 lr (.lst (z0l (rj++[(r,t,.two wd r1.2.2 r2.2.2)])))):=(s5.trans s6).upd hlr
    have h7t:upd H6 lr (.lst (z0l (rj++[(r,t,.two wd r1.2.2 r2.2.2)]))) lt=some (.lst ((z1n bs (rj++[r1]++[r2])).map V.bl)):=by rw[z0g nrt.symm];exact s6 _ _ h5t
    have hO7:=hOn.tups k7
    generalize upd H6 lr (.lst (z0l (rj++[(r,t,.two wd r1.2.2 r2.2.2)])))=H7 at g7 s7 h7t hO7
    have hat:atI (z0l (rj++[(r,t,.two wd r1.2.2 r2.2.2)])) (-1)=some (.ref r):=by rw[←erw];exact z7v _ _
    have o7:=(hO7 (r,t,.two wd r1.2.2 r2.2.2) (by simp)).1
    have htl:(z1n bs (rj++[r1]++[r2])).length<=z3m (rj++[r1]++[r2]):=z8f _ _
    refine⟨_,rfl,.inl ⟨rfl,_,qLo h7t⟩,_,rfl,1,rfl,lr,_,_,_,rfl,rfl,qLo g7,hat,r,_,_,_,rfl,rfl,qTo o7,rfl,lt,_,_,rfl,rfl,h7t,z1r (by rw[List.length_map];omega),?_⟩
    have ett:(z1n bs (rj++[r1]++[r2])).map V.bl++[V.bl (valS bs (.two wd r1.2.2 r2.2.2))]=(z1n bs (rj++[(r,t,.two wd r1.2.2 r2.2.2)])).map V.bl:=by rw[j2];simp
    dsimp only
    rw[ett]
    refine hY _ _ ⟨rj.length+1,by simp,rj++[(r,t,.two wd r1.2.2 r2.2.2)],_,by simp,rfl,⟨s7.upd hltH,by rw[z0g nrt];exact g7,z0c,hO7.tups (tupL h7t)⟩,by simp,?_⟩
    rw[j3];simp at hn ⊢;omega
   ·have h1:rs.length=1:=by
     have:¬ 1 < ((z0l rs).length:Int):=fun z=>c1 (decide_eq_true z)
     have:=List.length_pos_iff.mpr hne
     omega
    obtain⟨r1,e1⟩:=List.length_eq_one_iff.mp h1
    subst e1
    refine hX _ _ ?_
    have o1:=hI.ok r1 (by simp)
    have hg:atI (z0l [r1]) 0=some (.ref r1.1):=rfl
    refine⟨_,rfl,lr,_,_,_,rfl,rfl,qLo hI.hr,hg,r1.1,_,_,_,rfl,rfl,qTo o1.1,rfl,_,rfl,lr,_,_,_,rfl,rfl,qLo hI.hr,hg,r1.1,_,_,_,rfl,rfl,qTo o1.1,rfl,_,rfl,(by show 3<=sizeLine;decide),fun t ht=>?_⟩
    have s3:Same Hx (upd Hx t (.tup [.ref r1.2.1,.bl (valS bs r1.2.2),.ref lt])):=(smR Hx).upd ht
    refine q t r1.2.1 lt r1.2.2 _ (hI.sm.trans s3) (hI.sm.free ht) z0c (o1.2.1.same s3) o1.2.2 (s3 _ _ (by rw[hI.ht];simp[z1n])) ?_
    simp[z3m]at hn;omega
  refine⟨_,(z0b (z0n (i:=2) sc_l_stated.nd rfl (Or.inl rfl) (z0u z0d))
 (z0b (z0n (i:=3) sc_l_stated.nd rfl (Or.inl rfl) (z0u z0d))
 (z0b (z4c PassesOwn.never rfl (z1u (pv 0)) (z1l (i:=4) sc_l_stated.nd rfl (Or.inl rfl))
 (z0b (z0n (i:=5) sc_l_stated.nd rfl (Or.inl rfl) (pe_op z8s (pv 4) z0i))
 (z0e (ps_if (PW.pt (y2x (z0k op_lt (pv 5) z0i (z0p _)) (z9l (z0k op_gt (z0t z0v (by rfl) B.len_ PySem.boot_len (z0a (pv 2) z0d)) z0i (z0p _)))))
 (z0b (z0n (i:=6) sc_l_stated.nd rfl (Or.inl rfl) (z4d PySem.F.plainAttrs_list PySem.F.slot_list_pop PySem.F.type_list_pop z4e (pv 2)))
 (z0b (z0r (pe_bm PySem.F.plainAttrs_list PySem.F.slot_list_append PySem.F.type_list_append z0z (pv 2) (z0a (z1d c_l_pair hr (by decide) (z0a (pe_ix ix_list (z0u (z0a z1g (z0a z1g (z0a z1g z0d)))) (pv 5) (fun _ _=>rfl)) (z0a (z4d PySem.F.plainAttrs_list PySem.F.slot_list_pop PySem.F.type_list_pop z4e (pv 2)) (z0a (pv 6) z0d)))) z0d)))
 (z0e (z0r (pe_bm PySem.F.plainAttrs_list PySem.F.slot_list_append PySem.F.type_list_append z0z (pv 3) (z0a (pe_ix ix_tup (pe_ix ix_list (pv 2) (pe_un z1c z0i) (fun _ _=>rfl)) z0i (fun _ _=>rfl)) z0d))))))
 (z0e (ps_if (PW.pt (y2x (z0k op_eq (pv 5) z0i (z0p _)) (z9l (z0k (x4d (hu0 hr)) (pv 2) (z0u z0d) (z0p _)))))
 (z0b (z0n (i:=7) sc_l_stated.nd rfl (Or.inl rfl) (z4d PySem.F.plainAttrs_list PySem.F.slot_list_pop PySem.F.type_list_pop z4e (pv 2)))
 (z0e (z0r (pe_bm PySem.F.plainAttrs_list PySem.F.slot_list_append PySem.F.type_list_append z0z (pv 2) (z0a (z2m (z0a (z2m (z0a z1g (z0a (pe_ix ix_tup (pv 7) z0i (fun _ _=>rfl)) z0d))) (z0a (y6a (pe_ix ix_tup (pv 7) z0i (fun _ _=>rfl))) z0d))) z0d)))))
 (z0b (z0n (i:=8) sc_l_stated.nd rfl (Or.inl rfl) (pe_op z9z z0i (pe_op z8s (pe_op y4j (pv 4) z0i) (z0t z0v (by rfl) B.len_ PySem.boot_len (z0a (pv 1) z0d)))))
 (z0e (z0r (pe_bm PySem.F.plainAttrs_list PySem.F.slot_list_append PySem.F.type_list_append z0z (pv 2) (z0a (z2m (z0a (z2m (z0a z1g (z0a (pv 8) z0d))) (z0a (pe_ix ix_list (pv 1) (pe_op y6d (pv 8) z0i) (fun _ _=>rfl)) z0d))) z0d)))))))))))
 (z0b (ps_if (z0k (x4f (hu0 hr)) (pv 2) (z0u z0d) (z0p _))
 (z0e (z0r (pe_bm PySem.F.plainAttrs_list PySem.F.slot_list_append PySem.F.type_list_append z0z (pv 2) (z0a (z2m (z0a (z2m (z0a z1g (z0a z0i z0d))) (z0a (pe_ix ix_list (pv 1) z0i (fun _ _=>rfl)) z0d))) z0d))))
 z0q)
 hu4)))),?_⟩
  refine⟨by decide,fun lr hlr=>?_⟩
  have s1:Same H (upd H lr (.lst [])):=(smR H).upd hlr
  have g1:upd H lr (.lst []) lr=some (.lst (z0l [])):=z0c
  generalize upd H lr (.lst [])=H1 at s1 g1
  refine⟨by decide,fun lt hlt=>?_⟩
  have s2:Same H1 (upd H1 lt (.lst [])):=(smR H1).upd hlt
  have g2:upd H1 lt (.lst []) lt=some (.lst (([]:List Bool).map V.bl)):=z0c
  have nrt:lr≠lt:=z0h g1 hlt
  generalize upd H1 lt (.lst [])=H2 at s2 g2
  have hltH:H lt=none:=s1.free hlt
  have i0:StI bs lr lt [] H H2:=⟨s1.trans s2,s2 _ _ g1,g2,(fun _ h=>nomatch h)⟩
  have elc:(cells.map V.int).length=cells.length:=List.length_map ..
  refine⟨_,rfl,a,rfl,⟨_,qLo (i0.sm _ _ ha)⟩,z6k (K:=K) (a:=a) (xs:=cells.map V.int) (fun i σ Hx=>∃ (rs:List Rw) (v4 v5 v6 v7 v8:Option V),σ=[some (.ref a),some (.ref b),some (.ref lr),some (.ref lt),v4,v5,v6,v7,v8]/\StI bs lr lt rs H Hx/\z3m rs<=i/\(i=0∨rs≠[]))
   ⟨[],none,none,none,none,none,rfl,i0,Nat.le_refl _,.inl rfl⟩ (fun i σ Hx _ hh=>by
    obtain⟨_,_,_,_,_,_,_,e,_⟩:=hh
    exact qLo (e.sm _ _ ha)) ?_ ?_⟩
  ·rintro i y σ Hx N B' hi ⟨rs,v4,v5,v6,v7,v8,rfl,hI,hnn,_⟩ hN
   obtain⟨n,hni,rfl⟩:=getV hi
   have hil:i < cells.length:=(List.getElem?_eq_some_iff.mp hni).1
   have hrn:=z7l rs
   have erl:=z4h rs
   refine⟨_,rfl,_,_,rfl,rfl,(by show (0:Int) < 8;decide),?_⟩
   have hw0:=Int.emod_nonneg n (show (8:Int)≠0 by decide)
   dsimp only
   generalize n % 8=wy at hw0
   refine (fun hE=>⟨_,rfl,_,_,rfl,rfl,_,rfl,ite2 (fun c1=>⟨_,rfl,lr,_,rfl,.inl (qLo hI.hr),_,_,rfl,rfl,_,rfl,ite2 (fun c2=>?_) (fun _=>hE)⟩) (fun _=>iteF hE)⟩) ?_
   rotate_left
   ·have hw3:wy < 3:=of_decide_eq_true c1
    have h2:2<=rs.length:=by have:=of_decide_eq_true c2;omega
    have hne:rs≠[]:=fun z=>by rw[z]at h2;simp at h2
    obtain⟨ri,r2,e1⟩:∃ ri r2,rs=ri++[r2]:=⟨_,_,(List.dropLast_concat_getLast hne).symm⟩
    have hne2:ri≠[]:=fun z=>by rw[e1,z]at h2;simp at h2
    obtain⟨rj,r1,e2⟩:∃ rj r1,ri=rj++[r1]:=⟨_,_,(List.dropLast_concat_getLast hne2).symm⟩
    subst e2
    subst e1
    have eapp:rj++[r1]++[r2]=rj++[r1,r2]:=by simp
    have hn:z3m (rj++[r1]++[r2])+0<=2 * cells.length+2:=by omega
    have er:z0l (rj++[r1]++[r2])=z0l (rj++[r1])++[V.ref r2.1]:=by simp[z0l]
    have hxr:=hI.hr
    rw[er]at hxr
    refine⟨_,rfl,.inl ⟨rfl,_,qLo hxr⟩,lr,_,.ref r2.1,rfl,rfl,hxr,by simp,?_⟩
    have ed:(z0l (rj++[r1])++[V.ref r2.1]).dropLast=z0l rj++[V.ref r1.1]:=by simp[z0l]
    dsimp only
    rw[ed]
    have k3:=tupL (o:=.lst (z0l rj++[V.ref r1.1])) hxr
    have g3:upd Hx lr (.lst (z0l rj++[V.ref r1.1])) lr=some (.lst (z0l rj++[V.ref r1.1])):=z0c
    have s3:Same H (upd Hx lr (.lst (z0l rj++[V.ref r1.1]))):=hI.sm.upd hlr
    have h3t:upd Hx lr (.lst (z0l rj++[V.ref r1.1])) lt=some (.lst ((z1n bs (rj++[r1]++[r2])).map V.bl)):=by rw[z0g nrt.symm];exact hI.ht
    have hO3:=hI.ok.tups k3
    generalize upd Hx lr (.lst (z0l rj++[V.ref r1.1]))=H3 at g3 s3 h3t hO3
    refine⟨_,rfl,.inl ⟨rfl,_,qLo g3⟩,(by show 3<=sizeLine;decide),fun pl hpl=>?_⟩
    have s4:Same H3 (upd H3 pl (.lst [V.str "and",V.str "or",V.str "same"])):=(smR H3).upd hpl
    have g4:upd H3 pl (.lst [V.str "and",V.str "or",V.str "same"]) pl=some (.lst [V.str "and",V.str "or",V.str "same"]):=z0c
    generalize upd H3 pl (.lst [V.str "and",V.str "or",V.str "same"])=H4 at s4 g4
    obtain⟨wd,hwd⟩:∃ wd:Wd,atI [V.str "and",V.str "or",V.str "same"] wy=some (.str wd.str):=by
     have:wy=0∨wy=1∨wy=2:=by omega
     rcases this with e | e | e
     ·rw[e];exact⟨.and,rfl⟩
     ·rw[e];exact⟨.or,rfl⟩
     ·rw[e];exact⟨.same,rfl⟩
    have g3':=s4 _ _ g3
    refine⟨_,rfl,pl,_,_,_,rfl,rfl,qLo g4,hwd,?_⟩
    refine⟨_,rfl,.inl ⟨rfl,_,qLo g3'⟩,lr,_,.ref r1.1,rfl,rfl,g3',by simp,?_⟩
    have ed2:(z0l rj++[V.ref r1.1]).dropLast=z0l rj:=by simp
    dsimp only
    rw[ed2]
    have k5:=tupL (o:=.lst (z0l rj)) g3'
    have g5:upd H4 lr (.lst (z0l rj)) lr=some (.lst (z0l rj)):=z0c
    have s5:Same H (upd H4 lr (.lst (z0l rj))):=(s3.trans s4).upd hlr
    have h5t:upd H4 lr (.lst (z0l rj)) lt=some (.lst ((z1n bs (rj++[r1]++[r2])).map V.bl)):=by rw[z0g nrt.symm];exact s4 _ _ h3t
    have hO5:=(hO3.same s4).tups k5
    generalize upd H4 lr (.lst (z0l rj))=H5 at g5 s5 h5t hO5
    have o1:=hO5 r1 (by simp)
    have o2:=hO5 r2 (by simp)
    refine⟨_,rfl,wd,r1.1,r2.1,r1.2.1,r2.2.1,_,_,rfl,o1.1,o2.1,fun r t H6 s6 hr6 ht6 h6r h6t=>?_⟩
    have g6:=s6 _ _ g5
    obtain⟨j1,j2,j3⟩:=join (rs:=rj) (r1:=r1) (r2:=r2) (wd:=wd) (r:=r) (t:=t)
    rw[←eapp]at j2 j3
    refine⟨lr,_,_,rfl,rfl,g6,z1r (by rw[z4h];simp at hrn hn ⊢;omega),?_⟩
    have erw:z0l rj++[V.ref r]=z0l (rj++[(r,t,.two wd r1.2.2 r2.2.2)]):=by simp[z0l]
    dsimp only
    rw[erw]
    have hOj:RwOk bs H6 rj:=fun z hz=>hO5.same s6 z (by simp[hz])
    have hOn:RwOk bs H6 (rj++[(r,t,.two wd r1.2.2 r2.2.2)]):=hOj.app h6r ⟨_,_,h6t,o1.2.1.same s6,o2.2.1.same s6⟩ ⟨o1.2.2,o2.2.2⟩
    have k7:=tupL (o:=.lst (z0l (rj++[(r,t,.two wd r1.2.2 r2.2.2)]))) g6
    have g7:upd H6 lr (.lst (z0l (rj++[(r,t,.two wd r1.2.2 r2.2.2)]))) lr=some (.lst (z0l (rj++[(r,t,.two wd r1.2.2 r2.2.2)]))):=z0c
    have s7:Same H (upd H6 lr (.lst (z0l (rj++[(r,t,.two wd r1.2.2 r2.2.2)])))):=(s5.trans s6).upd hlr
    have h7t:upd H6 lr (.lst (z0l (rj++[(r,t,.two wd r1.2.2 r2.2.2)]))) lt=some (.lst ((z1n bs (rj++[r1]++[r2])).map V.bl)):=by rw[z0g nrt.symm];exact s6 _ _ h5t
    have hO7:=hOn.tups k7
    generalize upd H6 lr (.lst (z0l (rj++[(r,t,.two wd r1.2.2 r2.2.2)])))=H7 at g7 s7 h7t hO7
    have hat:atI (z0l (rj++[(r,t,.two wd r1.2.2 r2.2.2)])) (-1)=some (.ref r):=by rw[←erw];exact z7v _ _
    have o7:=(hO7 (r,t,.two wd r1.2.2 r2.2.2) (by simp)).1
    have htl:(z1n bs (rj++[r1]++[r2])).length<=z3m (rj++[r1]++[r2]):=z8f _ _
    refine⟨_,rfl,.inl ⟨rfl,_,qLo h7t⟩,_,rfl,1,rfl,lr,_,_,_,rfl,rfl,qLo g7,hat,r,_,_,_,rfl,rfl,qTo o7,rfl,lt,_,_,rfl,rfl,h7t,z1r (by rw[List.length_map];omega),?_⟩
    have ett:(z1n bs (rj++[r1]++[r2])).map V.bl++[V.bl (valS bs (.two wd r1.2.2 r2.2.2))]=(z1n bs (rj++[(r,t,.two wd r1.2.2 r2.2.2)])).map V.bl:=by rw[j2];simp
    dsimp only
    rw[ett]
    refine hN _ _ ⟨rj++[(r,t,.two wd r1.2.2 r2.2.2)],_,_,_,_,_,rfl,⟨s7.upd hltH,by rw[z0g nrt];exact g7,z0c,hO7.tups (tupL h7t)⟩,?_,.inr (by simp)⟩
    rw[j3];omega
   ·-- not,or a lamp
    refine⟨_,rfl,rfl,_,rfl,ite2 (fun c1=>?_) (fun _=>iteF ?_)⟩
    ·refine⟨_,rfl,by decide,fun pe hpe=>?_⟩
     have s3:Same Hx (upd Hx pe (.lst [])):=(smR Hx).upd hpe
     have g3:upd Hx pe (.lst []) pe=some (.lst []):=z0c
     have I3:StI bs lr lt rs H (upd Hx pe (.lst [])):=⟨hI.sm.trans s3,s3 _ _ hI.hr,s3 _ _ hI.ht,hI.ok.same s3⟩
     generalize upd Hx pe (.lst [])=H3 at s3 g3 I3
     refine⟨(z0l rs).isEmpty,⟨lr,pe,_,[],rfl,rfl,qLo I3.hr,qLo g3,.inl ⟨rfl,rfl⟩⟩,_,rfl,ite2 (fun c2=>?_) (fun _=>?_)⟩
     ·have hne:rs≠[]:=fun z=>by rw[z]at c2;cases c2
      obtain⟨ri,r1,e1⟩:∃ ri r1,rs=ri++[r1]:=⟨_,_,(List.dropLast_concat_getLast hne).symm⟩
      subst e1
      have er:z0l (ri++[r1])=z0l ri++[V.ref r1.1]:=by simp[z0l]
      have hxr:=I3.hr
      rw[er]at hxr
      refine⟨_,rfl,.inl ⟨rfl,_,qLo hxr⟩,lr,_,.ref r1.1,rfl,rfl,hxr,by simp,?_⟩
      have ed:(z0l ri++[V.ref r1.1]).dropLast=z0l ri:=by simp
      dsimp only
      rw[ed]
      have k4:=tupL (o:=.lst (z0l ri)) hxr
      have g4:upd H3 lr (.lst (z0l ri)) lr=some (.lst (z0l ri)):=z0c
      have s4:Same H (upd H3 lr (.lst (z0l ri))):=I3.sm.upd hlr
      have h4t:upd H3 lr (.lst (z0l ri)) lt=some (.lst ((z1n bs (ri++[r1])).map V.bl)):=by rw[z0g nrt.symm];exact I3.ht
      have hO4:=I3.ok.tups k4
      generalize upd H3 lr (.lst (z0l ri))=H4 at g4 s4 h4t hO4
      have o1:=hO4 r1 (by simp)
      refine⟨_,rfl,.inl ⟨rfl,_,qLo g4⟩,_,rfl,r1.1,_,_,_,rfl,rfl,qTo o1.1,rfl,len2,fun t ht=>?_⟩
      have s5:Same H4 (upd H4 t (.tup [.str "not",.ref r1.2.1])):=(smR H4).upd ht
      have g5:upd H4 t (.tup [.str "not",.ref r1.2.1]) t=some (.tup [.str "not",.ref r1.2.1]):=z0c
      generalize upd H4 t (.tup [.str "not",.ref r1.2.1])=H5 at s5 g5
      refine⟨_,rfl,r1.1,_,_,_,rfl,rfl,qTo (s5 _ _ o1.1),rfl,_,rfl,len2,fun r hr=>?_⟩
      have s6:Same H5 (upd H5 r (.tup [.ref t,.bl (valS bs (.non r1.2.2))])):=(smR H5).upd hr
      have g6:upd H5 r (.tup [.ref t,.bl (valS bs (.non r1.2.2))]) r=some (.tup [.ref t,.bl (valS bs (.non r1.2.2))]):=z0c
      have e6:(!valS bs r1.2.2)=valS bs (.non r1.2.2):=rfl
      dsimp only
      rw[e6]
      generalize upd H5 r (.tup [.ref t,.bl (valS bs (.non r1.2.2))])=H6 at s6 g6
      have s46:=s5.trans s6
      have h6r:=s46 _ _ g4
      refine⟨lr,_,_,rfl,rfl,h6r,z1r (by rw[z4h];simp at hrn hnn ⊢;omega),?_⟩
      have erw:z0l ri++[V.ref r]=z0l (ri++[(r,t,.non r1.2.2)]):=by simp[z0l]
      dsimp only
      rw[erw]
      have hOi:RwOk bs H6 ri:=fun z hz=>hO4.same s46 z (by simp[hz])
      have hOn:RwOk bs H6 (ri++[(r,t,.non r1.2.2)]):=hOi.app g6 ⟨_,s6 _ _ g5,o1.2.1.same s46⟩ o1.2.2
      exact hN _ _ ⟨ri++[(r,t,.non r1.2.2)],_,_,_,_,_,rfl,⟨(s4.trans s46).upd hlr,z0c,by rw[z0g nrt.symm];have:=s46 _ _ h4t;simpa[z1n,btS] using this,hOn.tups (tupL h6r)⟩,by rw[z9k]at hnn ⊢;simp[z3m,post]at hnn ⊢;omega,.inr (by simp)⟩
     ·refine⟨_,rfl,_,_,rfl,rfl,⟨by decide,by decide⟩,_,rfl,b,_,rfl,.inl (qLo (I3.sm _ _ hb)),_,_,rfl,rfl,(by rw[List.length_map];omega),_,_,rfl,rfl,?_⟩
      obtain⟨k,hk,hkl⟩:∃ k:Nat,1+n / 8 % (((bs.map V.bl).length:Nat):Int)=((k+1:Nat):Int)/\k < bs.length:=by
       rw[List.length_map]
       have h1:=Int.emod_nonneg (n / 8) (show (bs.length:Int)≠0 by omega)
       have h2:=Int.emod_lt_of_pos (n / 8) (show (0:Int) < (bs.length:Int) by omega)
       exact⟨(n / 8 % (bs.length:Int)).toNat,by omega,by omega⟩
      dsimp only
      rw[hk]
      refine⟨_,rfl,.inl ⟨rfl,_,qLo I3.hr⟩,_,rfl,len2,fun t ht=>?_⟩
      have s4:Same H3 (upd H3 t (.tup [.str "lamp",.int ((k+1:Nat):Int)])):=(smR H3).upd ht
      have g4:upd H3 t (.tup [.str "lamp",.int ((k+1:Nat):Int)]) t=some (.tup [.str "lamp",.int ((k+1:Nat):Int)]):=z0c
      generalize upd H3 t (.tup [.str "lamp",.int ((k+1:Nat):Int)])=H4 at s4 g4
      have hat:atI (bs.map V.bl) (((k+1:Nat):Int) - 1)=some (.bl (valS bs (.lamp (k+1)))):=by
       have e:((k+1:Nat):Int) - 1=((k:Nat):Int):=by omega
       rw[e];exact z4f (by simp[valS,hkl])
      refine⟨_,rfl,_,rfl,_,_,rfl,rfl,b,_,_,_,rfl,rfl,qLo (s4 _ _ (I3.sm _ _ hb)),hat,len2,fun r hr=>?_⟩
      have s5:Same H4 (upd H4 r (.tup [.ref t,.bl (valS bs (.lamp (k+1)))])):=(smR H4).upd hr
      have g5:upd H4 r (.tup [.ref t,.bl (valS bs (.lamp (k+1)))]) r=some (.tup [.ref t,.bl (valS bs (.lamp (k+1)))]):=z0c
      generalize upd H4 r (.tup [.ref t,.bl (valS bs (.lamp (k+1)))])=H5 at s5 g5
      have s35:=s4.trans s5
      have h5r:=s35 _ _ I3.hr
      refine⟨lr,_,_,rfl,rfl,h5r,z1r (by rw[z4h];omega),?_⟩
      have erw:z0l rs++[V.ref r]=z0l (rs++[(r,t,.lamp (k+1))]):=by simp[z0l]
      dsimp only
      rw[erw]
      have hOn:RwOk bs H5 (rs++[(r,t,.lamp (k+1))]):=(I3.ok.same s35).app g5 (s5 _ _ g4) ⟨by omega,by omega⟩
      exact hN _ _ ⟨rs++[(r,t,.lamp (k+1))],_,_,_,_,_,rfl,⟨(I3.sm.trans s35).upd hlr,z0c,by rw[z0g nrt.symm,y1g];have:=s35 _ _ I3.ht;simpa[z1n,btS] using this,hOn.tups (tupL h5r)⟩,by rw[z9k];simp[z3m,post]at hnn ⊢;omega,.inr (by simp)⟩
    ·refine⟨_,rfl,_,_,rfl,rfl,⟨by decide,by decide⟩,_,rfl,b,_,rfl,.inl (qLo (hI.sm _ _ hb)),_,_,rfl,rfl,(by rw[List.length_map];omega),_,_,rfl,rfl,?_⟩
     obtain⟨k,hk,hkl⟩:∃ k:Nat,1+n / 8 % (((bs.map V.bl).length:Nat):Int)=((k+1:Nat):Int)/\k < bs.length:=by
      rw[List.length_map]
      have h1:=Int.emod_nonneg (n / 8) (show (bs.length:Int)≠0 by omega)
      have h2:=Int.emod_lt_of_pos (n / 8) (show (0:Int) < (bs.length:Int) by omega)
      exact⟨(n / 8 % (bs.length:Int)).toNat,by omega,by omega⟩
     dsimp only
     rw[hk]
     refine⟨_,rfl,.inl ⟨rfl,_,qLo hI.hr⟩,_,rfl,len2,fun t ht=>?_⟩
     have s4:Same Hx (upd Hx t (.tup [.str "lamp",.int ((k+1:Nat):Int)])):=(smR Hx).upd ht
     have g4:upd Hx t (.tup [.str "lamp",.int ((k+1:Nat):Int)]) t=some (.tup [.str "lamp",.int ((k+1:Nat):Int)]):=z0c
     generalize upd Hx t (.tup [.str "lamp",.int ((k+1:Nat):Int)])=H4 at s4 g4
     have hat:atI (bs.map V.bl) (((k+1:Nat):Int) - 1)=some (.bl (valS bs (.lamp (k+1)))):=by
      have e:((k+1:Nat):Int) - 1=((k:Nat):Int):=by omega
      rw[e];exact z4f (by simp[valS,hkl])
     refine⟨_,rfl,_,rfl,_,_,rfl,rfl,b,_,_,_,rfl,rfl,qLo (s4 _ _ (hI.sm _ _ hb)),hat,len2,fun r hr=>?_⟩
     have s5:Same H4 (upd H4 r (.tup [.ref t,.bl (valS bs (.lamp (k+1)))])):=(smR H4).upd hr
     have g5:upd H4 r (.tup [.ref t,.bl (valS bs (.lamp (k+1)))]) r=some (.tup [.ref t,.bl (valS bs (.lamp (k+1)))]):=z0c
     generalize upd H4 r (.tup [.ref t,.bl (valS bs (.lamp (k+1)))])=H5 at s5 g5
     have s35:=s4.trans s5
     have h5r:=s35 _ _ hI.hr
     refine⟨lr,_,_,rfl,rfl,h5r,z1r (by rw[z4h];omega),?_⟩
     have erw:z0l rs++[V.ref r]=z0l (rs++[(r,t,.lamp (k+1))]):=by simp[z0l]
     dsimp only
     rw[erw]
     have hOn:RwOk bs H5 (rs++[(r,t,.lamp (k+1))]):=(hI.ok.same s35).app g5 (s5 _ _ g4) ⟨by omega,by omega⟩
     exact hN _ _ ⟨rs++[(r,t,.lamp (k+1))],_,_,_,_,_,rfl,⟨(hI.sm.trans s35).upd hlr,z0c,by rw[z0g nrt.symm,y1g];have:=s35 _ _ hI.ht;simpa[z1n,btS] using this,hOn.tups (tupL h5r)⟩,by rw[z9k];simp[z3m,post]at hnn ⊢;omega,.inr (by simp)⟩
  ·rintro σ Hx ⟨rs,v4,v5,v6,v7,v8,rfl,hI,hnn,hemp⟩
   rw[elc]at hnn hemp
   have hrn:=z7l rs
   refine⟨_,rfl,by decide,fun pe hpe=>?_⟩
   have s3:Same Hx (upd Hx pe (.lst [])):=(smR Hx).upd hpe
   have g3:upd Hx pe (.lst []) pe=some (.lst []):=z0c
   have I3:StI bs lr lt rs H (upd Hx pe (.lst [])):=⟨hI.sm.trans s3,s3 _ _ hI.hr,s3 _ _ hI.ht,hI.ok.same s3⟩
   generalize upd Hx pe (.lst [])=H3 at s3 g3 I3
   refine .inl ⟨_,⟨lr,pe,_,[],rfl,rfl,qLo I3.hr,qLo g3,.inl ⟨rfl,rfl⟩⟩,_,rfl,ite2 (fun c1=>?_) (fun c1=>?_)⟩
   ·have hrs:rs=[]:=by
     cases rs with
     | nil=>rfl
     | cons _ _=>cases c1
    subst hrs
    refine⟨_,rfl,.inl ⟨rfl,_,qLo I3.hr⟩,len2,fun t ht=>?_⟩
    have s4:Same H3 (upd H3 t (.tup [.str "lamp",.int 1])):=(smR H3).upd ht
    have g4:upd H3 t (.tup [.str "lamp",.int 1]) t=some (.tup [.str "lamp",.int 1]):=z0c
    generalize upd H3 t (.tup [.str "lamp",.int 1])=H4 at s4 g4
    have hat:atI (bs.map V.bl) 0=some (.bl (valS bs (.lamp 1))):=z4f (j:=0) (by simp[valS,hb0])
    refine⟨_,rfl,b,_,_,_,rfl,rfl,qLo (s4 _ _ (I3.sm _ _ hb)),hat,len2,fun r hr=>?_⟩
    have s5:Same H4 (upd H4 r (.tup [.ref t,.bl (valS bs (.lamp 1))])):=(smR H4).upd hr
    have g5:upd H4 r (.tup [.ref t,.bl (valS bs (.lamp 1))]) r=some (.tup [.ref t,.bl (valS bs (.lamp 1))]):=z0c
    generalize upd H4 r (.tup [.ref t,.bl (valS bs (.lamp 1))])=H5 at s5 g5
    have s35:=s4.trans s5
    have h5r:=s35 _ _ I3.hr
    refine⟨lr,_,_,rfl,rfl,h5r,z1r (by simp[z0l]),?_⟩
    have erw:z0l []++[V.ref r]=z0l [(r,t,.lamp 1)]:=rfl
    dsimp only
    rw[erw]
    have hOn:RwOk bs H5 ([]++[(r,t,.lamp 1)]):=RwOk.app (fun _ h=>nomatch h) g5 (s5 _ _ g4) ⟨by omega,by omega⟩
    refine key4 lr lt hlr hltH nrt [(r,t,.lamp 1)] _ v4 v5 v6 v7 v8 ⟨(I3.sm.trans s35).upd hlr,z0c,by rw[z0g nrt.symm];exact s35 _ _ I3.ht,hOn.tups (tupL h5r)⟩ (by simp) (by simp[z3m,post])
   ·have hne:rs≠[]:=fun z=>by rw[z]at c1;exact c1 rfl
    exact key4 lr lt hlr hltH nrt rs H3 v4 v5 v6 v7 v8 I3 hne (by omega)
end
abbrev Td:=Addr × Addr × Stt × Bool
def z3l (ts:List Td):List V:=ts.map fun r=>V.ref r.1
theorem y2t (ts:List Td):(z3l ts).length=ts.length:=by simp[z3l]
def TdOk (H:Hp) (ts:List Td):Prop:=∀ r∈ts,H r.1=some (.tup [.ref r.2.1,.bl r.2.2.2])/\SAt H r.2.2.1 r.2.1
theorem TdOk.tups {H H':Hp} {ts:List Td} (h:TdOk H ts) (e:∀ a xs,H a=some (.tup xs)->H' a=some (.tup xs)):TdOk H' ts:=fun r hr=>⟨e _ _ (h r hr).1,(h r hr).2.mono e⟩
def flat1 (s:Stt) (b:Bool):List Stt:=if b then [s] else post s
def flatT (ts:List Td):List Stt:=ts.reverse.flatMap fun r=>flat1 r.2.2.1 r.2.2.2
theorem x2o (ts:List Td) (r:Td):flatT (ts++[r])=flat1 r.2.2.1 r.2.2.2++flatT ts:=by simp[flatT]
theorem x5y (s:Stt) (b:Bool):0 < (flat1 s b).length:=by
 cases b
 ·exact z6q s
 ·exact Nat.zero_lt_one
theorem x5x:∀ ts:List Td,ts.length<=(flatT ts).length:=fun ts=>by
 have:∀ us:List Td,us.length<=(us.flatMap fun r=>flat1 r.2.2.1 r.2.2.2).length:=fun us=>by
  induction us with
  | nil=>exact Nat.zero_le _
  | cons r us ih =>
   have:=x5y r.2.2.1 r.2.2.2
   simp at ih ⊢;omega
 have h:=this ts.reverse
 rw[List.length_reverse]at h
 exact h
def tdW (ts:List Td):Nat:=(ts.map fun r=>if r.2.2.2 then 1 else 2 * (post r.2.2.1).length).sum
theorem x6z (ts:List Td) (r:Td):tdW (ts++[r])=tdW ts+(if r.2.2.2 then 1 else 2 * (post r.2.2.1).length):=by simp[tdW]
structure DuB (ts:List Td) (st:List Int) (ws:List Wr) (lt lw ll:Addr) (H Hx:Hp):Prop where
 sm:Same H Hx
 ht:Hx lt=some (.lst (z3l ts))
 hw:Hx lw=some (.lst (wrefs ws))
 hl:Hx ll=some (.lst (st.reverse.map V.int))
 tk:TdOk Hx ts
 ok:WsOk Hx ws
 nw:∀ r∈ws,r.1≠lw/\r.1≠ll/\r.1≠lt
 nn:lt≠lw/\lt≠ll/\ll≠lw/\H lt=none/\H lw=none/\H ll=none
section
variable {ts ti:List Td} {st:List Int} {ws us:List Wr} {lt lw ll:Addr} {H Hx Hy:Hp}
theorem DuB.same (h:DuB ts st ws lt lw ll H Hx) (e:Same Hx Hy):DuB ts st ws lt lw ll H Hy :=
 ⟨h.sm.trans e,e _ _ h.ht,e _ _ h.hw,e _ _ h.hl,h.tk.tups fun _ _ q=>e _ _ q,h.ok.mono e,h.nw,h.nn⟩
theorem z6n {o:HO} {z:Addr} {ys:List V} (hl:Hy z=some (.lst ys)):∀ a xs,Hy a=some (.tup xs)->upd Hy z o a=some (.tup xs):=fun a xs h=>by rw[z0g (ne_of h hl (by intro q;cases q))];exact h
theorem DuB.setT (h:DuB ts st ws lt lw ll H Hx) {ti:List Td} {xs:List V} (e:xs=z3l ti) (ht:TdOk Hx ti):DuB ti st ws lt lw ll H (upd Hx lt (.lst xs)) :=
 ⟨h.sm.upd h.nn.2.2.2.1,by rw[z0c,e],by rw[z0g h.nn.1.symm];exact h.hw,by rw[z0g h.nn.2.1.symm];exact h.hl,ht.tups (z6n h.ht),fun r hr=>by rw[z0g (h.nw r hr).2.2];exact h.ok r hr,h.nw,h.nn⟩
theorem DuB.pop {r:Td} (h:DuB (ti++[r]) st ws lt lw ll H Hx) {xs:List V} (e:xs=z3l ti):DuB ti st ws lt lw ll H (upd Hx lt (.lst xs)):=h.setT e fun q hq=>h.tk q (List.mem_append_left _ hq)
theorem DuB.push (h:DuB ts st ws lt lw ll H Hx) {p pa:Addr} {s:Stt} {b:Bool} (hp:Hx p=none) (hs:SAt Hx s pa):DuB (ts++[(p,pa,s,b)]) st ws lt lw ll H (upd (upd Hx p (.tup [.ref pa,.bl b])) lt (.lst (z3l ts++[V.ref p]))):=by
 have s1:Same Hx (upd Hx p (.tup [.ref pa,.bl b])):=(smR Hx).upd hp
 refine (h.same s1).setT (by simp[z3l]) fun r hr=>?_
 rcases mApp hr with z | z
 ·exact (h.same s1).tk r z
 ·have:r=(p,pa,s,b):=by simpa using z
  rw[this];exact⟨z0c,hs.same s1⟩
theorem DuB.let_ (h:DuB ts st ws lt lw ll H Hx) {st':List Int} {xs:List V} (e:xs=st'.reverse.map V.int):DuB ts st' ws lt lw ll H (upd Hx ll (.lst xs)) :=
 ⟨h.sm.upd h.nn.2.2.2.2.2,by rw[z0g h.nn.2.1];exact h.ht,by rw[z0g h.nn.2.2.1.symm];exact h.hw,by rw[z0c,e],h.tk.tups (z6n h.hl),fun r hr=>by rw[z0g (h.nw r hr).2.1];exact h.ok r hr,h.nw,h.nn⟩
theorem DuB.wish (h:DuB ts st ws lt lw ll H Hx) (L:Laid Hx Hy us) {xs:List V} (e:xs=wrefs (ws++us)):DuB ts st (ws++us) lt lw ll H (upd Hy lw (.lst xs)):=by
 have g:=h.same L.sm
 have nu:∀ r∈us,r.1≠lw/\r.1≠ll/\r.1≠lt:=fun r hr=>⟨(fun z=>by have:=L.nw r hr;rw[z,h.hw]at this;cases this),(fun z=>by have:=L.nw r hr;rw[z,h.hl]at this;cases this),(fun z=>by have:=L.nw r hr;rw[z,h.ht]at this;cases this)⟩
 have nw:∀ r∈ws++us,r.1≠lw/\r.1≠ll/\r.1≠lt:=fun r hr=>(mApp hr).elim (h.nw r) (nu r)
 exact⟨g.sm.upd h.nn.2.2.2.2.1,by rw[z0g h.nn.1];exact g.ht,by rw[z0c,e],by rw[z0g h.nn.2.2.1];exact g.hl,g.tk.tups (z6n g.hw),fun r hr=>by rw[z0g (nw r hr).1];exact (mApp hr).elim (g.ok r) (L.ok r),nw,h.nn⟩
end
theorem Laid.over {H Hy:Hp} {us:List Wr} (L:Laid H Hy us) {l:Addr} {o:HO} (hl:Hy l=none):Laid H (upd Hy l o) us:=⟨L.sm.trans ((smR Hy).upd hl),L.ok.mono ((smR Hy).upd hl),L.nw⟩
structure DuN (c:Nat) (s0:Stt) (ts:List Td) (x:Sh) (ws:List Wr):Prop where
 ew:wl ws=x.W
 run:runL (flatT ts) x=some ⟨[(enc s0 c).1],(enc s0 c).2.1,(enc s0 c).2.2⟩
 sl:x.st.length+(flatT ts).length<=(post s0).length
 wn:ws.length+4 * (flatT ts).length<=4 * (post s0).length
 pn:x.p+(flatT ts).length<=c+(post s0).length
theorem SAt.kids {H:Hp} {pt:Stt} {pa:Addr} (h:SAt H pt pa):(∃ k,pt=.lamp k)∨∃ (wd:Str) (chs:List Pt),H pa=some (.tup (.str wd::prefs chs))/\decide (V.str wd=V.str "lamp")=false/\PsOk H chs/\post pt=posts (chs.map (·.2))++[pt]/\((∃ q,chs=[q])∨∃ q r,chs=[q,r]):=by
 cases pt with
 | lamp k=>exact .inl ⟨k,rfl⟩
 | non s1 =>
  obtain⟨b,hb,hs⟩:=h
  refine .inr ⟨"not",[(b,s1)],hb,by decide +kernel,fun p hp=>?_,by simp[post,posts],.inl ⟨_,rfl⟩⟩
  have:p=(b,s1):=by simpa using hp
  rw[this];exact hs
 | two wd s1 s2 =>
  obtain⟨b,c,hb,h1,h2⟩:=h
  refine .inr ⟨wd.str,[(b,s1),(c,s2)],hb,by cases wd<;>decide +kernel,fun p hp=>?_,by simp[post,posts],.inr ⟨_,_,rfl⟩⟩
  have:p=(b,s1)∨p=(c,s2):=by simpa using hp
  rcases this with z | z<;>rw[z]
  ·exact h1
  ·exact h2
def tdV (r:Addr × Stt × Bool):Nat:=if r.2.2 then 1 else 2 * (post r.2.1).length
theorem x8s (ts:List Td):tdW ts=((ts.map (·.2)).map tdV).sum:=by simp[tdW,tdV,Function.comp_def]
theorem x0u (ts:List Td):flatT ts=(ts.map (·.2)).reverse.flatMap fun r=>flat1 r.2.1 r.2.2:=by simp[flatT,List.flatMap_map,←List.map_reverse]
def spDue (K:W.Frag):Sp:=fun vs H Q _=>∃ (c:Nat) (a:Addr) (s:Stt),vs=[.ref a,.int c]/\SAt H s a/\(post s).length<=10000/\c<=1000 /\
 ∀ (t lw ll:Addr) (ws:List Wr) (H':Hp),Same H H'->H t=none->H' t=some (.tup [.int (enc s c).2.2,.ref lw])->H' lw=some (.lst (wrefs (ws++[(ll,[(enc s c).1])])))->WsOk H' (ws++[(ll,[(enc s c).1])])->wl ws=(enc s c).2.1->Q (.ref t) H'
section
variable {P:Program} {w:World} {K:W.Frag} {mg:Str->Option Value} {base:Heap}
theorem y2n (B:Blt mg) (Df:Def K mg "_law_sheet_due" z2a z3j):Cal P w K mg base 1 "_law_sheet_due" z3j (spDue K):=by
 refine Df.cal sc_l_sheet_due (fun vs H Q E h=>?_) (fun f cdv A outer s H vs Q E hr h=>?_)
 ·obtain⟨c,a,s,rfl,_⟩:=h;rfl
 ·obtain⟨c,a,s0,rfl,ha,hz,hc,q⟩:=h
  refine⟨_,(z0b (z0n (i:=2) sc_l_sheet_due.nd rfl (Or.inl rfl) (z0u (z0a (z2m (z0a (pv 0) (z0a pe_bl z0d))) z0d)))
 (z0b (z0n (i:=3) sc_l_sheet_due.nd rfl (Or.inl rfl) (z0u z0d))
 (z0b (z0n (i:=4) sc_l_sheet_due.nd rfl (Or.inl rfl) (z0u z0d))
 (z0b (z0n (i:=5) sc_l_sheet_due.nd rfl (Or.inl rfl) (pv 1))
 (z0b (z5z PassesOwn.never (z0k (x4d (hu0 hr)) (pv 2) (z0u z0d) (z0p _))
 (z0b (x3w (z4d PySem.F.plainAttrs_list PySem.F.slot_list_pop PySem.F.type_list_pop z4e (pv 2)) (x3z rfl (z4z (z1l (i:=6) sc_l_sheet_due.nd rfl (Or.inl rfl)) (z4z (z1l (i:=7) sc_l_sheet_due.nd rfl (Or.inl rfl)) y8e))))
 (z0e (ps_if (z0k op_eq (pe_ix ix_tup (pv 6) z0i (fun _ _=>rfl)) z1g (z0p _))
 (z0e (z0r (pe_bm PySem.F.plainAttrs_list PySem.F.slot_list_append PySem.F.type_list_append z0z (pv 3) (z0a (pe_ix ix_tup (pv 6) z0i (fun _ _=>rfl)) z0d))))
 (z0e (ps_if (z4b (z3p (pv 7)))
 (z0b (z0r (pe_bm PySem.F.plainAttrs_list PySem.F.slot_list_append PySem.F.type_list_append z0z (pv 2) (z0a (z2m (z0a (pv 6) (z0a pe_bl z0d))) z0d)))
 (z0e (z4c PassesOwn.never rfl (w1o B.reversed_ (z0a (y0q x8x (pv 6) (y1k z0i) y8c) z0d)) (z1l (i:=8) sc_l_sheet_due.nd rfl (Or.inl rfl))
 (z0e (z0r (pe_bm PySem.F.plainAttrs_list PySem.F.slot_list_append PySem.F.type_list_append z0z (pv 2) (z0a (z2m (z0a (pv 8) (z0a pe_bl z0d))) z0d)))))))
 (z0e (ps_if (z0k op_eq (pe_ix ix_tup (pv 6) z0i (fun _ _=>rfl)) z1g (z0p _))
 (z0e (z0r (pe_bm PySem.F.plainAttrs_list PySem.F.slot_list_append PySem.F.type_list_append z0z (pv 3) (z0a (pe_un z1c (z4d PySem.F.plainAttrs_list PySem.F.slot_list_pop PySem.F.type_list_pop z4e (pv 3))) z0d))))
 (z0b (z0n (i:=9) sc_l_sheet_due.nd rfl (Or.inl rfl) (z4d PySem.F.plainAttrs_list PySem.F.slot_list_pop PySem.F.type_list_pop z4e (pv 3)))
 (z0b (z0n (i:=8) sc_l_sheet_due.nd rfl (Or.inl rfl) (z4d PySem.F.plainAttrs_list PySem.F.slot_list_pop PySem.F.type_list_pop z4e (pv 3)))
 (z0b (z0n (i:=5) sc_l_sheet_due.nd rfl (Or.inl rfl) (pe_op z9z (pv 5) z0i))
 (z0b (ps_if (z0k op_eq (pe_ix ix_tup (pv 6) z0i (fun _ _=>rfl)) z1g (z0p _))
 (z0e (z0r (pe_bm PySem.F.plainAttrs_list PySem.F.slot_list_extend PySem.F.type_list_extend z2r (pv 4) (z0a (z0u (z0a (z0u (z0a (pe_un z1c (pv 5)) (z0a (pv 8) z0d))) (z0a (z0u (z0a (pe_un z1c (pv 5)) (z0a (pv 9) z0d))) (z0a (z0u (z0a (pv 5) (z0a (pe_un z1c (pv 8)) (z0a (pe_un z1c (pv 9)) z0d)))) z0d)))) z0d))))
 (z0e (ps_if (z0k op_eq (pe_ix ix_tup (pv 6) z0i (fun _ _=>rfl)) z1g (z0p _))
 (z0e (z0r (pe_bm PySem.F.plainAttrs_list PySem.F.slot_list_extend PySem.F.type_list_extend z2r (pv 4) (z0a (z0u (z0a (z0u (z0a (pv 5) (z0a (pe_un z1c (pv 8)) z0d))) (z0a (z0u (z0a (pv 5) (z0a (pe_un z1c (pv 9)) z0d))) (z0a (z0u (z0a (pe_un z1c (pv 5)) (z0a (pv 8) (z0a (pv 9) z0d)))) z0d)))) z0d))))
 (z0b (z0r (pe_bm PySem.F.plainAttrs_list PySem.F.slot_list_extend PySem.F.type_list_extend z2r (pv 4) (z0a (z0u (z0a (z0u (z0a (pe_un z1c (pv 5)) (z0a (pe_un z1c (pv 8)) (z0a (pv 9) z0d)))) (z0a (z0u (z0a (pe_un z1c (pv 5)) (z0a (pv 8) (z0a (pe_un z1c (pv 9)) z0d)))) z0d))) z0d)))
 (z0e (z0r (pe_bm PySem.F.plainAttrs_list PySem.F.slot_list_extend PySem.F.type_list_extend z2r (pv 4) (z0a (z0u (z0a (z0u (z0a (pv 5) (z0a (pv 8) (z0a (pv 9) z0d)))) (z0a (z0u (z0a (pv 5) (z0a (pe_un z1c (pv 8)) (z0a (pe_un z1c (pv 9)) z0d)))) z0d))) z0d))))))))
 (z0e (z0r (pe_bm PySem.F.plainAttrs_list PySem.F.slot_list_append PySem.F.type_list_append z0z (pv 3) (z0a (pv 5) z0d))))))))))))))))
 (z0e (z0o (z2m (z0a (pv 5) (z0a (pe_op y3a (pv 4) (z0u (z0a (pv 3) z0d))) z0d)))))))))),?_⟩
  have tupL:∀ {Hy:Hp} {o:HO} {z:Addr} {ys:List V},Hy z=some (.lst ys)->∀ a xs,Hy a=some (.tup xs)->upd Hy z o a=some (.tup xs):=fun {Hy o z ys} hl a xs h=>by rw[z0g (ne_of h hl (by intro q;cases q))];exact h
  refine⟨_,rfl,len2,fun p0 hp0=>?_⟩
  have s0':Same H (upd H p0 (.tup [.ref a,.bl false])):=(smR H).upd hp0
  have g0:upd H p0 (.tup [.ref a,.bl false]) p0=some (.tup [.ref a,.bl false]):=z0c
  generalize upd H p0 (.tup [.ref a,.bl false])=H0 at s0' g0
  refine⟨len1,fun lt hlt=>?_⟩
  have s1:Same H0 (upd H0 lt (.lst [V.ref p0])):=(smR H0).upd hlt
  have g1:upd H0 lt (.lst [V.ref p0]) lt=some (.lst (z3l [(p0,a,s0,false)])):=z0c
  generalize upd H0 lt (.lst [V.ref p0])=H1 at s1 g1
  refine⟨by decide,fun ll hll=>?_⟩
  have s2:Same H1 (upd H1 ll (.lst [])):=(smR H1).upd hll
  have g2:upd H1 ll (.lst []) ll=some (.lst (([]:List Int).reverse.map V.int)):=z0c
  have ntl:lt≠ll:=z0h g1 hll
  generalize upd H1 ll (.lst [])=H2 at s2 g2
  refine⟨by decide,fun lw hlw=>?_⟩
  have s3:Same H2 (upd H2 lw (.lst [])):=(smR H2).upd hlw
  have g3:upd H2 lw (.lst []) lw=some (.lst (wrefs [])):=z0c
  have ntw:lt≠lw:=z0h (s2 _ _ g1) hlw
  have nlw:ll≠lw:=z0h g2 hlw
  generalize upd H2 lw (.lst [])=H3 at s3 g3
  have s01:=s0'.trans s1
  have s02:=s01.trans s2
  have s03:=s02.trans s3
  have hltH:H lt=none:=s0'.free hlt
  have hllH:H ll=none:=s01.free hll
  have hlwH:H lw=none:=s02.free hlw
  refine⟨_,rfl,?_⟩
  refine z9x (y3q (fun m σ Hx=>∃ (ts:List Td) (x:Sh) (ws:List Wr) (v6 v7 v8 v9:Option V),m=tdW ts/\σ=[some (.ref a),some (.int c),some (.ref lt),some (.ref ll),some (.ref lw),some (.int x.p),v6,v7,v8,v9]/\DuB ts x.st ws lt lw ll H Hx/\DuN c s0 ts x ws)
   ⟨_,[(p0,a,s0,false)],⟨[],[],c⟩,[],none,none,none,none,rfl,rfl,⟨s03,s3 _ _ (s2 _ _ g1),g3,s3 _ _ g2,(fun r hr=>?_),(fun _ h=>nomatch h),(fun _ h=>nomatch h),ntw,ntl,nlw,hltH,hlwH,hllH⟩,rfl,?_,?_,?_,?_⟩ ?_)
  ·have:r=(p0,a,s0,false):=by simpa using hr
   rw[this];exact⟨s3 _ _ (s2 _ _ (s1 _ _ g0)),ha.same s03⟩
  ·have:=z6f s0 [] ⟨[],[],c⟩
   rw[List.append_nil]at this
   have e:flatT [(p0,a,s0,false)]=post s0:=by simp[flatT,flat1]
   rw[e,this]
   simp[runL]
  ·simp[flatT,flat1]
  ·simp[flatT,flat1]
  ·simp[flatT,flat1]
  rintro m σ Hx ⟨ts,x,ws,v6,v7,v8,v9,rfl,rfl,hI,hM⟩ Y X hY hX
  refine⟨_,rfl,by decide,fun le hle=>?_⟩
  have se:Same Hx (upd Hx le (.lst [])):=(smR Hx).upd hle
  have ge:upd Hx le (.lst []) le=some (.lst []):=z0c
  generalize upd Hx le (.lst [])=He at se ge
  have hI:=hI.same se
  refine⟨_,⟨lt,le,_,_,rfl,rfl,qLo hI.ht,qLo ge,.inl ⟨rfl,rfl⟩⟩,_,rfl,?_⟩
  by_cases hts:ts=[]
  ·subst hts
   refine iteF (hX _ _ ?_)
   have ex:x=⟨[(enc s0 c).1],(enc s0 c).2.1,(enc s0 c).2.2⟩:=Option.some.inj hM.run
   subst ex
   refine⟨_,rfl,_,rfl,_,rfl,len1,fun pl hpl=>?_⟩
   have s4:Same He (upd He pl (.lst [V.ref ll])):=(smR He).upd hpl
   have g4:upd He pl (.lst [V.ref ll]) pl=some (.lst [V.ref ll]):=z0c
   generalize upd He pl (.lst [V.ref ll])=H4 at s4 g4
   have h4:=hI.same s4
   have hwn:=hM.wn
   refine⟨lw,pl,_,_,rfl,rfl,h4.hw,g4,z1o (by rw[z2l];simp;omega),fun l2 hl2=>?_⟩
   have ewr:wrefs ws++[V.ref ll]=wrefs (ws++[(ll,[(enc s0 c).1])]):=by simp[wrefs]
   rw[ewr]
   have s5:Same H4 (upd H4 l2 (.lst (wrefs (ws++[(ll,[(enc s0 c).1])])))):=(smR H4).upd hl2
   have g5:upd H4 l2 (.lst (wrefs (ws++[(ll,[(enc s0 c).1])]))) l2=some (.lst (wrefs (ws++[(ll,[(enc s0 c).1])]))):=z0c
   generalize upd H4 l2 (.lst (wrefs (ws++[(ll,[(enc s0 c).1])])))=H5 at s5 g5
   have h5:=h4.same s5
   refine⟨len2,fun t ht=>?_⟩
   have s6:Same H5 (upd H5 t (.tup [.int ((enc s0 c).2.2:Nat),.ref l2])):=(smR H5).upd ht
   refine q t l2 ll ws _ (h5.sm.trans s6) (h5.sm.free ht) z0c (s6 _ _ g5) (fun r hr=>?_) hM.ew
   rcases mApp hr with z | z
   ·exact s6 _ _ (h5.ok r z)
   ·have:r=(ll,[(enc s0 c).1]):=by simpa using z
    rw[this];exact s6 _ _ h5.hl
  ·obtain⟨ti,r,rfl⟩:∃ ti r,ts=ti++[r]:=⟨_,_,(List.dropLast_concat_getLast hts).symm⟩
   have e1:(!(z3l (ti++[r])).isEmpty)=true:=by simp[z3l]
   rw[e1]
   refine iteT ⟨Y,fun _ _ h=>h,?_⟩
   have er:z3l (ti++[r])=z3l ti++[V.ref r.1]:=by simp[z3l]
   have hxt:=hI.ht
   rw[er]at hxt
   refine⟨_,rfl,.inl ⟨rfl,_,qLo hxt⟩,lt,_,.ref r.1,rfl,rfl,hxt,by simp,?_⟩
   have ed:(z3l ti++[V.ref r.1]).dropLast=z3l ti:=by simp
   dsimp only
   rw[ed]
   have h4:=hI.pop (xs:=z3l ti) rfl
   have hrk:upd He lt (.lst (z3l ti)) r.1=_:=z6n hI.ht _ _ (hI.tk r (by simp)).1
   have hrs:SAt (upd He lt (.lst (z3l ti))) r.2.2.1 r.2.1:=(hI.tk r (by simp)).2.mono (z6n hI.ht)
   generalize upd He lt (.lst (z3l ti))=H4 at h4 hrk hrs
   refine⟨r.1,_,rfl,qTo hrk,rfl,_,_,rfl,_,_,rfl,rfl,?_⟩
   have hrun:=hM.run
   have hsl:=hM.sl
   have hwn:=hM.wn
   have hpn:=hM.pn
   have hew:=hM.ew
   rw[x2o]at hrun hsl hwn hpn
   rw[x6z]at hY
   have htl:=x5x ti
   obtain⟨ra,pa,pt,fl⟩:=r
   obtain⟨x_st,x_W,x_p⟩:=x
   dsimp only at hrun hsl hwn hpn hew h4 hrs hrk hY
   rcases hrs.kids with ⟨k,rfl⟩ | ⟨wd0,chs,hpa,hnl,hPc,hpp,hcs⟩
   ·have hk:H4 pa=some (.tup [.str "lamp",.int k]):=hrs
    have ef:flat1 (.lamp k) fl=[.lamp k]:=by cases fl<;>rfl
    rw[ef]at hrun hsl hwn hpn
    refine⟨_,rfl,pa,_,_,_,rfl,rfl,qTo hk,rfl,rfl,_,rfl,iteT ?_⟩
    refine⟨_,rfl,.inl ⟨rfl,_,qLo h4.hl⟩,_,rfl,pa,_,_,_,rfl,rfl,qTo hk,rfl,ll,_,_,rfl,rfl,h4.hl,z1r (by simp at hsl ⊢;omega),?_⟩
    refine hY _ _ ⟨_,?_,ti,⟨(k:Int)::x_st,x_W,x_p⟩,ws,_,_,_,_,rfl,rfl,h4.let_ (by simp),hew,hrun,by simp at hsl ⊢;omega,by simp at hwn ⊢;omega,by simp at hpn ⊢;omega⟩
    cases fl<;>simp[post]
   ·have h0:atI (V.str wd0::prefs chs) 0=some (V.str wd0):=by rcases hcs with ⟨q,rfl⟩ | ⟨q,r,rfl⟩<;>rfl
    refine⟨_,rfl,pa,_,_,_,rfl,rfl,qTo hpa,h0,rfl,_,rfl,ite2 (fun z=>by rw[hnl]at z;cases z) (fun _=>?_)⟩
    cases fl with
    | false =>
     refine⟨_,rfl,_,rfl,iteT ?_⟩
     have hul:(flatT ti).length+3<=10003:=by have:=z6q pt;simp[flat1]at hsl;omega
     refine⟨_,rfl,.inl ⟨rfl,_,qLo h4.ht⟩,_,rfl,len2,fun p5 hp5=>?_⟩
     refine⟨lt,_,_,rfl,rfl,by rw[z0g (z0h h4.ht hp5)];exact h4.ht,z1r (by rw[y2t];omega),?_⟩
     have h6:=h4.push (b:=true) hp5 hrs
     have k6:∀ a xs,H4 a=some (.tup xs)->upd (upd H4 p5 (.tup [.ref pa,.bl true])) lt (.lst (z3l ti++[V.ref p5])) a=some (.tup xs):=fun a xs h=>z6n (by rw[z0g (z0h h4.ht hp5)];exact h4.ht) _ _ (by rw[z0g (z0h h hp5)];exact h)
     dsimp only
     generalize upd (upd H4 p5 (.tup [.ref pa,.bl true])) lt (.lst (z3l ti++[V.ref p5]))=H6 at h6 k6
     have hpa6:=k6 _ _ hpa
     have hP6:PsOk H6 chs:=hPc.tups k6
     have hcut:cutV (V.str wd0::prefs chs) (some 1) none=prefs chs:=by rcases hcs with ⟨q,rfl⟩ | ⟨q,r,rfl⟩<;>rfl
     refine⟨_,rfl,_,rfl,pa,_,rfl,qTo hpa6,?_,fun p7 hp7=>?_⟩
     ·rcases hcs with ⟨q,rfl⟩ | ⟨q,r,rfl⟩
      ·show ¬ (HT.sIx 2 0 (some 1)=0/\HT.sIx 2 2 none=2)
       decide
      ·show ¬ (HT.sIx 3 0 (some 1)=0/\HT.sIx 3 3 none=3)
       decide
     rw[hcut]
     have s7:Same H6 (upd H6 p7 (.tup (prefs chs))):=(smR H6).upd hp7
     have g7:upd H6 p7 (.tup (prefs chs)) p7=some (.tup (prefs chs)):=z0c
     generalize upd H6 p7 (.tup (prefs chs))=H7 at s7 g7
     have hcl:(prefs chs).length<=2:=by rcases hcs with ⟨q,rfl⟩ | ⟨q,r,rfl⟩<;>simp[prefs]
     refine⟨p7,_,rfl,qTo g7,?_⟩
     refine w0o (K:=K) (a:=p7) (xs:=prefs chs) (fun i σ Hx=>∃ (ds:List Td) (v8:Option V),ds.map (·.2)=(chs.reverse.take i).map (fun q=>(q.1,q.2,false))/\σ=[some (.ref a),some (.int c),some (.ref lt),some (.ref ll),some (.ref lw),some (.int x_p),some (.ref pa),some (.bl false),v8,v9]/\DuB (ti++[(p5,pa,pt,true)]++ds) x_st ws lt lw ll H Hx/\Hx p7=some (.tup (prefs chs))/\PsOk Hx chs)
      ⟨[],v8,rfl,rfl,by rw[List.append_nil];exact h6.same s7,g7,hP6.same s7⟩ (fun i σ Hx _ ⟨_,_,_,_,_,e,_⟩=>qTo e) ?_ ?_
     ·rintro i y σ Hx hi ⟨ds,v8,eds,rfl,hB,h7,hPx⟩
      have erv:(prefs chs).reverse=prefs chs.reverse:=by simp[prefs]
      rw[erv]at hi
      obtain⟨p,hpi,rfl⟩:=getV (f:=fun p:Pt=>V.ref p.1) hi
      have hpm:p∈chs:=by simpa using List.mem_of_getElem? hpi
      have hil:i < (prefs chs).length:=by have:=(List.getElem?_eq_some_iff.mp hpi).1;simpa[prefs] using this
      have hdl:ds.length<=i:=by have:=congrArg List.length eds;simp at this;omega
      refine⟨_,rfl,.inl ⟨rfl,_,qLo hB.ht⟩,_,rfl,len2,fun p8 hp8=>?_⟩
      refine⟨lt,_,_,rfl,rfl,by rw[z0g (z0h hB.ht hp8)];exact hB.ht,z1r (by rw[y2t];simp;omega),?_⟩
      have h8:=hB.push (b:=false) hp8 (hPx p hpm)
      have k8:∀ a xs,Hx a=some (.tup xs)->upd (upd Hx p8 (.tup [.ref p.1,.bl false])) lt (.lst (z3l (ti++[(p5,pa,pt,true)]++ds)++[V.ref p8])) a=some (.tup xs):=fun a xs h=>z6n (by rw[z0g (z0h hB.ht hp8)];exact hB.ht) _ _ (by rw[z0g (z0h h hp8)];exact h)
      refine⟨ds++[(p8,p.1,p.2,false)],_,?_,rfl,by rw[←List.append_assoc];exact h8,k8 _ _ h7,hPx.tups k8⟩
      rw[List.map_append,eds,List.take_add_one,hpi];simp
     ·rintro σ Hx ⟨ds,v8,eds,rfl,hB,h7,hPx⟩
      have etk:chs.reverse.take (prefs chs).length=chs.reverse:=by rw[List.take_of_length_le];simp[prefs]
      rw[etk]at eds
      have efl:flatT (ti++[(p5,pa,pt,true)]++ds)=post pt++flatT ti:=by
       rw[x0u,List.map_append,List.map_append,eds,x0u,hpp]
       rcases hcs with ⟨q,rfl⟩ | ⟨q,r,rfl⟩<;>simp[flat1,posts]
      have etw:tdW (ti++[(p5,pa,pt,true)]++ds) < tdW ti+2 * (post pt).length:=by
       rw[x8s,List.map_append,List.map_append,eds,x8s,hpp]
       rcases hcs with ⟨q,rfl⟩ | ⟨q,r,rfl⟩<;>simp[tdV,posts]<;>omega
      have ef1:flat1 pt false=post pt:=rfl
      rw[ef1]at hrun hsl hwn hpn
      exact hY _ _ ⟨_,etw,_,⟨x_st,x_W,x_p⟩,ws,_,_,_,_,rfl,rfl,hB,hew,by rw[efl];exact hrun,by rw[efl];exact hsl,by rw[efl];exact hwn,by rw[efl];exact hpn⟩
    | true =>
     refine⟨_,rfl,_,rfl,iteF ?_⟩
     cases pt with
     | lamp k =>
      have hk:H4 pa=some (.tup [.str "lamp",.int k]):=hrs
      rw[hk]at hpa
      have:=Option.some.inj hpa
      injection this with h1
      injection h1 with h2 h3
      rw[←h2]at hnl
      exact absurd hnl (by decide +kernel)
     | non s1 =>
      obtain⟨b,hb,_⟩:=hrs
      cases x_st with
      | nil=>cases hrun
      | cons l0 st =>
       have hxll:=h4.hl
       have er:((l0::st).reverse.map V.int)=st.reverse.map V.int++[V.int l0]:=by simp
       rw[er]at hxll
       refine⟨_,rfl,pa,_,_,_,rfl,rfl,qTo hb,rfl,rfl,_,rfl,iteT ?_⟩
       refine⟨_,rfl,.inl ⟨rfl,_,qLo hxll⟩,_,rfl,.inl ⟨rfl,_,qLo hxll⟩,ll,_,.int l0,rfl,rfl,hxll,by simp,_,rfl,?_⟩
       have ed:(st.reverse.map V.int++[V.int l0]).dropLast=st.reverse.map V.int:=by simp
       dsimp only
       rw[ed]
       refine⟨ll,_,_,rfl,rfl,z0c,z1r (by simp at hsl ⊢;omega),?_⟩
       exact hY _ _ ⟨_,Nat.lt_succ_self _,ti,⟨-l0::st,x_W,x_p⟩,ws,_,_,_,_,rfl,rfl,(h4.let_ (st':=st) rfl).let_ (by simp),hew,hrun,by simp[flat1]at hsl ⊢;omega,by simp[flat1]at hwn ⊢;omega,by simp[flat1]at hpn ⊢;omega⟩
     | two wd s1 s2 =>
      obtain⟨b,d,hb,_,_⟩:=hrs
      have nn:¬ V.str wd.str=V.str "not":=by cases wd<;>(intro z;revert z;decide +kernel)
      cases x_st with
      | nil=>cases hrun
      | cons y0 st =>
       cases st with
       | nil=>cases hrun
       | cons x0 st =>
        have hxll:=h4.hl
        have er:((y0::x0::st).reverse.map V.int)=(x0::st).reverse.map V.int++[V.int y0]:=by simp
        rw[er]at hxll
        refine⟨_,rfl,pa,_,_,_,rfl,rfl,qTo hb,rfl,rfl,_,rfl,ite2 (fun z=>absurd (of_decide_eq_true z) nn) (fun _=>?_)⟩
        refine⟨_,rfl,.inl ⟨rfl,_,qLo hxll⟩,ll,_,.int y0,rfl,rfl,hxll,by simp,?_⟩
        have ed:((x0::st).reverse.map V.int++[V.int y0]).dropLast=(x0::st).reverse.map V.int:=by simp
        dsimp only
        rw[ed]
        have h5:=h4.let_ (st':=x0::st) (xs:=(x0::st).reverse.map V.int) rfl
        have hb5:upd H4 ll (.lst ((x0::st).reverse.map V.int)) pa=_:=z6n hxll _ _ hb
        generalize upd H4 ll (.lst ((x0::st).reverse.map V.int))=H5 at h5 hb5
        have h5l:=h5.hl
        have er2:((x0::st).reverse.map V.int)=st.reverse.map V.int++[V.int x0]:=by simp
        rw[er2]at h5l
        refine⟨_,rfl,.inl ⟨rfl,_,qLo h5l⟩,ll,_,.int x0,rfl,rfl,h5l,by simp,?_⟩
        have ed2:(st.reverse.map V.int++[V.int x0]).dropLast=st.reverse.map V.int:=by simp
        dsimp only
        rw[ed2]
        have h6:=h5.let_ (st':=st) (xs:=st.reverse.map V.int) rfl
        have hb6:upd H5 ll (.lst (st.reverse.map V.int)) pa=_:=z6n h5l _ _ hb5
        generalize upd H5 ll (.lst (st.reverse.map V.int))=H6 at h6 hb6
        refine⟨_,rfl,_,_,rfl,rfl,?_⟩
        have elp:((x_p:Int)+1)=((x_p+1:Nat):Int):=by omega
        dsimp only
        rw[elp]
        refine rd_k fun N hN=>?_
        have fin:∀ {Hy:Hp} {ws':List Wr},DuB ti st ws' lt lw ll H Hy->wl ws'=x_W++wishW wd ((x_p+1:Nat):Int) x0 y0->ws'.length<=ws.length+4->N [some (.ref a),some (.int c),some (.ref lt),some (.ref ll),some (.ref lw),some (.int ((x_p+1:Nat):Int)),some (.ref pa),some (.bl true),some (.int x0),some (.int y0)] Hy:=fun {Hy ws'} hB he hl=>by
         refine hN _ _ ⟨_,rfl,.inl ⟨rfl,_,qLo hB.hl⟩,_,rfl,ll,_,_,rfl,rfl,hB.hl,z1r (by simp at hsl ⊢;omega),?_⟩
         exact hY _ _ ⟨_,Nat.lt_succ_self _,ti,⟨((x_p+1:Nat):Int)::st,x_W++wishW wd ((x_p+1:Nat):Int) x0 y0,x_p+1⟩,ws',_,_,_,_,rfl,rfl,hB.let_ (by simp),he,hrun,by simp[flat1]at hsl ⊢;omega,by simp[flat1]at hwn ⊢;omega,by simp[flat1]at hpn ⊢;omega⟩
        have hwl:ws.length<=40000:=by omega
        have ewl:∀ us:List Wr,wl (ws++us)=x_W++wl us:=fun us=>by simp[wl]at hew ⊢;exact hew
        generalize ((x_p+1:Nat):Int)=p at fin
        cases wd with
        | and =>
         refine⟨_,rfl,pa,_,_,_,rfl,rfl,qTo hb6,rfl,rfl,_,rfl,iteT ?_⟩
         refine⟨_,rfl,.inl ⟨rfl,_,qLo h6.hw⟩,_,rfl,_,rfl,_,rfl,len2,fun p1 q1=>?_⟩
         have L1:=(Laid.zero H6).new (v:=[-p,x0]) rfl q1
         refine⟨_,rfl,_,rfl,_,rfl,len2,fun p2 q2=>?_⟩
         have L2:=L1.new (v:=[-p,y0]) rfl q2
         refine⟨_,rfl,_,rfl,_,rfl,_,rfl,_,rfl,len3,fun p3 q3=>?_⟩
         have L3:=L2.new (v:=[p,-x0,-y0]) rfl q3
         refine⟨len3,fun l hl=>?_⟩
         have L4:=L3.over (o:=.lst [V.ref p1,V.ref p2,V.ref p3]) hl
         refine⟨lw,l,_,_,rfl,rfl,(h6.same L4.sm).hw,.inl z0c,z1o (by rw[z2l];simp;omega),?_⟩
         exact fin (h6.wish L4 (by simp[wrefs])) (by rw[ewl];rfl) (by simp)
        | or =>
         refine⟨_,rfl,pa,_,_,_,rfl,rfl,qTo hb6,rfl,rfl,_,rfl,iteF ?_⟩
         refine⟨_,rfl,pa,_,_,_,rfl,rfl,qTo hb6,rfl,rfl,_,rfl,iteT ?_⟩
         refine⟨_,rfl,.inl ⟨rfl,_,qLo h6.hw⟩,_,rfl,_,rfl,_,rfl,len2,fun p1 q1=>?_⟩
         have L1:=(Laid.zero H6).new (v:=[p,-x0]) rfl q1
         refine⟨_,rfl,_,rfl,_,rfl,len2,fun p2 q2=>?_⟩
         have L2:=L1.new (v:=[p,-y0]) rfl q2
         refine⟨_,rfl,_,rfl,_,rfl,_,rfl,len3,fun p3 q3=>?_⟩
         have L3:=L2.new (v:=[-p,x0,y0]) rfl q3
         refine⟨len3,fun l hl=>?_⟩
         have L4:=L3.over (o:=.lst [V.ref p1,V.ref p2,V.ref p3]) hl
         refine⟨lw,l,_,_,rfl,rfl,(h6.same L4.sm).hw,.inl z0c,z1o (by rw[z2l];simp;omega),?_⟩
         exact fin (h6.wish L4 (by simp[wrefs])) (by rw[ewl];rfl) (by simp)
        | same =>
         refine⟨_,rfl,pa,_,_,_,rfl,rfl,qTo hb6,rfl,rfl,_,rfl,iteF ?_⟩
         refine⟨_,rfl,pa,_,_,_,rfl,rfl,qTo hb6,rfl,rfl,_,rfl,iteF ?_⟩
         refine⟨_,rfl,.inl ⟨rfl,_,qLo h6.hw⟩,_,rfl,_,rfl,_,rfl,_,rfl,_,rfl,len3,fun p1 q1=>?_⟩
         have L1:=(Laid.zero H6).new (v:=[-p,-x0,y0]) rfl q1
         refine⟨_,rfl,_,rfl,_,rfl,_,rfl,_,rfl,len3,fun p2 q2=>?_⟩
         have L2:=L1.new (v:=[-p,x0,-y0]) rfl q2
         refine⟨len2,fun l hl=>?_⟩
         have L4:=L2.over (o:=.lst [V.ref p1,V.ref p2]) hl
         refine⟨lw,l,_,_,rfl,rfl,(h6.same L4.sm).hw,.inl z0c,z1o (by rw[z2l];simp;omega),?_⟩
         have h7:=h6.wish L4 (xs:=wrefs ws++[V.ref p1,V.ref p2]) (by simp[wrefs])
         refine⟨_,rfl,.inl ⟨rfl,_,qLo h7.hw⟩,_,rfl,_,rfl,_,rfl,len3,fun p3 q3=>?_⟩
         have M1:=(Laid.zero _).new (v:=[p,x0,y0]) rfl q3
         refine⟨_,rfl,_,rfl,_,rfl,_,rfl,_,rfl,len3,fun p4 q4=>?_⟩
         have M2:=M1.new (v:=[p,-x0,-y0]) rfl q4
         refine⟨len2,fun l' hl'=>?_⟩
         have M4:=M2.over (o:=.lst [V.ref p3,V.ref p4]) hl'
         refine⟨lw,l',_,_,rfl,rfl,(h7.same M4.sm).hw,.inl z0c,z1o (by rw[z2l];simp;omega),?_⟩
         refine fin (h7.wish M4 (by simp[wrefs])) ?_ (by simp)
         rw[List.append_assoc,ewl];rfl
end
theorem y3z {bs:List Bool} {n:Int} (h:n≠0):so bs (-n)=!so bs n:=by
 unfold so
 have e1:(-n).natAbs=n.natAbs:=Int.natAbs_neg n
 rw[e1]
 by_cases h0:0 < n
 ·have e2:decide (0 < -n)=false:=decide_eq_false (by omega)
  rw[e2,decide_eq_true h0];cases bs.getD (n.natAbs - 1) false<;>rfl
 ·have e2:decide (0 < -n)=true:=decide_eq_true (by omega)
  rw[e2,decide_eq_false h0];cases bs.getD (n.natAbs - 1) false<;>rfl
theorem y9h (L:List Bool) (w:Wd) {q a b:Int} (hq:q≠0) (ha:a≠0) (hb:b≠0):((wishW w q a b).all fun v=>v.any (so L))=(so L q == opW w (so L a) (so L b)):=by
 cases w<;>simp only[wishW,List.all_cons,List.all_nil,List.any_cons,List.any_nil,y3z hq,y3z ha,y3z hb,opW]<;>(cases so L q<;>cases so L a<;>cases so L b<;>rfl)
theorem x6w {w:Wd} {q a b:Int} {N:Nat} (hq:q≠0/\q.natAbs<=N) (ha:a≠0/\a.natAbs<=N) (hb:b≠0/\b.natAbs<=N):∀ v∈wishW w q a b,v≠[]/\∀ n∈v,n≠0/\n.natAbs<=N:=by
 have e:∀ n,n=q∨n=-q∨n=a∨n=-a∨n=b∨n=-b->n≠0/\n.natAbs<=N:=fun n h=>by omega
 intro v hv
 cases w<;>simp only[wishW,List.mem_cons,List.not_mem_nil,or_false]at hv
 ·rcases hv with z | z | z<;>(subst z;refine⟨by simp,fun n hn=>e n ?_⟩;simp only[List.mem_cons,List.not_mem_nil,or_false]at hn;omega)
 ·rcases hv with z | z | z<;>(subst z;refine⟨by simp,fun n hn=>e n ?_⟩;simp only[List.mem_cons,List.not_mem_nil,or_false]at hn;omega)
 ·rcases hv with z | z | z | z<;>(subst z;refine⟨by simp,fun n hn=>e n ?_⟩;simp only[List.mem_cons,List.not_mem_nil,or_false]at hn;omega)
theorem enc_p (b:List Bool):∀ (s:Stt) (p:Nat),(enc s p).2.2=p+(btS b s).length
 | .lamp k,p=>by simp[enc,btS]
 | .non s,p=>by simp only[enc,btS];exact enc_p b s p
 | .two w s t,p=>by
  have h1:=enc_p b s p
  have h2:=enc_p b t (enc s p).2.2
  simp[enc,btS];omega
theorem z6l {n:Nat}:∀ (s:Stt) (p:Nat),okS n s->n<=p->((enc s p).1≠0/\(enc s p).1.natAbs<=(enc s p).2.2)/\p<=(enc s p).2.2/\∀ v∈(enc s p).2.1,v≠[]/\∀ m∈v,m≠0/\m.natAbs<=(enc s p).2.2
 | .lamp k,p,h,hp=>by
  have h1:1<=k/\k<=n:=h
  simp[enc];omega
 | .non s,p,h,hp=>by
  obtain⟨h1,h2,h3⟩:=z6l s p h hp
  simp only[enc]
  exact⟨⟨by omega,by rw[Int.natAbs_neg];exact h1.2⟩,h2,h3⟩
 | .two w s t,p,h,hp=>by
  obtain⟨h1,h2,h3⟩:=z6l s p h.1 hp
  obtain⟨g1,g2,g3⟩:=z6l t (enc s p).2.2 h.2 (by omega)
  simp only[enc]
  refine⟨⟨by omega,by omega⟩,by omega,fun v hv=>?_⟩
  rcases mApp hv with z | z
  ·rcases mApp z with y | y
   ·exact⟨(h3 v y).1,fun m hm=>⟨((h3 v y).2 m hm).1,by have:=((h3 v y).2 m hm).2;omega⟩⟩
   ·exact⟨(g3 v y).1,fun m hm=>⟨((g3 v y).2 m hm).1,by have:=((g3 v y).2 m hm).2;omega⟩⟩
  ·exact x6w ⟨by omega,by omega⟩ ⟨h1.1,by omega⟩ ⟨g1.1,by omega⟩ v z
def Agr (L b:List Bool) (p:Nat) (ts:List Bool):Prop:=(∀ i,i < b.length->L.getD i false=b.getD i false)/\∀ i,i < ts.length->L.getD (p+i) false=ts.getD i false
theorem Agr.app {L b:List Bool} {p:Nat} {ts us:List Bool} (h:Agr L b p (ts++us)):Agr L b p ts/\Agr L b (p+ts.length) us:=by
 refine⟨⟨h.1,fun i hi=>?_⟩,h.1,fun i hi=>?_⟩
 ·rw[h.2 i (by simp;omega)]
  simp[List.getD_eq_getElem?_getD,List.getElem?_append_left hi]
 ·have:=h.2 (ts.length+i) (by simp;omega)
  rw[←Nat.add_assoc]at this
  rw[this]
  simp[List.getD_eq_getElem?_getD,List.getElem?_append_right]
theorem y3l {b:List Bool} (L:List Bool):∀ (s:Stt) (p:Nat),okS b.length s->b.length<=p->Agr L b p (btS b s)->so L (enc s p).1=valS b s/\∀ v∈(enc s p).2.1,v.any (so L)=true
 | .lamp k,p,h,hp,ha=>by
  have h1:1<=k/\k<=b.length:=h
  refine⟨?_,fun v hv=>nomatch hv⟩
  show so L (k:Int)=b.getD (k - 1) false
  unfold so
  have e:decide (0 < (k:Int))=true:=decide_eq_true (by omega)
  have e2:(k:Int).natAbs - 1=k - 1:=by omega
  rw[e,e2,ha.1 (k - 1) (by omega)]
  cases b.getD (k - 1) false<;>rfl
 | .non s,p,h,hp,ha=>by
  obtain⟨h1,h2⟩:=y3l L s p h hp ha
  refine⟨?_,h2⟩
  show so L (-(enc s p).1)=!valS b s
  rw[y3z (z6l s p h hp).1.1,h1]
 | .two w s t,p,h,hp,ha=>by
  have ha':Agr L b p ((btS b s++btS b t)++[opW w (valS b s) (valS b t)]):=ha
  obtain⟨a1,a3⟩:=ha'.app
  obtain⟨a1,a2⟩:=a1.app
  have i1:=z6l s p h.1 hp
  have e1:=enc_p b s p
  obtain⟨h1,h2⟩:=y3l L s p h.1 hp a1
  have i2:=z6l t (enc s p).2.2 h.2 (by omega)
  obtain⟨g1,g2⟩:=y3l L t (enc s p).2.2 h.2 (by omega) (by rw[e1];exact a2)
  have e2:=enc_p b t (enc s p).2.2
  have hq:so L (((enc t (enc s p).2.2).2.2+1:Nat):Int)=opW w (valS b s) (valS b t):=by
   unfold so
   have e:decide (0 < (((enc t (enc s p).2.2).2.2+1:Nat):Int))=true:=decide_eq_true (by omega)
   have e4:((((enc t (enc s p).2.2).2.2+1:Nat):Int)).natAbs - 1=p+(btS b s++btS b t).length+0:=by simp;omega
   rw[e,e4,a3.2 0 (by simp)]
   simp
  refine⟨hq,fun v hv=>?_⟩
  rcases mApp hv with z | z
  ·exact (mApp z).elim (h2 v) (g2 v)
  ·have:=y9h L w (q:=(((enc t (enc s p).2.2).2.2+1:Nat):Int)) (by omega) i1.1.1 i2.1.1
   rw[hq,h1,g1,beq_self_eq_true]at this
   exact List.all_eq_true.mp this v z
theorem y4u {b:List Bool} (L:List Bool) (hb:∀ i,i < b.length->L.getD i false=b.getD i false):∀ (s:Stt) (p:Nat),okS b.length s->b.length<=p->(∀ v∈(enc s p).2.1,v.any (so L)=true)->Agr L b p (btS b s)/\so L (enc s p).1=valS b s
 | .lamp k,p,h,hp,ha=>by
  have e:Agr L b p (btS b (.lamp k)):=⟨hb,fun i hi=>nomatch hi⟩
  exact⟨e,(y3l L (.lamp k) p h hp e).1⟩
 | .non s,p,h,hp,ha=>by
  obtain⟨h1,h2⟩:=y4u L hb s p h hp ha
  exact⟨h1,(y3l L (.non s) p h hp h1).1⟩
 | .two w s t,p,h,hp,ha=>by
  have i1:=z6l s p h.1 hp
  have e1:=enc_p b s p
  have i2:=z6l t (enc s p).2.2 h.2 (by omega)
  have e2:=enc_p b t (enc s p).2.2
  obtain⟨h1,h2⟩:=y4u L hb s p h.1 hp fun v hv=>ha v (List.mem_append_left _ (List.mem_append_left _ hv))
  obtain⟨g1,g2⟩:=y4u L hb t (enc s p).2.2 h.2 (by omega) fun v hv=>ha v (List.mem_append_left _ (List.mem_append_right _ hv))
  have w3:((wishW w (((enc t (enc s p).2.2).2.2+1:Nat):Int) (enc s p).1 (enc t (enc s p).2.2).1).all fun v=>v.any (so L))=true:=List.all_eq_true.mpr fun v hv=>ha v (List.mem_append_right _ hv)
  rw[y9h L w (by omega) i1.1.1 i2.1.1]at w3
  have hq:=eq_of_beq w3
  rw[h2,g2]at hq
  have hq':L.getD (enc t (enc s p).2.2).2.2 false=opW w (valS b s) (valS b t):=by
   rw[←hq];unfold so
   have e:decide (0 < (((enc t (enc s p).2.2).2.2+1:Nat):Int))=true:=decide_eq_true (by omega)
   have e4:((((enc t (enc s p).2.2).2.2+1:Nat):Int)).natAbs - 1=(enc t (enc s p).2.2).2.2:=by omega
   rw[e,e4];cases L.getD (enc t (enc s p).2.2).2.2 false<;>rfl
  refine⟨⟨hb,fun i hi=>?_⟩,hq⟩
  have hi':i < (btS b s).length+((btS b t).length+1):=by simpa[btS,Nat.add_assoc] using hi
  show L.getD (p+i) false=(btS b s++btS b t++[opW w (valS b s) (valS b t)]).getD i false
  by_cases c1:i < (btS b s).length
  ·rw[h1.2 i c1,List.append_assoc]
   simp[List.getD_eq_getElem?_getD,List.getElem?_append_left c1]
  ·by_cases c2:i < (btS b s).length+(btS b t).length
   ·have:=g1.2 (i - (btS b s).length) (by omega)
    have ei:(enc s p).2.2+(i - (btS b s).length)=p+i:=by omega
    rw[ei]at this
    rw[this,List.append_assoc]
    simp only[List.getD_eq_getElem?_getD]
    rw[List.getElem?_append_right (by omega),List.getElem?_append_left (by omega)]
   ·have ei:p+i=(enc t (enc s p).2.2).2.2:=by omega
    rw[ei,hq']
    simp only[List.getD_eq_getElem?_getD]
    rw[List.getElem?_append_right (by simp;omega)]
    have:i - (btS b s++btS b t).length=0:=by simp;omega
    rw[this];rfl
def shW (s:Stt) (n:Nat):List (List Int):=(enc s n).2.1++[[(enc s n).1]]
theorem y5o {b:List Bool} {s:Stt} (h:okS b.length s) (hv:valS b s=true):z1z (shW s b.length) (b++btS b s):=by
 have hag:Agr (b++btS b s) b b.length (btS b s):=by
  refine⟨fun i hi=>?_,fun i hi=>?_⟩
  ·simp[List.getD_eq_getElem?_getD,List.getElem?_append_left hi]
  ·simp[List.getD_eq_getElem?_getD,List.getElem?_append_right]
 obtain⟨h1,h2⟩:=y3l (b++btS b s) s b.length h (Nat.le_refl _) hag
 intro v hv'
 rcases mApp hv' with z | z
 ·exact h2 v z
 ·have:v=[(enc s b.length).1]:=by simpa using z
  rw[this];simp[h1,hv]
theorem x3k {n:Nat} {s:Stt} {L:List Bool} (h:okS n s) (hn:n<=L.length) (hm:z1z (shW s n) L):valS (L.take n) s=true:=by
 have e:(L.take n).length=n:=by rw[List.length_take];omega
 have h':okS (L.take n).length s:=by rw[e];exact h
 have:=y4u (b:=L.take n) L (fun i hi=>by
  rw[e]at hi
  simp[List.getD_eq_getElem?_getD,List.getElem?_take_of_lt hi]) s n h' (by omega) fun v hv=>hm v (List.mem_append_left _ hv)
 rw[←this.2]
 have h2:=hm [(enc s n).1] (List.mem_append_right _ (by simp))
 simpa using h2
theorem x6b:∀ {b b' x y:List Bool},b.length=b'.length->b≠b'->erl (b++x) (b'++y)=erl b b'
 | [],[],_,_,_,h=>absurd rfl h
 | a::b,a'::b',x,y,hl,h=>by
  show (if a=a' then erl (b++x) (b'++y) else a)=if a=a' then erl b b' else a
  by_cases e:a=a'
  ·rw[if_pos e,if_pos e]
   refine x6b (by simpa using hl) fun z=>h (by rw[e,z])
  ·rw[if_neg e,if_neg e]
theorem y7x {n:Nat} {s:Stt} {L:List Bool} (h:okS n s) (hL:L.length=(enc s n).2.2) (hm:z1z (shW s n) L) (hf:∀ L':List Bool,L'.length=(enc s n).2.2->z1z (shW s n) L'->L'≠L->erl L L'=true) :
 (allS n).find? (fun b=>valS b s)=some (L.take n):=by
 have hnL:n<=L.length:=by rw[hL];exact (z6l s n h (Nat.le_refl _)).2.1
 have e:(L.take n).length=n:=by rw[List.length_take];omega
 refine y3i (x3k h hnL hm) (x1c n) (mem_allS.mpr e) fun b hb hv hne=>?_
 have hbl:=mem_allS.mp hb
 subst hbl
 have hv':valS b s=true:=hv
 have h3:=hf (b++btS b s) (by rw[enc_p b s b.length];simp) (y5o h hv') fun z=>hne (by rw[←z];simp)
 have e2:L=L.take b.length++L.drop b.length:=(List.take_append_drop _ _).symm
 rw[e2,x6b e (fun z=>hne z.symm)]at h3
 exact h3
theorem x1j {n:Nat} {s:Stt} (h:okS n s) (hno:∀ L,z1z (shW s n) L->False) {b:List Bool} (hb:b.length=n):valS b s=false:=by
 subst hb
 cases hv:valS b s with
 | false=>rfl
 | true=>exact (hno _ (y5o h hv)).elim
theorem w0e {W:List (List Int)} {T v:List Int} (hv:v∈W) (hn:z2v W T=none) (hb:z1e W T=none):cnt v T≠some 1:=by
 unfold z2v at hn
 rw[hb]at hn
 cases ho:oneAt W T with
 | some i=>rw[ho]at hn;cases hn
 | none =>
  unfold oneAt at ho
  rw[List.findIdx?_eq_none_iff]at ho
  have:=ho v hv
  intro z
  rw[z]at this
  simp at this
theorem x1t {l:List Int} {p:Int->Bool} {y:Int} (hn:l.Nodup) (hy:y∈l) (hp:p y=true) (h:∀ x∈l,p x=true->x=y):(l.filter p).length=1:=by
 have h1:y∈l.filter p:=List.mem_filter.mpr ⟨hy,hp⟩
 have h2:(l.filter p).Nodup:=hn.filter p
 have h3:∀ x∈l.filter p,x=y:=fun x hx=>h x (List.mem_filter.mp hx).1 (List.mem_filter.mp hx).2
 generalize l.filter p=m at h1 h2 h3
 match m,h1,h2,h3 with
 | [_],_,_,_=>rfl
 | a::b::r,_,h2,h3 =>
  have e1:=h3 a (by simp)
  have e2:=h3 b (by simp)
  have:=(List.nodup_cons.mp h2).1
  exact absurd (by rw[e1,e2];simp) this
theorem x7m {v T:List Int} {y:Int} (hy:y∈v) (h1:¬ y∈T) (h2:¬ -y∈T) (h3:∀ z∈v,z≠y->-z∈T/\¬ z∈T):cnt v T=some 1:=by
 unfold cnt
 have k:¬ z3n v T=true:=fun z=>by
  unfold z3n at z
  obtain⟨x,hx,e⟩:=List.any_eq_true.mp z
  have e:=of_decide_eq_true e
  by_cases hxy:x=y
  ·exact h1 (hxy ▸ e)
  ·exact (h3 x hx hxy).2 e
 rw[if_neg k]
 congr 1
 unfold z3h
 refine x1t (z7o v) (mem_once.mpr hy) (by simp[h2]) fun x hx hp=>?_
 by_cases hxy:x=y
 ·exact hxy
 ·have:=(h3 x (mem_once.mp hx) hxy).1
  simp[this]at hp
theorem x8i {W:List (List Int)} {T:List Int} {w:Wd} {q a b:Int} (hd:Dis T) (hn:z2v W T=none) (hb:z1e W T=none) (hW:∀ v∈wishW w q a b,v∈W) (q0:q≠0) (a0:a≠0) (b0:b≠0) (ha:a∈T∨-a∈T) (hb':b∈T∨-b∈T):q∈T∨-q∈T:=by
 by_cases h1:q∈T
 ·exact .inl h1
 by_cases h2:-q∈T
 ·exact .inr h2
 have off:∀ z,z≠0->-z∈T->-z∈T/\¬ z∈T:=fun z z0 h=>⟨h,fun hz=>hd.opp hz z0 h⟩
 have key:∀ v y,v∈wishW w q a b->y∈v->(y=q∨y=-q)->(∀ z∈v,z≠y->-z∈T/\¬ z∈T)->False:=fun v y hv hy e h3=>by
  refine w0e (hW v hv) hn hb (x7m hy ?_ ?_ h3)
  ·rcases e with e | e<;>rw[e]<;>assumption
  ·rcases e with e | e<;>rw[e]
   ·exact h2
   ·rw[Int.neg_neg];exact h1
 have na:a∈T->-a∈T∨True:=fun _=>.inr trivial
 have oa:a∈T->(- -a∈T/\¬ -a∈T):=fun h=>off (-a) (by omega) (by rw[Int.neg_neg];exact h)
 have ob:b∈T->(- -b∈T/\¬ -b∈T):=fun h=>off (-b) (by omega) (by rw[Int.neg_neg];exact h)
 have fa:-a∈T->(-a∈T/\¬ a∈T):=off a a0
 have fb:-b∈T->(-b∈T/\¬ b∈T):=off b b0
 have two:∀ {y z1:Int},(-z1∈T/\¬ z1∈T)->∀ z∈[y,z1],z≠y->-z∈T/\¬ z∈T:=fun {y z1} h z hz ne=>by
  have:z=y∨z=z1:=by simpa using hz
  rcases this with e | e
  ·exact absurd e ne
  ·rw[e];exact h
 have thr:∀ {y z1 z2:Int},(-z1∈T/\¬ z1∈T)->(-z2∈T/\¬ z2∈T)->∀ z∈[y,z1,z2],z≠y->-z∈T/\¬ z∈T:=fun {y z1 z2} h g z hz ne=>by
  have:z=y∨z=z1∨z=z2:=by simpa using hz
  rcases this with e | e | e
  ·exact absurd e ne
  ·rw[e];exact h
  ·rw[e];exact g
 exfalso
 cases w with
 | and =>
  rcases ha with ha | ha
  ·rcases hb' with hb' | hb'
   ·exact key [q,-a,-b] q (by simp[wishW]) (by simp) (.inl rfl) (thr (oa ha) (ob hb'))
   ·exact key [-q,b] (-q) (by simp[wishW]) (by simp) (.inr rfl) (two (fb hb'))
  ·exact key [-q,a] (-q) (by simp[wishW]) (by simp) (.inr rfl) (two (fa ha))
 | or =>
  rcases ha with ha | ha
  ·exact key [q,-a] q (by simp[wishW]) (by simp) (.inl rfl) (two (oa ha))
  ·rcases hb' with hb' | hb'
   ·exact key [q,-b] q (by simp[wishW]) (by simp) (.inl rfl) (two (ob hb'))
   ·exact key [-q,a,b] (-q) (by simp[wishW]) (by simp) (.inr rfl) (thr (fa ha) (fb hb'))
 | same =>
  rcases ha with ha | ha<;>rcases hb' with hb' | hb'
  ·exact key [q,-a,-b] q (by simp[wishW]) (by simp) (.inl rfl) (thr (oa ha) (ob hb'))
  ·exact key [-q,-a,b] (-q) (by simp[wishW]) (by simp) (.inr rfl) (thr (oa ha) (fb hb'))
  ·exact key [-q,a,-b] (-q) (by simp[wishW]) (by simp) (.inr rfl) (thr (fa ha) (ob hb'))
  ·exact key [q,a,b] q (by simp[wishW]) (by simp) (.inl rfl) (thr (fa ha) (fb hb'))
theorem y4v {n:Nat} {W:List (List Int)} {T:List Int} (hd:Dis T) (hn:z2v W T=none) (hb:z1e W T=none):∀ (s:Stt) (p:Nat),okS n s->n<=p->(∀ v∈(enc s p).2.1,v∈W)->(∀ m:Nat,1<=m->m<=p->∃ y∈T,y.natAbs=m)->∀ m:Nat,1<=m->m<=(enc s p).2.2->∃ y∈T,y.natAbs=m
 | .lamp _,p,_,_,_,hs=>hs
 | .non s,p,h,hp,hW,hs=>y4v hd hn hb s p h hp hW hs
 | .two w s t,p,h,hp,hW,hs=>by
  have i1:=z6l s p h.1 hp
  have i2:=z6l t (enc s p).2.2 h.2 (by omega)
  have hs1:=y4v hd hn hb s p h.1 hp (fun v hv=>hW v (List.mem_append_left _ (List.mem_append_left _ hv))) hs
  have hs2:=y4v hd hn hb t (enc s p).2.2 h.2 (by omega) (fun v hv=>hW v (List.mem_append_left _ (List.mem_append_right _ hv))) hs1
  have lit:∀ y:Int,y≠0->y.natAbs<=(enc t (enc s p).2.2).2.2->y∈T∨-y∈T:=fun y y0 hy=>by
   obtain⟨z,hz,e⟩:=hs2 y.natAbs (by omega) hy
   have:z=y∨z=-y:=by omega
   rcases this with e | e
   ·exact .inl (e ▸ hz)
   ·exact .inr (e ▸ hz)
  intro m h1 h2
  have h2':m<=(enc t (enc s p).2.2).2.2+1:=h2
  by_cases c:m<=(enc t (enc s p).2.2).2.2
  ·exact hs2 m h1 c
  ·have em:m=(enc t (enc s p).2.2).2.2+1:=by omega
   have:=x8i (w:=w) (q:=(((enc t (enc s p).2.2).2.2+1:Nat):Int)) hd hn hb (fun v hv=>hW v (List.mem_append_right _ hv)) (by omega) i1.1.1 i2.1.1 (lit _ i1.1.1 (by omega)) (lit _ i2.1.1 i2.1.2)
   rcases this with z | z
   ·exact⟨_,z,by omega⟩
   ·exact⟨_,z,by omega⟩
theorem x6f {n:Nat} {s:Stt} (h:okS n s):Det (enc s n).2.2 n (shW s n):=fun W T hW hd hn hb hs =>
 y4v hd hn hb s n h (Nat.le_refl _) (fun v hv=>hW v (List.mem_append_left _ hv)) hs
theorem wish3:∀ (s:Stt) (p:Nat),∀ v∈(enc s p).2.1,v.length<=3
 | .lamp _,_,v,h=>nomatch h
 | .non s,p,v,h=>wish3 s p v h
 | .two w s t,p,v,h=>by
  rcases mApp h with z | z
  ·exact (mApp z).elim (wish3 s p v) (wish3 t _ v)
  ·cases w<;>simp only[wishW,List.mem_cons,List.not_mem_nil,or_false]at z
   ·rcases z with z | z | z<;>(subst z;simp)
   ·rcases z with z | z | z<;>(subst z;simp)
   ·rcases z with z | z | z | z<;>(subst z;simp)
theorem y0z {n:Nat}:∀ {W:List (List Int)},(∀ v∈W,v.length<=n)->total W<=n * W.length
 | [],_=>Nat.zero_le _
 | v::W,h=>by
  have h1:=y0z (W:=W) fun x hx=>h x (List.mem_cons_of_mem _ hx)
  have h2:=h v List.mem_cons_self
  have e:total (v::W)=v.length+total W:=by simp[total]
  rw[e,List.length_cons,Nat.mul_succ];omega
def y5k (K:W.Frag):Sp:=fun vs H Q _=>∃ (n:Nat) (a:Addr) (s:Stt),vs=[.int n,.ref a]/\SAt H s a/\okS n s/\n<=16/\(post s).length<=200/\(enc s n).2.2<=28 /\
 (∀ (t l:Addr) (b:List Bool) (H':Hp),Same H H'->H' t=some (.tup [.str "yes",.ref l])->H' l=some (.lst (b.map V.bl))->(allS n).find? (fun b=>valS b s)=some b->Q (.ref t) H') /\
 ∀ (t l:Addr) (ss:List Sr) (H':Hp),Same H H'->H' t=some (.tup [.str "no",.ref l])->H' l=some (.lst (srefs ss))->SsOk H' ss->y5c (shW s n) (sls ss)->ss.length<=(enc s n).2.2 * 2 ^ n->(∀ s∈ss,s.2.2.2.2.2.length<=28)->(∀ r∈ss,∀ y∈r.2.2.2.2.2,y≠0/\y.natAbs<=(enc s n).2.2)->(∀ b:List Bool,b.length=n->valS b s=false)->Q (.ref t) H'
section
variable {P:Program} {w:World} {K:W.Frag} {mg:Str->Option Value} {base:Heap}
theorem x1u (B:Blt mg) (c_sheet_of:Cal P w K mg base 2 "sheet_of" z4k (y1c K)) (c_solved:Cal P w K mg base 6 "solved" z6t (y3u K)) (Df:Def K mg "weighed" z4p z6i):Cal P w K mg base 7 "weighed" z6i (y5k K):=by
 refine Df.cal sc_weighed (fun vs H Q E h=>?_) (fun f cdv A outer s H vs Q E hr h=>?_)
 ·obtain⟨n,a,s,rfl,_⟩:=h;rfl
 ·obtain⟨n,a,s0,rfl,ha,hok,hn,hps,h28,qy,qn⟩:=h
  refine⟨_,(z0b (z0n (i:=2) sc_weighed.nd rfl (Or.inl rfl) (z1d c_sheet_of hr (by decide) (z0a (pv 0) (z0a (pv 1) z0d))))
 (z0b (z0n (i:=3) sc_weighed.nd rfl (Or.inl rfl) (z1d c_solved hr (by decide) (z0a (pe_ix ix_tup (pv 2) z0i (fun _ _=>rfl)) (z0a (pe_ix ix_tup (pv 2) z0i (fun _ _=>rfl)) z0d))))
 (z0b (ps_if (z0k op_eq (pe_ix ix_tup (pv 3) z0i (fun _ _=>rfl)) z1g (z0p _))
 (z0e (z0o (z2m (z0a z1g (z0a (y0q x3i (pe_ix ix_tup (pv 3) z0i (fun _ _=>rfl)) y8c (y1k (pv 0))) z0d)))))
 z0q)
 (z0e (z0o (pv 3)))))),?_⟩
  refine⟨_,rfl,_,rfl,n,a,s0,rfl,ha,by omega,by omega,fun t lw ll ws H1 s1 ht h1t h1w hO1 hew hne hlw hwn=>?_⟩
  have hin:=z6l s0 n hok (Nat.le_refl _)
  have ewl:wl (ws++[(ll,[(enc s0 n).1])])=shW s0 n:=by unfold shW;rw[←hew];simp[wl]
  have h3:∀ v∈shW s0 n,v.length<=3:=fun v hv=>by
   rcases mApp hv with z | z
   ·exact wish3 s0 n v z
   ·have:v=[(enc s0 n).1]:=by simpa using z
    rw[this];simp
  have hlet:∀ v∈shW s0 n,∀ y∈v,y≠0/\y.natAbs<=(enc s0 n).2.2:=fun v hv y hy=>by
   rcases mApp hv with z | z
   ·exact (hin.2.2 v z).2 y hy
   ·have:v=[(enc s0 n).1]:=by simpa using z
    rw[this]at hy
    have:y=(enc s0 n).1:=by simpa using hy
    rw[this];exact hin.1
  have hto:=y0z h3
  have hsl:(shW s0 n).length=(ws++[(ll,[(enc s0 n).1])]).length:=by rw[←ewl,z4a]
  refine⟨_,rfl,t,_,_,_,rfl,rfl,qTo h1t,rfl,_,rfl,t,_,_,_,rfl,rfl,qTo h1t,rfl,(enc s0 n).2.2,n,lw,ws++[(ll,[(enc s0 n).1])],rfl,qLo h1w,hO1,h28,hin.2.1,hn,by simp;omega,by rw[ewl];simp at hsl;omega,by rw[ewl];exact fun v hv=>by have:=h3 v hv;omega,by rw[ewl];exact hlet,by rw[ewl];exact x6f hok,?_,?_⟩
  ·intro t2 l2 L H2 ht2 hl2 s2 h2t h2l hLl hm hf
   rw[ewl]at hm hf
   refine⟨_,rfl,t2,_,_,_,rfl,rfl,qTo h2t,rfl,rfl,_,rfl,iteT ?_⟩
   refine⟨_,rfl,t2,_,_,_,rfl,rfl,qTo h2t,rfl,_,rfl,_,rfl,l2,_,rfl,qLo h2l,fun pz hpz=>?_⟩
   have ec:cutV (L.map V.bl) none (some (n:Int))=(L.take n).map V.bl:=by rw[w0r,List.map_take]
   rw[ec]
   have s3:Same H2 (upd H2 pz (.lst ((L.take n).map V.bl))):=(smR H2).upd hpz
   have g3:upd H2 pz (.lst ((L.take n).map V.bl)) pz=some (.lst ((L.take n).map V.bl)):=z0c
   generalize upd H2 pz (.lst ((L.take n).map V.bl))=H3 at s3 g3
   refine⟨len2,fun t3 ht3=>?_⟩
   have s4:Same H3 (upd H3 t3 (.tup [.str "yes",.ref pz])):=(smR H3).upd ht3
   exact qy t3 pz (L.take n) _ (s1.trans (s2.trans (s3.trans s4))) z0c (s4 _ _ g3) (y7x hok hLl hm hf)
  ·intro t2 l2 ss H2 ht2 hl2 s2 h2t h2l hO2 hsh hssl hsv hsy hno
   rw[ewl]at hsh hno
   refine⟨_,rfl,t2,_,_,_,rfl,rfl,qTo h2t,rfl,rfl,_,rfl,iteF ?_⟩
   exact⟨_,rfl,qn t2 l2 ss H2 (s1.trans s2) h2t h2l hO2 hsh hssl hsv hsy fun b hb=>x1j hok hno hb⟩
end
def depS:Stt->Nat
 | .lamp _=>1
 | .non s=>depS s+1
 | .two _ s t=>max (depS s) (depS t)+1
theorem x8j:∀ s:Stt,0 < depS s
 | .lamp _=>Nat.zero_lt_one
 | .non _=>Nat.succ_pos _
 | .two _ _ _=>Nat.succ_pos _
def y7q (d:Nat):Sp:=fun vs H Q _=>∃ (a b:Addr) (s:Stt) (bs:List Bool),vs=[.ref a,.ref b]/\SAt H s a/\H b=some (.lst (bs.map V.bl))/\okS bs.length s/\depS s<=d/\Q (.bl (valS bs s)) H
section
variable {P:Program} {w:World} {K:W.Frag} {mg:Str->Option Value} {base:Heap}
theorem z8u (Df:Def K mg "_law_truth_of" z2p z3f):∀ d:Nat,Cal P w K mg base (d+1) "_law_truth_of" z3f (y7q d)
 | 0=>by
  refine Df.cal sc_l_truth_of (fun vs H Q E h=>?_) (fun f cdv A outer s H vs Q E hr h=>?_)
  ·obtain⟨a,b,s,bs,rfl,_⟩:=h;rfl
  ·obtain⟨a,b,s,bs,rfl,_,_,_,hd,_⟩:=h
   have:=x8j s
   omega
 | d+1=>by
  have c_l_truth_of:=z8u Df d
  refine Df.cal sc_l_truth_of (fun vs H Q E h=>?_) (fun f cdv A outer s H vs Q E hr h=>?_)
  ·obtain⟨a,b,s,bs,rfl,_⟩:=h;rfl
  ·obtain⟨a,b,s0,bs,rfl,ha,hb,hok,hd,q⟩:=h
   refine⟨_,(z0b (ps_if (z0k op_eq (pe_ix ix_tup (pv 0) z0i (fun _ _=>rfl)) z1g (z0p _))
 (z0e (z0o (pe_ix ix_list (pv 1) (pe_op y6d (pe_ix ix_tup (pv 0) z0i (fun _ _=>rfl)) z0i) (fun _ _=>rfl))))
 z0q)
 (z0b (z0n (i:=2) sc_l_truth_of.nd rfl (Or.inl rfl) (z1d c_l_truth_of hr (by omega) (z0a (pe_ix ix_tup (pv 0) z0i (fun _ _=>rfl)) (z0a (pv 1) z0d))))
 (z0b (ps_if (z0k op_eq (pe_ix ix_tup (pv 0) z0i (fun _ _=>rfl)) z1g (z0p _))
 (z0e (z0o (y6a (pv 2))))
 z0q)
 (z0b (z0n (i:=3) sc_l_truth_of.nd rfl (Or.inl rfl) (z1d c_l_truth_of hr (by omega) (z0a (pe_ix ix_tup (pv 0) z0i (fun _ _=>rfl)) (z0a (pv 1) z0d))))
 (z0b (ps_if (z0k op_eq (pe_ix ix_tup (pv 0) z0i (fun _ _=>rfl)) z1g (z0p _))
 (z0e (z0o (y2y (pv 2) (z8a (pv 3)))))
 z0q)
 (z0b (ps_if (z0k op_eq (pe_ix ix_tup (pv 0) z0i (fun _ _=>rfl)) z1g (z0p _))
 (z0e (z0o (pe_or (pv 2) (z8a (pv 3)))))
 z0q)
 (z0e (z0o (z6e op_eq (pv 2) (pv 3) (z0p _)))))))))),?_⟩
   cases s0 with
   | lamp k =>
    have hk:H a=some (.tup [.str "lamp",.int k]):=ha
    have h1:1<=k/\k<=bs.length:=hok
    have e3:atI (bs.map V.bl) ((k:Int) - 1)=some (.bl (bs.getD (k - 1) false)):=by
     have e:((k:Int) - 1)=((k - 1:Nat):Int):=by omega
     have hlt:k - 1 < bs.length:=by omega
     rw[e];exact z4f (by simp[hlt])
    refine⟨_,rfl,a,_,_,_,rfl,rfl,qTo hk,rfl,rfl,_,rfl,iteT ?_⟩
    exact⟨_,rfl,_,rfl,a,_,_,_,rfl,rfl,qTo hk,rfl,_,_,rfl,rfl,b,_,_,_,rfl,rfl,qLo hb,e3,q⟩
   | non s1 =>
    obtain⟨b1,h1,hs1⟩:=ha
    have hd1:depS s1<=d:=Nat.le_of_succ_le_succ hd
    refine⟨_,rfl,a,_,_,_,rfl,rfl,qTo h1,rfl,rfl,_,rfl,iteF ?_⟩
    refine⟨_,rfl,a,_,_,_,rfl,rfl,qTo h1,rfl,_,rfl,b1,b,s1,bs,rfl,hs1,hb,hok,hd1,?_⟩
    refine⟨_,rfl,a,_,_,_,rfl,rfl,qTo h1,rfl,rfl,_,rfl,iteT ?_⟩
    exact⟨_,rfl,_,rfl,q⟩
   | two wd s1 s2 =>
    obtain⟨b1,b2,h1,hs1,hs2⟩:=ha
    have hd':max (depS s1) (depS s2)<=d:=Nat.le_of_succ_le_succ hd
    have nl:¬ V.str wd.str=V.str "lamp":=by cases wd<;>(intro z;revert z;decide +kernel)
    have nn:¬ V.str wd.str=V.str "not":=by cases wd<;>(intro z;revert z;decide +kernel)
    refine⟨_,rfl,a,_,_,_,rfl,rfl,qTo h1,rfl,rfl,_,rfl,ite2 (fun z=>absurd (of_decide_eq_true z) nl) fun _=>?_⟩
    refine⟨_,rfl,a,_,_,_,rfl,rfl,qTo h1,rfl,_,rfl,b1,b,s1,bs,rfl,hs1,hb,hok.1,by omega,?_⟩
    refine⟨_,rfl,a,_,_,_,rfl,rfl,qTo h1,rfl,rfl,_,rfl,ite2 (fun z=>absurd (of_decide_eq_true z) nn) fun _=>?_⟩
    refine⟨_,rfl,a,_,_,_,rfl,rfl,qTo h1,rfl,_,rfl,b2,b,s2,bs,rfl,hs2,hb,hok.2,by omega,?_⟩
    have qv:Q (.bl (opW wd (valS bs s1) (valS bs s2))) H:=q
    generalize valS bs s1=x1 at qv
    generalize valS bs s2=x2 at qv
    cases wd with
    | and =>
     refine⟨_,rfl,a,_,_,_,rfl,rfl,qTo h1,rfl,rfl,_,rfl,iteT ?_⟩
     cases x1<;>cases x2<;>first | exact⟨_,rfl,_,rfl,qv⟩ | exact⟨_,rfl,_,rfl,_,rfl,qv⟩ | exact⟨_,rfl,.inl ⟨rfl,qv⟩⟩ | exact⟨_,rfl,.inr ⟨rfl,_,rfl,qv⟩⟩
    | or =>
     refine⟨_,rfl,a,_,_,_,rfl,rfl,qTo h1,rfl,rfl,_,rfl,iteF ?_⟩
     refine⟨_,rfl,a,_,_,_,rfl,rfl,qTo h1,rfl,rfl,_,rfl,iteT ?_⟩
     cases x1<;>cases x2<;>first | exact⟨_,rfl,_,rfl,qv⟩ | exact⟨_,rfl,_,rfl,_,rfl,qv⟩ | exact⟨_,rfl,.inl ⟨rfl,qv⟩⟩ | exact⟨_,rfl,.inr ⟨rfl,_,rfl,qv⟩⟩
    | same =>
     refine⟨_,rfl,a,_,_,_,rfl,rfl,qTo h1,rfl,rfl,_,rfl,iteF ?_⟩
     refine⟨_,rfl,a,_,_,_,rfl,rfl,qTo h1,rfl,rfl,_,rfl,iteF ?_⟩
     cases x1<;>cases x2<;>exact⟨_,rfl,_,rfl,rfl,qv⟩
end
theorem x1a {K:W.Frag} {a:Addr} {b:Bool} {fs:List Sf} {σ:L2.St} {js:List Nat} {te:TE} {Q:VK} {H:Hp} (h:H a=some (.lst (frefs fs))) (hF:FsOk H fs) (hz:fs.length<=10000000)
 (he:∀ (f:Sf) (H2:Hp) (N:VK),H2 f.1=some (.lst (f.2.map V.bl))->f∈fs->(∀ p H3,H2 p=none->Same H2 H3->H3 p=some (.lst ((b::f.2).map V.bl))->N (.ref p) H3)->te (inner σ js (some (.ref f.1))) H2 N)
 (hd:∀ (l:Addr) (gs:List Sf) (H':Hp),H l=none->Same H H'->FsOk H' gs->gs.map (·.2)=(fs.map (·.2)).map (b::·)->H' l=some (.lst (frefs gs))->Q (.ref l) H'):CompW (Itl K a) σ js tTrue te Q H:=by
 refine y7c (K:=K) (a:=a) (xs:=frefs fs) (fun i ys H2=>∃ gs:List Sf,ys=frefs gs/\Same H H2/\FsOk H2 gs/\gs.map (·.2)=((fs.map (·.2)).take i).map (b::·)) ⟨[],rfl,smR _,(fun _ h=>nomatch h),by simp⟩ (z1o (by rw[y1y];omega)) (fun i ys H2 _ ⟨_,_,e,_⟩=>qLo (e _ _ h)) ?_ ?_
 ·rintro i y ys H2 N hi hyl ⟨gs,rfl,sm2,hO,hwl⟩ hN
  obtain⟨f,hfi,rfl⟩:=getV (f:=fun q:Sf=>V.ref q.1) hi
  have hmem:=List.mem_of_getElem? hfi
  have hf2:(fs.map (·.2))[i]?=some f.2:=by rw[List.getElem?_map,hfi];rfl
  refine iteT ?_
  refine he f H2 _ (sm2 _ _ (hF f hmem)) hmem fun pl H3 hpl s3 h3=>?_
  refine hN _ _ ⟨gs++[(pl,b::f.2)],by simp[frefs],sm2.trans s3,fun q hq=>?_,?_⟩ (by simpa using hyl)
  ·rcases mApp hq with z | z
   ·exact (hO.mono s3) q z
   ·have:q=(pl,b::f.2):=by simpa using z
    rw[this];exact h3
  ·rw[List.take_add_one,hf2,List.map_append,hwl];simp
 ·rintro ys H2 ⟨gs,rfl,sm2,hO,hwl⟩ l hl
  have s3:Same H2 (upd H2 l (.lst (frefs gs))):=(smR H2).upd hl
  refine hd l gs _ (sm2.free hl) (sm2.trans s3) (hO.mono s3) ?_ z0c
  have el:(frefs fs).length=(fs.map (·.2)).length:=by simp[frefs]
  rw[hwl,el,List.take_length]
def w2h (H:Hp) (o:Option (List Bool)) (v:V):Prop:=match o with
 | none=>v=.non
 | some s=>∃ l,v=.ref l/\H l=some (.lst (s.map V.bl))
def y9p (d:Nat):Sp:=fun vs H Q _=>∃ (c:Nat) (a:Addr) (s0:Stt),vs=[.int c,.ref a]/\SAt H s0 a/\okS c s0/\depS s0<=d/\c<=16/\∀ (v:V) (H':Hp),Same H H'->w2h H' ((allS c).find? fun b=>valS b s0) v->Q v H'
section
variable {P:Program} {w:World} {K:W.Frag} {mg:Str->Option Value} {base:Heap}
theorem y1o (B:Blt mg) {d:Nat} (c_l_truth_of:Cal P w K mg base (d+1) "_law_truth_of" z3f (y7q d)) (Df:Def K mg "_law_first_true" z1x z2u):Cal P w K mg base (d+2) "_law_first_true" z2u (y9p d):=by
 refine Df.cal sc_l_first_true (fun vs H Q E h=>?_) (fun f cdv A outer s H vs Q E hr h=>?_)
 ·obtain⟨c,a,s0,rfl,_⟩:=h;rfl
 ·obtain⟨c,a,s0,rfl,ha,hok,hd,hc,q⟩:=h
  refine⟨_,(z0b (z0n (i:=2) sc_l_first_true.nd rfl (Or.inl rfl) (z0u (z0a (z0u z0d) z0d)))
 (z0b (z4c PassesOwn.never rfl (y5y (by rfl) B.range_ (z0a (pv 0) z0d)) (z1l (i:=3) sc_l_first_true.nd rfl (Or.inl rfl))
 (z0e (z0n (i:=2) sc_l_first_true.nd rfl (Or.inl rfl) (pe_op y3a (z6s (fvn:=[]) (js:=[]) rfl (z1u (pv 2)) .nil ⟨by decide +kernel,rfl,by decide +kernel,rfl,by decide +kernel,by decide +kernel⟩ (fun _ _ _ _ _=>y8b) (fun _ _ _ _ _=>(pe_op y3a (z0u (z0a pe_bl z0d)) (pv 0)))) (z6s (fvn:=[]) (js:=[]) rfl (z1u (pv 2)) .nil ⟨by decide +kernel,rfl,by decide +kernel,rfl,by decide +kernel,by decide +kernel⟩ (fun _ _ _ _ _=>y8b) (fun _ _ _ _ _=>(pe_op y3a (z0u (z0a pe_bl z0d)) (pv 0))))))))
 (z0b (z4c PassesOwn.never rfl (z1u (pv 2)) (z1l (i:=4) sc_l_first_true.nd rfl (Or.inl rfl))
 (z0e (ps_if (z3p (z1d c_l_truth_of hr (by omega) (z0a (pv 1) (z0a (pv 4) z0d))))
 (z0e (z0o (pv 4)))
 z0q)))
 (z0e (z0o z6g))))),?_⟩
  refine⟨by decide,fun l0 hl0=>⟨len1,fun lr hlr=>?_⟩⟩
  have s1:Same H (upd H l0 (.lst [])):=(smR H).upd hl0
  have g1:upd H l0 (.lst []) l0=some (.lst []):=z0c
  generalize upd H l0 (.lst [])=H1 at s1 g1 hlr
  have s2:Same H1 (upd H1 lr (.lst [V.ref l0])):=(smR H1).upd hlr
  have g2:upd H1 lr (.lst [V.ref l0]) lr=some (.lst (frefs [(l0,[])])):=z0c
  generalize upd H1 lr (.lst [V.ref l0])=H2 at s2 g2
  have hl2:=s2 _ _ g1
  have s02:=s1.trans s2
  have en:((c:Int)).toNat=c:=by omega
  refine⟨_,rfl,_,rfl,by omega,by omega,?_⟩
  rw[en]
  refine y1z (fun i σ Hx=>∃ (lr:Addr) (rs:List Sf) (v3:Option V),σ=[some (.int c),some (.ref a),some (.ref lr),v3,none]/\Same H Hx/\Hx lr=some (.lst (frefs rs))/\FsOk Hx rs/\rs.map (·.2)=allS i)
   ⟨lr,[(l0,[])],none,rfl,s02,g2,fun f hf=>by
    have:f=(l0,[]):=by simpa using hf
    rw[this];exact hl2,rfl⟩ ?_ ?_
  ·rintro i σ Hx hi ⟨lr,rs,v3,rfl,sx,hx,hF,hal⟩
   have hrl:rs.length<=65536:=by
    have e:rs.length=(allS i).length:=by rw[←hal];simp
    rw[e,y5b]
    have:(2:Nat) ^ i<=2 ^ 16:=Nat.pow_le_pow_right (by decide) (by omega)
    omega
   have row:∀ (b:Bool) (f:Sf) (H2:Hp) (N:VK),H2 f.1=some (.lst (f.2.map V.bl))->f∈rs->(∀ p H3,H2 p=none->Same H2 H3->H3 p=some (.lst ((b::f.2).map V.bl))->N (.ref p) H3)->((V.ref f.1=V.ref f.1)/\(1<=sizeLine/\∀ p1,H2 p1=none->∃ l bb xs zs,V.ref p1=.ref l/\V.ref f.1=.ref bb/\upd H2 p1 (.lst [V.bl b]) l=some (.lst xs)/\upd H2 p1 (.lst [V.bl b]) bb=some (.lst zs)/\xs.length+zs.length<=sizeLine/\∀ p,upd H2 p1 (.lst [V.bl b]) p=none->N (.ref p) (upd (upd H2 p1 (.lst [V.bl b])) p (.lst (xs++zs))))):=by
    intro b f H2 N hf hm hN
    have hfl:f.2.length<=16:=by
     have:f.2∈allS i:=by rw[←hal];exact List.mem_map.mpr ⟨f,hm,rfl⟩
     rw[mem_allS.mp this];omega
    refine⟨rfl,z1o (by omega),fun p1 hp1=>⟨p1,f.1,_,_,rfl,rfl,z0c,by rw[z0g (z0h hf hp1)];exact hf,z1o (by simp;omega),fun p hp=>?_⟩⟩
    have t1:Same H2 (upd H2 p1 (.lst [V.bl b])):=(smR H2).upd hp1
    exact hN p _ (t1.free hp) (t1.trans ((smR _).upd hp)) z0c
   refine y5u (te:=tOp _ _ _) (rd_op (ta:=tComp _ _ _ _) (z3v (K:=K) ?_))
   refine⟨_,rfl,lr,rfl,⟨_,qLo hx⟩,?_⟩
   refine x1a (b:=true) hx hF (by omega) (fun f H2 N hf hm hN=>?_) fun l3 gs H3 hl3 s3 hG3 e3 h3=>?_
   ·obtain⟨_,k⟩:=row true f H2 N hf hm hN
    exact⟨len1,fun p1 hp1=>⟨_,rfl,k.2 p1 hp1⟩⟩
   refine z3v (K:=K) ?_
   refine⟨_,rfl,lr,rfl,⟨_,qLo (s3 _ _ hx)⟩,?_⟩
   refine x1a (b:=false) (s3 _ _ hx) (hF.mono s3) (by omega) (fun f H2 N hf hm hN=>?_) fun l4 ks H4 hl4 s4 hG4 e4 h4=>?_
   ·obtain⟨_,k⟩:=row false f H2 N hf hm hN
    exact⟨len1,fun p1 hp1=>⟨_,rfl,k.2 p1 hp1⟩⟩
   have hgl:gs.length=rs.length:=by have:=congrArg List.length e3;simpa using this
   have hkl:ks.length=rs.length:=by have:=congrArg List.length e4;simpa using this
   refine⟨l3,l4,_,_,rfl,rfl,s4 _ _ h3,h4,z1o (by rw[y1y,y1y];omega),fun p hp=>?_⟩
   have s5:Same H4 (upd H4 p (.lst (frefs gs++frefs ks))):=(smR H4).upd hp
   refine⟨p,gs++ks,_,rfl,((sx.trans s3).trans s4).trans s5,by rw[z0c];simp[frefs],fun f hf=>?_,?_⟩
   ·rcases mApp hf with z | z
    ·exact ((hG3.mono s4).mono s5) f z
    ·exact (hG4.mono s5) f z
   ·rw[List.map_append,e3,e4,hal];rfl
  ·rintro σ Hx ⟨lr,rs,v3,rfl,sx,hx,hF,hal⟩
   refine⟨_,rfl,lr,rfl,⟨_,qLo hx⟩,z4o (K:=K) (a:=lr) (xs:=frefs rs) (fun i σ Hy=>∃ v4,σ=[some (.int c),some (.ref a),some (.ref lr),v3,v4]/\Hy=Hx/\∀ s∈(allS c).take i,valS s s0=false)
    ⟨none,rfl,rfl,by simp⟩ (fun i σ Hy _ ⟨_,_,e,_⟩=>by rw[e];exact qLo hx) ?_ ?_⟩
   ·rintro i y σ Hy hi ⟨v4,rfl,rfl,hno⟩
    obtain⟨f,hfi,rfl⟩:=getV (f:=fun q:Sf=>V.ref q.1) hi
    have hmem:=List.mem_of_getElem? hfi
    have hf2:(allS c)[i]?=some f.2:=by rw[←hal,List.getElem?_map,hfi];rfl
    have hlen:f.2.length=c:=mem_allS.mp (List.mem_of_getElem? hf2)
    refine⟨_,rfl,_,rfl,a,f.1,s0,f.2,rfl,ha.same sx,hF f hmem,by rw[hlen];exact hok,hd,_,rfl,ite2 (fun c1=>?_) (fun c1=>?_)⟩
    ·refine⟨_,rfl,q _ _ sx ?_⟩
     have:((allS c).find? fun b=>valS b s0)=some f.2:=by
      refine List.find?_eq_some_iff_getElem.mpr ⟨c1,i,(List.getElem?_eq_some_iff.mp hf2).1,?_,fun j hj=>?_⟩
      ·exact (List.getElem?_eq_some_iff.mp hf2).2
      ·have hjl:j < (allS c).length:=by have:=(List.getElem?_eq_some_iff.mp hf2).1;omega
       have:=hno (allS c)[j] (List.mem_iff_getElem?.mpr ⟨j,by rw[List.getElem?_take_of_lt hj,List.getElem?_eq_getElem hjl]⟩)
       rw[this];rfl
     rw[this]
     exact⟨f.1,rfl,hF f hmem⟩
    ·refine⟨_,rfl,rfl,fun s hs=>?_⟩
     rw[List.take_add_one,hf2]at hs
     rcases mApp hs with z | z
     ·exact hno s z
     ·have:s=f.2:=by simpa using z
      rw[this]
      exact Bool.eq_false_iff.mpr c1
   ·rintro σ Hy ⟨v4,rfl,rfl,hno⟩
    refine q _ _ sx ?_
    have:((allS c).find? fun b=>valS b s0)=none:=by
     rw[List.find?_eq_none]
     intro s hs
     have el:(frefs rs).length=(allS c).length:=by rw[←hal];simp[frefs]
     rw[el,List.take_length]at hno
     rw[hno s hs];simp
    rw[this];rfl
end
def y3w (K:W.Frag):Sp:=fun vs H Q _=>∃ (a b:Addr) (x:Int) (ns ms:List Int),vs=[.ref a,.ref b,.int x]/\SqL K H a (ns.map V.int)/\SqL K H b (ms.map V.int)/\ns.length+ms.length<=1000/\(∀ n∈ns,n.natAbs<=10000)/\(∀ n∈ms,n.natAbs<=10000) /\
 ∀ l H',H l=none->Same H H'->H' l=some (.lst ((mrg x ns ms).map V.int))->Q (.ref l) H'
section
variable {P:Program} {w:World} {K:W.Frag} {mg:Str->Option Value} {base:Heap}
theorem x1y (B:Blt mg) (Df:Def K mg "_law_merge" z4s z5h):Cal P w K mg base 1 "_law_merge" z5h (y3w K):=by
 refine Df.cal sc_l_merge (fun vs H Q E h=>?_) (fun f cdv A outer s H vs Q E hr h=>?_)
 ·obtain⟨a,b,x,ns,ms,rfl,_⟩:=h;rfl
 ·obtain⟨a,b,x,ns,ms,rfl,hS,hT,hz,hn,hm,q⟩:=h
  refine⟨_,(z0b (z0n (i:=3) sc_l_merge.nd rfl (Or.inr rfl) (z6s (fvn:=["_law_lamp"]) (js:=[2]) rfl (z1u (pv 0)) (.cons rfl (by first | exact .inl rfl | exact .inr rfl) rfl .nil) ⟨by decide +kernel,rfl,by decide +kernel,rfl,by decide +kernel,by decide +kernel⟩ (fun _ _ _ _ _=>(z7d (z0k op_ne (pv 0) (pv 1) (z0p _)))) (fun _ _ _ _ _=>(pv 0))))
 (z0b (z0n (i:=3) sc_l_merge.nd rfl (Or.inr rfl) (pe_op y3a (pv 3) (z6s (fvn:=["_law_lamp"]) (js:=[2]) rfl (z1u (pv 1)) (.cons rfl (by first | exact .inl rfl | exact .inr rfl) rfl .nil) ⟨by decide +kernel,rfl,by decide +kernel,rfl,by decide +kernel,by decide +kernel⟩ (fun _ _ _ _ _=>(z7d (z0k op_ne (pv 0) (pe_un z1c (pv 1)) (z0p _)))) (fun _ _ _ _ _=>(pv 0)))))
 (z0b (z0n (i:=4) sc_l_merge.nd rfl (Or.inl rfl) z0i)
 (z0b (z4c PassesOwn.never rfl (z1u (pv 3)) (z1l (i:=5) sc_l_merge.nd rfl (Or.inl rfl))
 (z0e (z0n (i:=4) sc_l_merge.nd rfl (Or.inl rfl) (z0t (x6o rfl) (by rfl) B.max_ w2m (z0a (pv 4) (z0a (z0t x8m (by rfl) B.abs_ w2n (z0a (pv 5) z0d)) z0d))))))
 (z0e (z0o (z6s (fvn:=["_law_rows"]) (js:=[3]) rfl (y1l (by rfl) B.range_ (z0a (pe_op y6d z0i (pv 4)) (z0a (pe_op z9z (pv 4) z0i) z0d))) (.cons rfl (by first | exact .inl rfl | exact .inr rfl) rfl .nil) ⟨by decide +kernel,rfl,by decide +kernel,rfl,by decide +kernel,by decide +kernel⟩ (fun _ _ _ _ _=>(z7d (z0k (x1s (K:=K) rfl) (pv 0) (pv 1) (by with_unfolding_all rfl)))) (fun _ _ _ _ _=>(pv 0))))))))),?_⟩
  have ne1:∀ n y:Int,(!decide (V.int n=V.int y))=(!decide (n=y)):=fun n y=>by simp
  refine z9x (t:=tAsg (tComp _ _ _ _) _) (y5u (z3v (K:=K) ?_))
  refine⟨_,rfl,a,rfl,⟨_,hS⟩,?_⟩
  refine z5m (K:=K) (a:=a) (xs:=ns) (g:=V.int) (fun n=>!decide (n=x)) V.int (z1o (by omega)) hS (fun n _ R hR=>?_) (fun n _ _ R hR=>⟨_,rfl,hR⟩) (fun l1 hl1=>?_)
  ·refine⟨_,rfl,_,rfl,rfl,_,rfl,?_⟩
   rw[ne1]
   exact hR
  have sm1:Same H (upd H l1 (.lst ((ns.filter fun n=>!decide (n=x)).map V.int))):=(smR H).upd hl1
  have g1:upd H l1 (.lst ((ns.filter fun n=>!decide (n=x)).map V.int)) l1=some (.lst ((ns.filter fun n=>!decide (n=x)).map V.int)):=z0c
  generalize upd H l1 (.lst ((ns.filter fun n=>!decide (n=x)).map V.int))=H1 at sm1 g1
  dsimp only[gName]
  refine⟨_,rfl,?_⟩
  refine z3v (K:=K) ?_
  refine⟨_,rfl,b,rfl,⟨_,sm1.seq hT⟩,?_⟩
  refine z5m (K:=K) (a:=b) (xs:=ms) (g:=V.int) (fun n=>!decide (n=-x)) V.int (z1o (by omega)) (sm1.seq hT) (fun n _ R hR=>?_) (fun n _ _ R hR=>⟨_,rfl,hR⟩) (fun l2 hl2=>?_)
  ·refine⟨_,rfl,_,rfl,_,rfl,rfl,_,rfl,?_⟩
   rw[ne1]
   exact hR
  have n12:l1≠l2:=z0h g1 hl2
  have sm2:Same H (upd H1 l2 (.lst ((ms.filter fun n=>!decide (n=-x)).map V.int))):=sm1.upd (sm1.free hl2)
  have g2:upd H1 l2 (.lst ((ms.filter fun n=>!decide (n=-x)).map V.int)) l2=some (.lst ((ms.filter fun n=>!decide (n=-x)).map V.int)):=z0c
  have g12:upd H1 l2 (.lst ((ms.filter fun n=>!decide (n=-x)).map V.int)) l1=some (.lst ((ns.filter fun n=>!decide (n=x)).map V.int)):=by rw[z0g n12];exact g1
  generalize upd H1 l2 (.lst ((ms.filter fun n=>!decide (n=-x)).map V.int))=H2 at sm2 g2 g12
  have f1:(ns.filter fun n=>!decide (n=x)).length<=ns.length:=List.length_filter_le _ _
  have f2:(ms.filter fun n=>!decide (n=-x)).length<=ms.length:=List.length_filter_le _ _
  refine⟨l1,l2,_,_,rfl,rfl,g12,g2,by have:=sizeLine_eq;simp only[List.length_map];omega,fun l3 hl3=>?_⟩
  have e3:(ns.filter fun n=>!decide (n=x)).map V.int++(ms.filter fun n=>!decide (n=-x)).map V.int=(mrows x ns ms).map V.int:=by unfold mrows;rw[List.map_append]
  rw[e3]
  have sm3:Same H (upd H2 l3 (.lst ((mrows x ns ms).map V.int))):=sm2.upd (sm2.free hl3)
  have g3:upd H2 l3 (.lst ((mrows x ns ms).map V.int)) l3=some (.lst ((mrows x ns ms).map V.int)):=z0c
  generalize upd H2 l3 (.lst ((mrows x ns ms).map V.int))=H3 at sm3 g3
  have hb:∀ n∈mrows x ns ms,-10000<=n/\n<=10000:=fun n hn'=>by
   rcases mem_mrows.mp hn' with ⟨z,_⟩ | ⟨z,_⟩
   ·have:=hn n z;omega
   ·have:=hm n z;omega
  have hl:=y6p x ns ms
  generalize er:mrows x ns ms=rs at hb hl g3
  refine⟨_,rfl,l3,rfl,⟨_,qLo g3⟩,z4o (K:=K) (a:=l3) (xs:=rs.map V.int) (fun i σ H4=>∃ v,σ=[some (.ref a),some (.ref b),some (.int x),some (.ref l3),some (.int (most (rs.take i))),v]/\H4=H3)
   ⟨none,rfl,rfl⟩ (fun i σ H4 _ ⟨_,_,e⟩=>by rw[e];exact qLo g3) ?_ ?_⟩
  ·rintro i y σ H4 hi ⟨v,rfl,rfl⟩
   obtain⟨n,hni,rfl⟩:=getV hi
   refine⟨_,rfl,_,rfl,n,rfl,_,_,rfl,?_⟩
   refine⟨some (.int n),?_,rfl⟩
   rw[List.take_add_one,hni]
   show _=[_,_,_,_,some (V.int (most (rs.take i++[n]))),_]
   rw[x4y]
   rfl
  ·rintro σ H4 ⟨v,rfl,rfl⟩
   have et:rs.take (rs.map V.int).length=rs:=by rw[List.length_map,List.take_length]
   rw[et]
   have m0:=x4z rs
   have m1:most rs<=10000:=x5a rs 0 (by decide) hb
   dsimp only
   refine w1l (y5h ?_)
   refine⟨_,rfl,_,_,rfl,rfl,_,rfl,_,_,rfl,rfl,_,_,rfl,⟨by omega,by omega,by omega,by omega⟩,?_⟩
   refine y3m (fun i=>decide (0 - most rs+(i:Int)∈rs)) (fun i=>V.int (0 - most rs+(i:Int))) (z1o (by omega)) (fun i hi R hR=>?_) (fun i hi _ R hR=>⟨_,rfl,hR⟩) (fun l4 hl4=>?_)
   ·refine⟨_,rfl,_,rfl,l3,_,rfl,.inl (qLo g3),rfl,z7i rs,_,rfl,?_⟩
    rw[if_neg Bool.false_ne_true,x0p]
    exact hR
   ·refine q l4 _ (sm3.free hl4) (sm3.upd (sm3.free hl4)) ?_
    rw[z0c]
    unfold mrg rise
    rw[er,List.map_map]
    rfl
end
def x6v (t:Stp):Prop:=t.2.2.2.length<=28/\(∀ n∈t.2.2.2,n.natAbs<=10000)/\t.2.2.1.natAbs<=10000
def WsS (W:List (List Int)):Prop:=∀ v∈W,v.length<=28/\∀ n∈v,n.natAbs<=10000
def y7s (K:W.Frag):Sp:=fun vs H Q _=>∃ (a p m:Addr) (ks:List Wr) (t:Stp),vs=[.ref a,.ref p]/\SqL K H a (wrefs ks)/\WsOk H ks/\H p=some (tupS t m)/\H m=some (.lst (t.2.2.2.map V.int))/\y7n (wl ks) t/\WsS (wl ks)/\∀ H',Same H H'->Q (.bl true) H'
def y9m:Sp:=fun vs H Q _=>∃ (a b:Addr) (ws:List Wr) (ss:List Sr),vs=[.ref a,.ref b]/\H a=some (.lst (wrefs ws))/\WsOk H ws/\H b=some (.lst (srefs ss))/\SsOk H ss/\WsS (wl ws)/\(∀ s∈ss,x6v s.2.2)/\ws.length<=20000/\ss.length<=16670000/\y5c (wl ws) (sls ss)/\∀ H',Same H H'->Q (.bl true) H'
structure RfI (ws:List Wr) (ss:List Sr) (kn:Addr) (H Hx:Hp) (i:Nat) (ks:List Wr):Prop where
 sm:Same H Hx
 hk:Hx kn=some (.lst (wrefs ks))
 ok:WsOk Hx ks
 nk:∀ r∈ks,r.1≠kn
 ew:wl ks=wl ws++wlSt ((sls ss).take i)
theorem RfI.small {ws:List Wr} {ss:List Sr} {kn:Addr} {H Hx:Hp} {i:Nat} {ks:List Wr} (h:RfI ws ss kn H Hx i ks) (hws:WsS (wl ws)) (hst:∀ s∈ss,x6v s.2.2):WsS (wl ks):=fun v hv=>by
 rw[h.ew]at hv
 rcases mApp hv with z | z
 ·exact hws v z
 ·obtain⟨st,hs,rfl⟩:=List.mem_map.mp z
  obtain⟨s',hs',rfl⟩:=List.mem_map.mp (List.mem_of_mem_take hs)
  exact⟨(hst s' hs').1,(hst s' hs').2.1⟩
theorem RfI.len {ws:List Wr} {ss:List Sr} {kn:Addr} {H Hx:Hp} {i:Nat} {ks:List Wr} (h:RfI ws ss kn H Hx i ks):ks.length<=ws.length+ss.length:=by
 have:=congrArg List.length h.ew
 rw[List.length_append,y9g,List.length_take,y1e,z4a,z4a]at this;omega
theorem RfI.right {ws:List Wr} {ss:List Sr} {kn:Addr} {H Hx:Hp} {i:Nat} {ks:List Wr} {sr:Sr} (h:RfI ws ss kn H Hx i ks) (hs:y5c (wl ws) (sls ss)) (hi:ss[i]?=some sr):y7n (wl ks) sr.2.2:=by
 rw[h.ew]
 exact y1h hs.1 (by unfold sls;rw[List.getElem?_map,hi];rfl)
theorem RfI.step {ws:List Wr} {ss:List Sr} {kn:Addr} {H Hx Hy:Hp} {i:Nat} {ks:List Wr} {sr:Sr} (h:RfI ws ss kn H Hx i ks) (e:Same Hx Hy) (hkn:H kn=none) (hSs:SsOk H ss) (hi:ss[i]?=some sr):RfI ws ss kn H (upd Hy kn (.lst (wrefs ks++[.ref sr.2.1]))) (i+1) (ks++[(sr.2.1,sr.2.2.2.2.2)]):=by
 have hm:=List.mem_of_getElem? hi
 have nm:sr.2.1≠kn:=z0h (hSs sr hm).2 hkn
 refine⟨(h.sm.trans e).upd hkn,by rw[z0c];simp[wrefs],fun r hr=>?_,fun r hr=>?_,?_⟩
 ·rcases mApp hr with z | z
  ·rw[z0g (h.nk r z)];exact e _ _ (h.ok r z)
  ·have:r=(sr.2.1,sr.2.2.2.2.2):=by simpa using z
   rw[this,z0g nm];exact e _ _ (h.sm _ _ (hSs sr hm).2)
 ·rcases mApp hr with z | z
  ·exact h.nk r z
  ·have:r=(sr.2.1,sr.2.2.2.2.2):=by simpa using z
   rw[this];exact nm
 ·have hsi':(sls ss)[i]?=some sr.2.2:=by unfold sls;rw[List.getElem?_map,hi];rfl
  rw[List.take_add_one,hsi',Option.toList_some,y5e,←List.append_assoc,←h.ew];simp[wl]
theorem w1u {K:W.Frag} {H Hy:Hp} {a pn:Addr} {ws:List Wr} (ha:H a=some (.lst (wrefs ws))) (hW:WsOk H ws) (sy:Same H Hy) (hpn:Hy pn=none) (hm:[]∈wl ws) :
 SqL K (upd Hy pn (.lst [])) a ((ws.map fun r=>(r.1,r.2.map V.int)).map fun q=>V.ref q.1)/\(∀ q∈ws.map (fun r=>(r.1,r.2.map V.int)),upd Hy pn (.lst []) q.1=some (.lst q.2))/\((ws.map fun r=>(r.1,r.2.map V.int)).any fun q=>q.2.isEmpty)=true:=by
 have s2:Same H (upd Hy pn (.lst [])):=sy.upd (sy.free hpn)
 refine⟨?_,fun q hq'=>?_,?_⟩
 ·rw[List.map_map];exact qLo (s2 _ _ ha)
 ·obtain⟨r,hr,rfl⟩:=List.mem_map.mp hq'
  exact s2 _ _ (hW r hr)
 ·unfold wl at hm
  obtain⟨r,hr,e⟩:=List.mem_map.mp hm
  exact List.any_eq_true.mpr ⟨_,List.mem_map.mpr ⟨r,hr,rfl⟩,by show (r.2.map V.int).isEmpty=true;rw[e];rfl⟩
section
variable {P:Program} {w:World} {K:W.Frag} {mg:Str->Option Value} {base:Heap}
theorem y1n (B:Blt mg) (c_l_whole:Cal P w K mg base 1 "_law_whole" z4v y3t) (c_l_alike:Cal P w K mg base 2 "_law_alike" z5i y7v) (c_l_merge:Cal P w K mg base 1 "_law_merge" z5h (y3w K)) (Df:Def K mg "_law_right_step" z1w z2h) :
 Cal P w K mg base 3 "_law_right_step" z2h (y7s K):=by
 refine Df.cal sc_l_right_step (fun vs H Q E h=>?_) (fun f cdv A outer s H vs Q E hr h=>?_)
 ·obtain⟨a,p,m,ks,t,rfl,_⟩:=h;rfl
 ·obtain⟨a,p,m,ks,⟨one,two,x,wish⟩,rfl,ha,hW,hp,hm,⟨r1,r2,r3,r4,r5,r6,r7,r8⟩,hsm,q⟩:=h
  dsimp only[tupS]at r1 r2 r3 r4 r5 r6 r7 r8 hm hp
  rw[z4a]at r2 r4
  obtain⟨k1,hk1,at1,gd1,ge1⟩:=wl_at r1 r2
  obtain⟨k2,hk2,at2,gd2,ge2⟩:=wl_at r3 r4
  rw[gd1]at r6 r8
  rw[gd2]at r7 r8
  have s1:=hsm _ (List.mem_of_getElem? ge1)
  have s2:=hsm _ (List.mem_of_getElem? ge2)
  have g1:=hW k1 hk1
  have g2:=hW k2 hk2
  refine⟨_,(z0b (ps_if (PW.pt (pw_or (z4b (z3p (z0t z2j (by rfl) B.isinstance_ z0w (z0a (pv 1) (z0a (pe_ty B.tuple_ z9d) z0d))))) (pw_or (z0k op_ne (z0t z0v (by rfl) B.len_ PySem.boot_len (z0a (pv 1) z0d)) z0i (z0p _)) (z7z (z4b (z3p (z0t z2j (by rfl) B.isinstance_ z0w (z0a (pe_ix ix_tup (pv 1) z0i (fun _ _=>rfl)) (z0a (pe_ty B.list_ z5n) z0d)))))))))
 (z0e (z0o pe_bl))
 z0q)
 (z0b (x3w (pv 1) (x3z rfl (z4z (z1l (i:=2) sc_l_right_step.nd rfl (Or.inl rfl)) (z4z (z1l (i:=3) sc_l_right_step.nd rfl (Or.inl rfl)) (z4z (z1l (i:=4) sc_l_right_step.nd rfl (Or.inl rfl)) (z4z (z1l (i:=5) sc_l_right_step.nd rfl (Or.inl rfl)) y8e))))))
 (z0b (ps_if (PW.pt (pw_or (z4b (z3p (z1d c_l_whole hr (by decide) (z0a (pv 2) z0d)))) (pw_or (z4b (z3p (z1d c_l_whole hr (by decide) (z0a (pv 3) z0d)))) (z7z (z4b (z3p (z1d c_l_whole hr (by decide) (z0a (pv 4) z0d))))))))
 (z0e (z0o pe_bl))
 z0q)
 (z0b (ps_if (PW.pt (pw_or (z0k op_lt (pv 2) z0i (z0p _)) (pw_or (z0k op_ge (pv 2) (z0t z0v (by rfl) B.len_ PySem.boot_len (z0a (pv 0) z0d)) (z0p _)) (pw_or (z0k op_lt (pv 3) z0i (z0p _)) (z7z (z0k op_ge (pv 3) (z0t z0v (by rfl) B.len_ PySem.boot_len (z0a (pv 0) z0d)) (z0p _)))))))
 (z0e (z0o pe_bl))
 z0q)
 (z0b (ps_if (PW.pt (pw_or (z0k op_lt (pv 4) z0i (z0p _)) (pw_or (z0k z6b (pv 4) (pe_ix ix_list (pv 0) (pv 2) (fun _ _=>rfl)) (by with_unfolding_all rfl)) (z7z (z0k z6b (pe_un z1c (pv 4)) (pe_ix ix_list (pv 0) (pv 3) (fun _ _=>rfl)) (by with_unfolding_all rfl))))))
 (z0e (z0o pe_bl))
 z0q)
 (z0e (z0o (z1d c_l_alike hr (by decide) (z0a (pv 5) (z0a (z1d c_l_merge hr (by decide) (z0a (pe_ix ix_list (pv 0) (pv 2) (fun _ _=>rfl)) (z0a (pe_ix ix_list (pv 0) (pv 3) (fun _ _=>rfl)) (z0a (pv 4) z0d)))) z0d)))))))))),?_⟩
  refine⟨_,rfl,_,.tup,.tup,rfl,⟨_,hp⟩,_,rfl,iteF ?_⟩
  refine⟨_,rfl,p,_,rfl,.inr (qTo hp),rfl,_,rfl,iteNS rfl ?_⟩
  refine⟨_,rfl,p,_,_,.ref m,rfl,rfl,qTo hp,rfl,_,.lst,.lst,rfl,⟨_,.inl hm⟩,_,rfl,iteF ?_⟩
  refine⟨_,rfl,p,_,rfl,qTo hp,rfl,_,_,rfl,_,_,rfl,_,_,rfl,_,_,rfl,rfl,?_⟩
  refine⟨_,rfl,_,.int,rfl,trivial,_,rfl,iteF ?_⟩
  refine⟨_,rfl,_,.int,rfl,trivial,_,rfl,iteF ?_⟩
  refine⟨_,rfl,_,.int,rfl,trivial,_,rfl,iteF ?_⟩
  have el:=z2l ks
  refine⟨_,rfl,_,_,rfl,rfl,_,rfl,iteN (by omega) ?_⟩
  refine⟨_,rfl,_,rfl,a,_,rfl,.inl ha,_,_,rfl,rfl,_,rfl,iteN (by omega) ?_⟩
  refine⟨_,rfl,_,_,rfl,rfl,_,rfl,iteN (by omega) ?_⟩
  refine⟨_,rfl,_,rfl,a,_,rfl,.inl ha,_,_,rfl,rfl,_,rfl,iteN (by omega) ?_⟩
  refine⟨_,rfl,_,_,rfl,rfl,_,rfl,iteN (by omega) ?_⟩
  refine⟨_,rfl,_,rfl,_,rfl,a,_,_,.ref k1.1,rfl,rfl,ha,at1,k1.1,_,rfl,.inl (qLo g1),rfl,z7i _,_,rfl,y0u (fun hn=>absurd r6 hn) (fun _=>?_)⟩
  refine⟨_,rfl,_,rfl,_,rfl,_,rfl,a,_,_,.ref k2.1,rfl,rfl,ha,at2,k2.1,_,rfl,.inl (qLo g2),rfl,z7i _,_,rfl,y0u (fun hn=>absurd r7 hn) (fun _=>?_)⟩
  refine⟨_,rfl,_,rfl,_,rfl,a,_,_,.ref k1.1,rfl,rfl,ha,at1,_,rfl,_,rfl,a,_,_,.ref k2.1,rfl,rfl,ha,at2,_,rfl,k1.1,k2.1,x,k1.2,k2.2,rfl,qLo g1,qLo g2,by have:=s1.1;have:=s2.1;omega,s1.2,s2.2,fun lm H1 hlm sm1 h1=>?_⟩
  rw[←r8]at h1
  have hl:=w0h x k1.2 k2.2
  rw[←r8]at hl
  exact⟨_,_,.lst (dInts wish),rfl,At.ofInts (sm1 _ _ hm),At.ofInts h1,by rw[D.plain];exact y8d _,by rw[D.size,x1i];omega,fun H2 sm2=>q H2 (sm1.trans sm2)⟩
theorem y4m (B:Blt mg) (c_l_right_step:Cal P w K mg base 3 "_law_right_step" z2h (y7s K)) (Df:Def K mg "_law_refuted" z2y z4l):Cal P w K mg base 4 "_law_refuted" z4l y9m:=by
 refine Df.cal sc_l_refuted (fun vs H Q E h=>?_) (fun f cdv A outer s H vs Q E hr h=>?_)
 ·obtain⟨a,b,ws,ss,rfl,_⟩:=h;rfl
 ·obtain⟨a,b,ws,ss,rfl,ha,hW,hb,hSs,hws,hst2,hwl,hsl,hno,q⟩:=h
  have hu:=hu_of hr
  refine⟨_,(z0b (ps_if (z4b (z3p (z0t z2j (by rfl) B.isinstance_ z0w (z0a (pv 1) (z0a (pe_ty B.list_ z5n) z0d)))))
 (z0e (z0o pe_bl))
 z0q)
 (z0b (z0n (i:=2) sc_l_refuted.nd rfl (Or.inl rfl) (z7e z7k (by rfl) B.list_ z5n (z0a (pv 0) z0d)))
 (z0b (z4c PassesOwn.never rfl (z1u (pv 1)) (z1l (i:=3) sc_l_refuted.nd rfl (Or.inl rfl))
 (z0b (ps_if (z4b (z3p (z1d c_l_right_step hr (by decide) (z0a (pv 2) (z0a (pv 3) z0d)))))
 (z0e (z0o pe_bl))
 z0q)
 (z0e (z0r (pe_bm PySem.F.plainAttrs_list PySem.F.slot_list_append PySem.F.type_list_append z0z (pv 2) (z0a (pe_ix ix_tup (pv 3) z0i (fun _ _=>rfl)) z0d))))))
 (z0b (ps_if (z0k op_eq (z0t z0v (by rfl) B.len_ PySem.boot_len (z0a (pv 1) z0d)) z0i (z0p _))
 (z0e (z0o (z6e (x7l hu) (z0u z0d) (pv 0) (by with_unfolding_all rfl))))
 z0q)
 (z0e (z0o (z6e (x4f (hu0 hr)) (pe_ix ix_list (pv 2) (pe_un z1c z0i) (fun _ _=>rfl)) (z0u z0d) (z0p _)))))))),?_⟩
  refine⟨_,rfl,_,.lst,.lst,rfl,⟨_,.inl hb⟩,_,rfl,iteF ?_⟩
  refine⟨_,rfl,a,_,rfl,.inl (qLo ha),fun kn hkn=>?_⟩
  have s1:Same H (upd H kn (.lst (wrefs ws))):=(smR H).upd hkn
  have I0:RfI ws ss kn H (upd H kn (.lst (wrefs ws))) 0 ws:=⟨s1,z0c,hW.mono s1,fun r hr=>z0h (hW r hr) hkn,by simp[wlSt]⟩
  generalize upd H kn (.lst (wrefs ws))=H1 at I0
  refine⟨_,rfl,b,rfl,⟨_,qLo (I0.sm _ _ hb)⟩,z4o (K:=K) (a:=b) (xs:=srefs ss) (fun i σ Hx=>∃ (ks:List Wr) (o3:Option V),σ=[some (.ref a),some (.ref b),some (.ref kn),o3]/\RfI ws ss kn H Hx i ks) ⟨ws,none,rfl,I0⟩ (fun i σ Hx _ ⟨_,_,_,e⟩=>qLo (e.sm _ _ hb)) ?_ ?_⟩
  ·rintro i y σ Hx hi ⟨ks,o3,rfl,I⟩
   obtain⟨sr,hsi,rfl⟩:=x8v hi
   have hsr:=(hSs.mono I.sm) sr (List.mem_of_getElem? hsi)
   have hkl:=I.len
   refine⟨_,rfl,_,rfl,kn,sr.1,sr.2.1,ks,sr.2.2,rfl,qLo I.hk,I.ok,hsr.1,hsr.2,I.right hno hsi,I.small hws hst2,fun H11 s11=>⟨_,rfl,iteF ?_⟩⟩
   refine⟨_,rfl,.inl ⟨rfl,_,qLo (s11 _ _ I.hk)⟩,_,rfl,sr.1,_,_,.ref sr.2.1,rfl,rfl,qTo (s11 _ _ hsr.1),rfl,kn,_,_,rfl,rfl,s11 _ _ I.hk,z1r (by rw[z2l];omega),?_⟩
   exact⟨_,some (.ref sr.1),rfl,I.step s11 hkn hSs hsi⟩
  rintro σ Hx ⟨ks,o3,rfl,I⟩
  have ekl:=I.ew
  have el:(srefs ss).length=(sls ss).length:=by rw[z5g,y1e]
  rw[el,List.take_length]at ekl
  refine⟨_,rfl,b,_,rfl,.inl (qLo (I.sm _ _ hb)),rfl,_,rfl,?_⟩
  rcases z5c ss with rfl | ⟨ss',x,rfl⟩
  ·refine iteT ⟨by decide,fun pn hpn=>?_⟩
   obtain⟨z1,z2,z3⟩:=w1u (K:=K) ha hW I.sm hpn (by
    rcases hno.2 with z | ⟨pre,t,z,_⟩
    ·exact z.2
    ·exact absurd (congrArg List.length z) (by simp[sls]))
   refine⟨_,rfl,pn,a,_,rfl,rfl,z0c,z1,z2,?_⟩
   rw[z3]
   exact q _ (I.sm.upd (I.sm.free hpn))
  ·refine ite2 (fun z=>?_) (fun _=>?_)
   ·have:=of_decide_eq_true z
    injection this with this
    rw[z5g]at this;simp at this;omega
   rcases z5c ks with rfl | ⟨ks',kr,rfl⟩
   ·have:=congrArg List.length ekl
    simp[wl,wlSt,sls]at this
   have ekr:kr.2=[]:=by
    rw[y4a,y5e,←List.append_assoc]at ekl
    have e:wl (ks'++[kr])=wl ks'++[kr.2]:=by simp[wl]
    rw[e]at ekl
    have e1:kr.2=x.2.2.2.2.2:=by simpa using List.append_inj_right' ekl rfl
    rcases hno.2 with z | ⟨pre,t,z,e2⟩
    ·exact absurd (congrArg List.length z.1) (by simp[sls])
    ·rw[y4a]at z
     have e3:x.2.2=t:=by simpa using List.append_inj_right' z rfl
     rw[e1,e3];exact e2
   have hk:=I.ok kr (by simp)
   refine⟨_,rfl,_,rfl,kn,_,_,.ref kr.1,rfl,rfl,qLo I.hk,by simp only[wrefs,List.map_append,List.map_cons,List.map_nil];exact z7v _ _,by decide,fun pn hpn=>?_⟩
   refine .inl ⟨(kr.2.map V.int).isEmpty,⟨kr.1,pn,_,[],rfl,rfl,qLo (by rw[z0g (z0h hk hpn)];exact hk),qLo z0c,.inl ⟨rfl,rfl⟩⟩,?_⟩
   rw[ekr]
   exact q _ (I.sm.upd (I.sm.free hpn))
end
abbrev lawK:Nat:=43
theorem x6c:∀ s t:List Bool,eqVs (s.map V.bl) (t.map V.bl)=decide (s=t)
 | [],[]=>rfl
 | [],_::_=>rfl
 | _::_,[]=>rfl
 | a::s,b::t=>by
  have ih:=x6c s t
  show (eqV (.bl a) (.bl b) && eqVs (s.map V.bl) (t.map V.bl))=_
  rw[ih]
  have:eqV (.bl a) (.bl b)=decide (a=b):=by cases a<;>cases b<;>rfl
  rw[this]
  by_cases h1:a=b<;>by_cases h2:s=t<;>simp[h1,h2]
theorem x5w (s:List Bool):(s.map V.bl).all flatV=true:=by simp[flatV]
theorem y0v:∀ (s:Stt) (p:Nat),(enc s p).2.1.length<=4 * (post s).length
 | .lamp _,_=>by simp[enc]
 | .non s,p=>by have:=y0v s p;simp[enc,post];omega
 | .two w s t,p=>by
  have h1:=y0v s p
  have h2:=y0v t (enc s p).2.2
  cases w<;>simp[enc,post,wishW]<;>omega
theorem y4x (bs:List Bool):∀ s:Stt,2 * (btS bs s).length+1<=(post s).length
 | .lamp _=>by simp[btS,post]
 | .non s=>by have:=y4x bs s;simp[btS,post];omega
 | .two _ s t=>by have h1:=y4x bs s;have h2:=y4x bs t;simp[btS,post];omega
theorem y0w:∀ s:Stt,depS s<=(post s).length
 | .lamp _=>by simp[depS,post]
 | .non s=>by have:=y0w s;simp[depS,post];omega
 | .two _ s t=>by have h1:=y0w s;have h2:=y0w t;simp[depS,post];omega
theorem y2w {N:Nat}:∀ {ts:List Stp} {W:List (List Int)},z2k W ts->(∀ v∈W,∀ n∈v,n.natAbs<=N)->(∀ t∈ts,∀ n∈t.2.2.2,n.natAbs<=N)->∀ t∈ts,t.2.2.1.natAbs<=N
 | [],_,_,_,_,_,h=>nomatch h
 | t::ts,W,⟨h1,h2⟩,hW,hT,x,hx=>by
  rcases List.mem_cons.mp hx with z | z
  ·subst z
   obtain⟨_,_,_,_,_,hm,_⟩:=h1
   by_cases hk:x.1.toNat < W.length
   ·have e:W.getD x.1.toNat []=W[x.1.toNat]:=by simp[List.getD,hk]
    rw[e]at hm
    exact hW _ (List.getElem_mem hk) _ hm
   ·have e:W.getD x.1.toNat []=[]:=by simp[List.getD,Nat.not_lt.mp hk]
    rw[e]at hm;exact nomatch hm
  ·refine y2w h2 (fun v hv=>?_) (fun y hy=>hT y (List.mem_cons_of_mem _ hy)) x z
   rcases mApp hv with e | e
   ·exact hW v e
   ·have:v=t.2.2.2:=by simpa using e
    rw[this];exact hT t List.mem_cons_self
theorem cut_8 {vs:List V} {cs:List Int} (h:cutV vs (some 2) (some 10)=cs.map V.int):cs.length<=8:=by
 have e:cs.length=(cs.map V.int).length:=by simp
 rw[e,←h]
 unfold cutV
 rw[List.length_take]
 have:HT.sIx vs.length vs.length (some 10) - HT.sIx vs.length 0 (some 2)<=8:=by unfold HT.sIx;simp;omega
 omega
section
variable {P:Program} {w:World} {K:W.Frag} {mg:Str->Option Value} {base:Heap}
set_option maxHeartbeats 4000000
theorem ok_law {f:Addr} {fd:FuncData} (F:Fun K "law" "law" s_law f fd) (B:Blt mg) (D_merged:Def K mg "merged" z5t z6v) (D_left_open:Def K mg "left_open" z2x z3s) (D_each_once:Def K mg "each_once" z3b z3g) (D_marked:Def K mg "marked" z5u z6a) (D_free_lamp:Def K mg "free_lamp" z3a z3u) (D_gone_back:Def K mg "gone_back" z2z z3t) (D_step_back:Def K mg "step_back" z2g z4j) (D_solved:Def K mg "solved" z5r z6t) (D_search:Def K mg "search" z5s z6u) (D_go_back:Def K mg "go_back" z4u z5j) (D_next_guess:Def K mg "next_guess" z2o z3e) (D_setting_of:Def K mg "setting_of" z2n z3d) (D_true_in:Def K mg "true_in" z4q z6j) (D_value_of:Def K mg "value_of" z3x z4i) (D_sheet_of:Def K mg "sheet_of" z3y z4k) (D_wishes_of:Def K mg "wishes_of" z2w z3r) (D_weighed:Def K mg "weighed" z4p z6i) (D_inner_first:Def K mg "inner_first" z2b z2d) (L_draw:Def K mg "_law_draw" z5w z6x) (L_whole:Def K mg "_law_whole" z4r z4v) (L_at:Def K mg "_law_at" z9w y2z) (L_alike:Def K mg "_law_alike" z4t z5i) (L_setting_of:Def K mg "_law_setting_of" z1v z2t) (L_pair:Def K mg "_law_pair" z4n z6w) (L_stated:Def K mg "_law_stated" z2s z5e) (L_merge:Def K mg "_law_merge" z4s z5h) (L_right_step:Def K mg "_law_right_step" z1w z2h) (L_refuted:Def K mg "_law_refuted" z2y z4l) (L_full:Def K mg "_law_full" z5v z7n) (L_answer:Def K mg "_law_answer" z3z z5f) (L_truth_of:Def K mg "_law_truth_of" z2p z3f) (L_first_true:Def K mg "_law_first_true" z1x z2u) (L_sheet_due:Def K mg "_law_sheet_due" z2a z3j)
 {C:Addr} (T:TallyCls K mg C) (M_init:MDef K C "__init__" "Tally.__init__" z2q z2e) (M_put_wish:MDef K C "put_wish" "Tally.put_wish" z1j z1f) (M_put:MDef K C "put" "Tally.put" z3c z2i) (M_take_off:MDef K C "take_off" "Tally.take_off" z1i z1k) (M_count_letter:MDef K C "count_letter" "Tally.count_letter" z1b z0y) (M_sort_in:MDef K C "sort_in" "Tally.sort_in" z1p z1h) (M_first_broken:MDef K C "first_broken" "Tally.first_broken" z1a z0x) (M_go_on:MDef K C "go_on" "Tally.go_on" z2c z2f):FnOk P w K mg base CX0 lawK f fd ["_law_script"] (spLaw K):=by
 have c_marked:Cal P w K mg base 1 "marked" z6a (y0n K):=x4k D_marked
 have c_each_once:Cal P w K mg base 2 "each_once" z3g (y9q K):=y6j B c_marked D_each_once
 have c_left_open:Cal P w K mg base 3 "left_open" z3s (x3d K):=y6g B c_each_once D_left_open
 have m_sort_in:MCal P w K mg base 1 C "sort_in" z1h (y9l C):=x1w T M_sort_in
 have m_count_letter:MCal P w K mg base 2 C "count_letter" z0y (y0p C):=y1q T m_sort_in M_count_letter
 have m_put:MCal P w K mg base 3 C "put" z2i (spPut C):=w1r T m_count_letter M_put
 have m_put_wish:MCal P w K mg base 3 C "put_wish" z1f (y9n C):=y8l B T m_sort_in c_each_once M_put_wish
 have m_take_off:MCal P w K mg base 3 C "take_off" z1k (spOff C):=y8j T m_count_letter M_take_off
 have m_first_broken:MCal P w K mg base 1 C "first_broken" z0x (y0o C):=y1p B T M_first_broken
 have mk_Tally:Made P w K mg base 4 "Tally" C z2e (y9o K C):=w0c T m_put_wish M_init
 have m_go_on:MCal P w K mg base 4 C "go_on" z2f (x3f C):=x7n B T m_put c_left_open M_go_on
 have c_merged:Cal P w K mg base 1 "merged" z6v (spMrg K):=y8m B D_merged
 have c_step_back:=y6f B c_merged D_step_back
 have c_gone_back:Cal P w K mg base 3 "gone_back" z3t (x3e K):=y6h B c_marked c_step_back D_gone_back
 have c_go_back:Cal P w K mg base 4 "go_back" z5j (y3y C):=x2a B T m_put m_take_off m_put_wish c_gone_back D_go_back
 have c_free_lamp:Cal P w K mg base 1 "free_lamp" z3u y7u:=y6i B D_free_lamp
 have c_setting_of:Cal P w K mg base 1 "setting_of" z3d (y7r C):=y4k B T D_setting_of
 have c_next_guess:Cal P w K mg base 2 "next_guess" z3e (y7t K C):=y4l T c_free_lamp D_next_guess
 have c_search:Cal P w K mg base 5 "search" z6u (y3v K C):=x4j B T m_go_on m_first_broken m_put c_go_back c_next_guess D_search
 have c_solved:Cal P w K mg base 6 "solved" z6t (y3u K):=x4i B T mk_Tally m_first_broken c_search c_setting_of D_solved
 have c_l_draw:Cal P w K mg base 1 "_law_draw" z6x x3g:=x4n L_draw
 have c_l_whole:Cal P w K mg base 1 "_law_whole" z4v y3t:=x1x B L_whole
 have c_l_at:Cal P w K mg base 1 "_law_at" y2z (spAt K):=w0b B L_at
 have c_l_alike:Cal P w K mg base 2 "_law_alike" z5i y7v:=x1z B c_l_whole L_alike
 have c_l_setting_of:Cal P w K mg base 2 "_law_setting_of" z2t y5l:=y1m B c_l_draw L_setting_of
 have c_l_full:Cal P w K mg base 1 "_law_full" z7n (x8w K):=x4m B L_full
 have c_l_answer:Cal P w K mg base 1 "_law_answer" z5f y9r:=y8o B L_answer
 have c_l_merge:Cal P w K mg base 1 "_law_merge" z5h (y3w K):=x1y B L_merge
 have c_l_right_step:Cal P w K mg base 3 "_law_right_step" z2h (y7s K):=y1n B c_l_whole c_l_alike c_l_merge L_right_step
 have c_l_refuted:Cal P w K mg base 4 "_law_refuted" z4l y9m:=y4m B c_l_right_step L_refuted
 have c_inner_first:Cal P w K mg base 1 "inner_first" z2d (y3x K):=y2o B D_inner_first
 have c_value_of:Cal P w K mg base 1 "value_of" z4i (y1b K):=y8i D_value_of
 have c_true_in:Cal P w K mg base 2 "true_in" z6j (y9j K):=x1v B c_inner_first c_value_of D_true_in
 have c_wishes_of:Cal P w K mg base 1 "wishes_of" z3r z9h:=y6e D_wishes_of
 have c_sheet_of:Cal P w K mg base 2 "sheet_of" z4k (y1c K):=y8k B c_inner_first c_wishes_of D_sheet_of
 have c_weighed:Cal P w K mg base 7 "weighed" z6i (y5k K):=x1u B c_sheet_of c_solved D_weighed
 have c_l_pair:Cal P w K mg base 1 "_law_pair" z6w x3c:=x4l L_pair
 have c_l_stated:Cal P w K mg base 2 "_law_stated" z5e (y9k K):=y8n B c_l_pair L_stated
 have c_l_sheet_due:Cal P w K mg base 1 "_law_sheet_due" z3j (spDue K):=y2n B L_sheet_due
 have c_l_truth_of:Cal P w K mg base 41 "_law_truth_of" z3f (y7q 40):=z8u L_truth_of 40
 have c_l_first_true:Cal P w K mg base 42 "_law_first_true" z2u (y9p 40):=y1o B c_l_truth_of L_first_true
 refine F.ok sc_law (fun vs H Q E h=>?_) (fun cdv A outer s H vs Q E hr h=>?_)
 ·obtain⟨a,ns,rfl,_⟩:=h;rfl
 obtain⟨a,ns,rfl,hS,hz,q⟩:=h
 obtain⟨u9,hu9,key9⟩:∃ u,PSs (cxOf CX0 P w K mg base n_law "law" (z0f s_law) f cdv A outer s H E).nox ((z0m s_law).drop 9) u /\
  ∀ (bs:List Bool) (s0:Stt) (v1 v3 v6 v7 v8:Option V) (a':Addr) (H1:Hp),SAt H1 s0 a'->okS bs.length s0->bs.length<=7->(post s0).length<=200->(enc s0 bs.length).2.2<=28->depS s0<=40 ->
   u { nx:=fun _ H'=>Q .non H',rt:=Q } [some (.ref a),v1,some (.int bs.length),v3,some (.ref a'),some (.bl (valS bs s0)),v6,v7,v8,none,none] H1:=by
  refine⟨_,(z0b (z0n (i:=9) sc_law.nd rfl (Or.inl rfl) (z1d c_weighed hr (by decide) (z0a (pv 2) (z0a (pv 4) z0d))))
 (z0b (ps_if (z4b (z3p (z1d c_l_answer hr (by decide) (z0a (pv 9) z0d))))
 (z0e (z0o pe_bl))
 z0q)
 (z0b (ps_if (z0k op_eq (pe_ix ix_tup (pv 9) z0i (fun _ _=>rfl)) z1g (z0p _))
 (z0e (z0o (y2y (z1d c_l_full hr (by decide) (z0a (pe_ix ix_tup (pv 9) z0i (fun _ _=>rfl)) (z0a (pv 2) z0d))) (z8a (z6e (x4f (hu0 hr)) (pe_ix ix_tup (pv 9) z0i (fun _ _=>rfl)) (z1d c_l_first_true hr (by decide) (z0a (pv 2) (z0a (pv 4) z0d))) (z0p _))))))
 z0q)
 (z0b (z0n (i:=10) sc_law.nd rfl (Or.inl rfl) (pe_ix ix_tup (z1d c_l_sheet_due hr (by decide) (z0a (pv 4) (z0a (pv 2) z0d))) z0i (fun _ _=>rfl)))
 (z0e (z0o (y2y (y6a (pv 5)) (z8a (z1d c_l_refuted hr (by decide) (z0a (pv 10) (z0a (pe_ix ix_tup (pv 9) z0i (fun _ _=>rfl)) z0d))))))))))),fun bs s0 v1 v3 v6 v7 v8 a' H1 hSA hok hb hps h28 hdp=>?_⟩
  refine⟨_,rfl,_,rfl,bs.length,a',s0,rfl,hSA,hok,by omega,hps,h28,?_,?_⟩
  ·intro t l b H2 s2 h2t h2l hfind
   have hbl:b.length=bs.length:=mem_allS.mp (List.mem_of_find?_eq_some hfind)
   refine⟨_,rfl,t,"yes",.ref l,rfl,h2t,.inl rfl,_,rfl,iteF ?_⟩
   refine⟨_,rfl,t,_,_,_,rfl,rfl,qTo h2t,rfl,rfl,_,rfl,iteT ?_⟩
   refine⟨_,rfl,t,_,_,_,rfl,rfl,qTo h2t,rfl,_,rfl,l,b,by rw[hbl];rfl,h2l,_,rfl,iteT ?_⟩
   refine⟨_,rfl,t,_,_,_,rfl,rfl,qTo h2t,rfl,_,rfl,_,rfl,bs.length,a',s0,rfl,hSA.same s2,hok,hdp,by omega,fun v H3 s3 hv=>?_⟩
   rw[hfind]at hv
   obtain⟨l3,rfl,h3⟩:=hv
   have e:eqVs (b.map V.bl) (b.map V.bl)=true:=by rw[x6c];simp
   refine .inl ⟨_,⟨l,l3,_,_,rfl,rfl,qLo (s3 _ _ h2l),qLo h3,.inr ⟨x5w b,x5w b,rfl⟩⟩,?_⟩
   rw[e]
   exact q _
  ·intro t l ss H2 s2 h2t h2l hO2 hsh hsl hsv hsy hno
   have hf:valS bs s0=false:=hno bs rfl
   refine⟨_,rfl,t,"no",.ref l,rfl,h2t,.inr rfl,_,rfl,iteF ?_⟩
   refine⟨_,rfl,t,_,_,_,rfl,rfl,qTo h2t,rfl,rfl,_,rfl,iteF ?_⟩
   refine⟨_,rfl,_,rfl,bs.length,a',s0,rfl,hSA.same s2,by omega,by omega,fun t3 lw ll ws H3 s3 ht3 h3t h3w hO3 hew=>?_⟩
   refine⟨t3,_,_,_,rfl,rfl,qTo h3t,rfl,?_⟩
   refine⟨_,rfl,_,rfl,_,rfl,?_⟩
   rw[hf]
   refine iteT ?_
   have hin:=z6l s0 bs.length hok (Nat.le_refl _)
   have h3:∀ v∈shW s0 bs.length,v.length<=3:=fun v hv=>by
    rcases mApp hv with z | z
    ·exact wish3 s0 _ v z
    ·have:v=[(enc s0 bs.length).1]:=by simpa using z
     rw[this];simp
   have hlet:∀ v∈shW s0 bs.length,∀ y∈v,y≠0/\y.natAbs<=(enc s0 bs.length).2.2:=fun v hv y hy=>by
    rcases mApp hv with z | z
    ·exact (hin.2.2 v z).2 y hy
    ·have:v=[(enc s0 bs.length).1]:=by simpa using z
     rw[this]at hy
     have:y=(enc s0 bs.length).1:=by simpa using hy
     rw[this];exact hin.1
   have ewl:wl (ws++[(ll,[(enc s0 bs.length).1])])=shW s0 bs.length:=by unfold shW;rw[←hew];simp[wl]
   refine⟨_,rfl,_,rfl,t,_,_,_,rfl,rfl,qTo (s3 _ _ h2t),rfl,lw,l,ws++[(ll,[(enc s0 bs.length).1])],ss,rfl,h3w,hO3,s3 _ _ h2l,hO2.mono s3,?_,?_,?_,?_,by rw[ewl];exact hsh,fun H4 s4=>q _⟩
   ·rw[ewl]
    exact fun v hv=>⟨by have:=h3 v hv;omega,fun n hn=>by have:=(hlet v hv n hn).2;omega⟩
   ·have hlam:=y2w (N:=28) hsh.1 (fun v hv n hn=>by have:=(hlet v hv n hn).2;omega) (fun t ht n hn=>by
     unfold sls at ht
     obtain⟨r,hr,rfl⟩:=List.mem_map.mp ht
     have:=(hsy r hr n hn).2;omega)
    exact fun r hr=>⟨hsv r hr,fun n hn=>by have:=(hsy r hr n hn).2;omega,by have:=hlam r.2.2 (by unfold sls;exact List.mem_map.mpr ⟨r,hr,rfl⟩);omega⟩
   ·have e1:=y0v s0 bs.length
    rw[←hew,z4a]at e1
    simp;omega
   ·have e1:=Nat.mul_le_mul h28 (Nat.pow_le_pow_right (show 0 < 2 by decide) hb)
    have e2:28 * 2 ^ 7=3584:=by decide
    omega
 obtain⟨u6,hu6,key6⟩:∃ u,PSs (cxOf CX0 P w K mg base n_law "law" (z0f s_law) f cdv A outer s H E).nox ((z0m s_law).drop 6) u /\
  ∀ (bs:List Bool) (s0:Stt) (v1 v6:Option V) (ls a':Addr) (H1:Hp),H1 ls=some (.lst (bs.map V.bl))->SAt H1 s0 a'->okS bs.length s0->bs.length<=7->(post s0).length<=40->(enc s0 bs.length).2.2<=28 ->
   u { nx:=fun _ H'=>Q .non H',rt:=Q } [some (.ref a),v1,some (.int bs.length),some (.ref ls),some (.ref a'),some (.bl (valS bs s0)),v6,none,none,none,none] H1:=by
  refine⟨_,(z0b (z0n (i:=7) sc_law.nd rfl (Or.inl rfl) (z7e z7k (by rfl) B.list_ z5n (z0a (pv 3) z0d)))
 (z0b (z0n (i:=8) sc_law.nd rfl (Or.inl rfl) (z1d c_true_in hr (by decide) (z0a (pv 4) (z0a (pv 7) z0d))))
 (z0b (ps_if (PW.pt (pw_or (z4b (z3p (z1d c_l_alike hr (by decide) (z0a (pv 7) (z0a (pv 3) z0d))))) (pw_or (z4b (z3p (z0t z2j (by rfl) B.isinstance_ z0w (z0a (pv 8) (z0a (pe_ty B.bool_ y2h) z0d))))) (z7z (z0k op_ne (pv 8) (pv 5) (z0p _))))))
 (z0e (z0o pe_bl))
 z0q)
 hu9))),fun bs s0 v1 v6 ls a' H1 hls hSA hok hb hps h28=>?_⟩
  refine⟨_,rfl,ls,_,rfl,.inl (qLo hls),fun lc hlc=>?_⟩
  have s5:Same H1 (upd H1 lc (.lst (bs.map V.bl))):=(smR H1).upd hlc
  have g5:upd H1 lc (.lst (bs.map V.bl)) lc=some (.lst (bs.map V.bl)):=z0c
  generalize upd H1 lc (.lst (bs.map V.bl))=H5 at s5 g5
  refine⟨_,rfl,_,rfl,a',lc,s0,bs,rfl,hSA.same s5,g5,hok,by omega,fun H6 s6=>?_⟩
  refine⟨_,rfl,_,rfl,.ref lc,.ref ls,.lst (dBools bs),rfl,At.ofBools (s6 _ _ g5),At.ofBools (s6 _ _ (s5 _ _ hls)),?_,?_,fun H7 s7=>⟨_,rfl,iteF ?_⟩⟩
  ·rw[D.plain,y5v]
  ·rw[D.size,y7w];omega
  refine⟨_,rfl,.bl (valS bs s0),.bl,.bl,rfl,trivial,_,rfl,iteF ?_⟩
  have ev:(!decide (V.bl (valS bs s0)=V.bl (valS bs s0)))=false:=by simp
  refine⟨_,rfl,_,rfl,rfl,_,rfl,ite2 (fun z=>by rw[ev]at z;cases z) fun _=>?_⟩
  exact key9 bs s0 _ _ _ _ _ a' H7 (hSA.same (s5.trans (s6.trans s7))) hok hb (by omega) h28 (by have:=y0w s0;omega)
 refine⟨_,(z0b (z0n (i:=1) sc_law.nd rfl (Or.inl rfl) (z1d c_l_at hr (by decide) (z0a (pv 0) (z0a z0i z0d))))
 (z0b (z0n (i:=2) sc_law.nd rfl (Or.inl rfl) (pe_ix ix_list (z0u (z0a (pe_op z9z z0i (pe_op z8s (pv 1) z0i)) (z0a z0i z0d))) (z7e x6q (by rfl) B.int_ x9k (z0a (z6e op_eq (pe_op z8s (pe_op y4j (pv 1) z0i) z0i) z0i (z0p _)) z0d)) (fun _ _=>rfl)))
 (z0b (z0n (i:=3) sc_law.nd rfl (Or.inl rfl) (z1d c_l_setting_of hr (by decide) (z0a (z1d c_l_at hr (by decide) (z0a (pv 0) (z0a z0i z0d))) (z0a (pv 2) z0d))))
 (z0b (x3w (z1d c_l_stated hr (by decide) (z0a (y0q x3i (pv 0) (y1k z0i) (y1k z0i)) (z0a (pv 3) z0d))) (x3z rfl (z4z (z1l (i:=4) sc_law.nd rfl (Or.inl rfl)) (z4z (z1l (i:=5) sc_law.nd rfl (Or.inl rfl)) (z4z (z1l (i:=6) sc_law.nd rfl (Or.inl rfl)) y8e)))))
 (z0b (ps_if (z0k op_eq (pe_op z8s (pe_op y4j (pv 1) z0i) z0i) z0i (z0p _))
 (z0b (z0n (i:=4) sc_law.nd rfl (Or.inl rfl) (z2m (z0a z1g (z0a (pv 4) (z0a (z2m (z0a z1g (z0a (pv 4) z0d))) z0d)))))
 (z0e (z0n (i:=5) sc_law.nd rfl (Or.inl rfl) pe_bl)))
 z0q)
 (z0b (ps_if (z0k op_eq (pe_op z8s (pe_op y4j (pv 1) z0i) z0i) z0i (z0p _))
 (z0b (z0n (i:=4) sc_law.nd rfl (Or.inl rfl) (z2m (z0a z1g (z0a (pv 4) (z0a (z2m (z0a z1g (z0a (pv 4) z0d))) z0d)))))
 (z0e (z0n (i:=5) sc_law.nd rfl (Or.inl rfl) pe_bl)))
 z0q)
 hu6)))))),?_⟩
 refine⟨_,rfl,a,ns,0,rfl,hS,?_⟩
 generalize ns.getD 0 0=h0
 refine⟨_,rfl,_,_,rfl,rfl,(by show (0:Int) < 4;decide),_,_,rfl,rfl,len2,fun pl hpl=>?_⟩
 have s1:Same H (upd H pl (.lst [V.int (1+h0 % 4),V.int 7])):=(smR H).upd hpl
 have g1:upd H pl (.lst [V.int (1+h0 % 4),V.int 7]) pl=some (.lst [V.int (1+h0 % 4),V.int 7]):=z0c
 generalize upd H pl (.lst [V.int (1+h0 % 4),V.int 7])=H1 at s1 g1
 refine⟨_,rfl,_,_,rfl,rfl,⟨by decide,by decide⟩,_,_,rfl,rfl,(by show (0:Int) < 8;decide),rfl,.inr ⟨_,rfl,?_⟩⟩
 obtain⟨c,hc0,hc,hat⟩:∃ c:Nat,0 < c/\c<=7/\atI [V.int (1+h0 % 4),V.int 7] (if decide (V.int (h0 / 16 % 8)=V.int 1)=true then 1 else 0)=some (.int c):=by
  have h1:=Int.emod_nonneg h0 (show (4:Int)≠0 by decide)
  have h2:=Int.emod_lt_of_pos h0 (show (0:Int) < 4 by decide)
  split
  ·exact⟨7,by omega,by omega,z4f (show [V.int (1+h0 % 4),V.int 7][1]?=some (.int ((7:Nat):Int)) from rfl)⟩
  ·refine⟨(1+h0 % 4).toNat,by omega,by omega,?_⟩
   have e:((1+h0 % 4).toNat:Int)=1+h0 % 4:=by omega
   rw[e]
   exact z4f (show [V.int (1+h0 % 4),V.int 7][0]?=some (.int (1+h0 % 4)) from rfl)
 refine⟨pl,_,_,_,rfl,rfl,qLo g1,hat,?_⟩
 refine⟨_,rfl,a,ns,1,rfl,s1.seq hS,_,rfl,_,c,rfl,by omega,fun ls H2 hls s2 h2=>?_⟩
 have s02:=s1.trans s2
 have hbl:=y1f (ns.getD 1 0) c
 generalize setting (ns.getD 1 0) c=bs at h2 hbl
 subst hbl
 obtain⟨cells,hcut,hcl,hcn⟩:=x8k ns (some 2) (some 10)
 have hc8:=cut_8 hcut
 refine⟨_,rfl,_,rfl,_,rfl,a,_,rfl,s02.seq hS,fun pc hpc=>?_⟩
 rw[hcut]
 have s3:Same H2 (upd H2 pc (.lst (cells.map V.int))):=(smR H2).upd hpc
 have g3:upd H2 pc (.lst (cells.map V.int)) pc=some (.lst (cells.map V.int)):=z0c
 generalize upd H2 pc (.lst (cells.map V.int))=H3 at s3 g3
 refine⟨_,rfl,pc,ls,cells,bs,rfl,g3,s3 _ _ h2,by omega,by omega,by omega,fun t9 a' lt s0 H4 s4 ht9 h4 hSA hok h4l hps=>?_⟩
 refine⟨t9,_,rfl,qTo h4,rfl,_,_,rfl,_,_,rfl,_,_,rfl,rfl,?_⟩
 have h4s:=s4 _ _ (s3 _ _ h2)
 have hp:=enc_p bs s0 bs.length
 have hbt:=y4x bs s0
 have wrap:∀ (wd:Wd),(∀ x,opW wd x (!x)=false)->∀ (v1 v6:Option V) (p1 p2:Addr) (Hx:Hp),Same H4 Hx->Hx p1=some (.tup [.str "not",.ref a'])->Hx p2=some (.tup [.str wd.str,.ref a',.ref p1])->u6 { nx:=fun _ H'=>Q .non H',rt:=Q } [some (.ref a),v1,some (.int bs.length),some (.ref ls),some (.ref p2),some (.bl false),v6,none,none,none,none] Hx:=fun wd hw v1 v6 p1 p2 Hx sx e1 e2=>by
  have:=key6 bs (.two wd s0 (.non s0)) v1 v6 ls p2 Hx (sx _ _ h4s) ⟨a',p1,e2,hSA.same sx,a',e1,hSA.same sx⟩ ⟨hok,hok⟩ hc (by simp[post];omega) (by
   have g:=enc_p bs (.two wd s0 (.non s0)) bs.length
   rw[g];simp[btS];omega)
  have ev:valS bs (.two wd s0 (.non s0))=false:=hw _
  rwa [ev]at this
 refine⟨_,rfl,_,_,rfl,rfl,⟨by decide,by decide⟩,_,_,rfl,rfl,(by show (0:Int) < 4;decide),rfl,_,rfl,ite2 (fun c1=>?_) (fun c1=>?_)⟩
 ·have n1:h0 / 4 % 4=1:=by have:=of_decide_eq_true c1;injection this
  refine⟨_,rfl,_,rfl,len2,fun p1 hp1=>?_⟩
  have s5:Same H4 (upd H4 p1 (.tup [.str "not",.ref a'])):=(smR H4).upd hp1
  have g5:upd H4 p1 (.tup [.str "not",.ref a']) p1=some (.tup [.str "not",.ref a']):=z0c
  generalize upd H4 p1 (.tup [.str "not",.ref a'])=H5 at s5 g5
  refine⟨len3,fun p2 hp2=>?_⟩
  have s6:Same H5 (upd H5 p2 (.tup [.str "and",.ref a',.ref p1])):=(smR H5).upd hp2
  have g6:upd H5 p2 (.tup [.str "and",.ref a',.ref p1]) p2=some (.tup [.str "and",.ref a',.ref p1]):=z0c
  generalize upd H5 p2 (.tup [.str "and",.ref a',.ref p1])=H6 at s6 g6
  refine⟨_,rfl,_,_,rfl,rfl,⟨by decide,by decide⟩,_,_,rfl,rfl,(by show (0:Int) < 4;decide),rfl,_,rfl,ite2 (fun c2=>?_) (fun _=>?_)⟩
  ·have n2:h0 / 4 % 4=2:=by have:=of_decide_eq_true c2;injection this
   omega
  ·exact wrap .and (fun x=>by cases x<;>rfl) _ _ p1 p2 H6 (s5.trans s6) (s6 _ _ g5) g6
 ·refine⟨_,rfl,_,_,rfl,rfl,⟨by decide,by decide⟩,_,_,rfl,rfl,(by show (0:Int) < 4;decide),rfl,_,rfl,ite2 (fun _=>?_) (fun _=>?_)⟩
  ·refine⟨_,rfl,_,rfl,len2,fun p1 hp1=>?_⟩
   have s5:Same H4 (upd H4 p1 (.tup [.str "not",.ref a'])):=(smR H4).upd hp1
   have g5:upd H4 p1 (.tup [.str "not",.ref a']) p1=some (.tup [.str "not",.ref a']):=z0c
   generalize upd H4 p1 (.tup [.str "not",.ref a'])=H5 at s5 g5
   refine⟨len3,fun p2 hp2=>?_⟩
   have s6:Same H5 (upd H5 p2 (.tup [.str "same",.ref a',.ref p1])):=(smR H5).upd hp2
   have g6:upd H5 p2 (.tup [.str "same",.ref a',.ref p1]) p2=some (.tup [.str "same",.ref a',.ref p1]):=z0c
   generalize upd H5 p2 (.tup [.str "same",.ref a',.ref p1])=H6 at s6 g6
   exact wrap .same (fun x=>by cases x<;>rfl) _ _ p1 p2 H6 (s5.trans s6) (s6 _ _ g5) g6
  ·exact key6 bs s0 _ _ ls a' H4 h4s hSA hok (by omega) (by omega) (by rw[hp];omega)
end
theorem all_mk {l:W.OpenLaw} {w:World} {K:W.Frag} {h:Heap} {mg:Str->Option Value} {fa:Addr} (X:K.In h) (G:h.Ns mainGlobals mg) (hfa:mg "law" = some (.ref fa))
 {f34:Addr} {od34 an34:Option Addr} {sl34:Array (Option Value)} {oc34 kV34 dc34 pm34 cd34 ct34:Value}
 (a34:W.nsIn K mainGlobals "merged" = some (some (.ref f34))) (l34:K.lookup f34=some ⟨oc34,od34,.func (W.fnOf "merged" "merged" (z0s z5t) (z0m z5t) (z0f z5t) .none kV34 dc34 pm34 an34 cd34 ct34),sl34⟩) (c34:W.codeIn K cd34 "merged" = true) (k34:W.keepIn K (.ref f34)=true)
 {f15:Addr} {od15 an15:Option Addr} {sl15:Array (Option Value)} {oc15 kV15 dc15 pm15 cd15 ct15:Value}
 (a15:W.nsIn K mainGlobals "left_open" = some (some (.ref f15))) (l15:K.lookup f15=some ⟨oc15,od15,.func (W.fnOf "left_open" "left_open" (z0s z2x) (z0m z2x) (z0f z2x) .none kV15 dc15 pm15 an15 cd15 ct15),sl15⟩) (c15:W.codeIn K cd15 "left_open" = true) (k15:W.keepIn K (.ref f15)=true)
 {f20:Addr} {od20 an20:Option Addr} {sl20:Array (Option Value)} {oc20 kV20 dc20 pm20 cd20 ct20:Value}
 (a20:W.nsIn K mainGlobals "each_once" = some (some (.ref f20))) (l20:K.lookup f20=some ⟨oc20,od20,.func (W.fnOf "each_once" "each_once" (z0s z3b) (z0m z3b) (z0f z3b) .none kV20 dc20 pm20 an20 cd20 ct20),sl20⟩) (c20:W.codeIn K cd20 "each_once" = true) (k20:W.keepIn K (.ref f20)=true)
 {f33:Addr} {od33 an33:Option Addr} {sl33:Array (Option Value)} {oc33 kV33 dc33 pm33 cd33 ct33:Value}
 (a33:W.nsIn K mainGlobals "marked" = some (some (.ref f33))) (l33:K.lookup f33=some ⟨oc33,od33,.func (W.fnOf "marked" "marked" (z0s z5u) (z0m z5u) (z0f z5u) .none kV33 dc33 pm33 an33 cd33 ct33),sl33⟩) (c33:W.codeIn K cd33 "marked" = true) (k33:W.keepIn K (.ref f33)=true)
 {f16:Addr} {od16 an16:Option Addr} {sl16:Array (Option Value)} {oc16 kV16 dc16 pm16 cd16 ct16:Value}
 (a16:W.nsIn K mainGlobals "free_lamp" = some (some (.ref f16))) (l16:K.lookup f16=some ⟨oc16,od16,.func (W.fnOf "free_lamp" "free_lamp" (z0s z3a) (z0m z3a) (z0f z3a) .none kV16 dc16 pm16 an16 cd16 ct16),sl16⟩) (c16:W.codeIn K cd16 "free_lamp" = true) (k16:W.keepIn K (.ref f16)=true)
 {f18:Addr} {od18 an18:Option Addr} {sl18:Array (Option Value)} {oc18 kV18 dc18 pm18 cd18 ct18:Value}
 (a18:W.nsIn K mainGlobals "gone_back" = some (some (.ref f18))) (l18:K.lookup f18=some ⟨oc18,od18,.func (W.fnOf "gone_back" "gone_back" (z0s z2z) (z0m z2z) (z0f z2z) .none kV18 dc18 pm18 an18 cd18 ct18),sl18⟩) (c18:W.codeIn K cd18 "gone_back" = true) (k18:W.keepIn K (.ref f18)=true)
 {f19:Addr} {od19 an19:Option Addr} {sl19:Array (Option Value)} {oc19 kV19 dc19 pm19 cd19 ct19:Value}
 (a19:W.nsIn K mainGlobals "step_back" = some (some (.ref f19))) (l19:K.lookup f19=some ⟨oc19,od19,.func (W.fnOf "step_back" "step_back" (z0s z2g) (z0m z2g) (z0f z2g) .none kV19 dc19 pm19 an19 cd19 ct19),sl19⟩) (c19:W.codeIn K cd19 "step_back" = true) (k19:W.keepIn K (.ref f19)=true)
 {f39:Addr} {od39 an39:Option Addr} {sl39:Array (Option Value)} {oc39 kV39 dc39 pm39 cd39 ct39:Value}
 (a39:W.nsIn K mainGlobals "solved" = some (some (.ref f39))) (l39:K.lookup f39=some ⟨oc39,od39,.func (W.fnOf "solved" "solved" (z0s z5r) (z0m z5r) (z0f z5r) .none kV39 dc39 pm39 an39 cd39 ct39),sl39⟩) (c39:W.codeIn K cd39 "solved" = true) (k39:W.keepIn K (.ref f39)=true)
 {f35:Addr} {od35 an35:Option Addr} {sl35:Array (Option Value)} {oc35 kV35 dc35 pm35 cd35 ct35:Value}
 (a35:W.nsIn K mainGlobals "search" = some (some (.ref f35))) (l35:K.lookup f35=some ⟨oc35,od35,.func (W.fnOf "search" "search" (z0s z5s) (z0m z5s) (z0f z5s) .none kV35 dc35 pm35 an35 cd35 ct35),sl35⟩) (c35:W.codeIn K cd35 "search" = true) (k35:W.keepIn K (.ref f35)=true)
 {f29:Addr} {od29 an29:Option Addr} {sl29:Array (Option Value)} {oc29 kV29 dc29 pm29 cd29 ct29:Value}
 (a29:W.nsIn K mainGlobals "go_back" = some (some (.ref f29))) (l29:K.lookup f29=some ⟨oc29,od29,.func (W.fnOf "go_back" "go_back" (z0s z4u) (z0m z4u) (z0f z4u) .none kV29 dc29 pm29 an29 cd29 ct29),sl29⟩) (c29:W.codeIn K cd29 "go_back" = true) (k29:W.keepIn K (.ref f29)=true)
 {f12:Addr} {od12 an12:Option Addr} {sl12:Array (Option Value)} {oc12 kV12 dc12 pm12 cd12 ct12:Value}
 (a12:W.nsIn K mainGlobals "next_guess" = some (some (.ref f12))) (l12:K.lookup f12=some ⟨oc12,od12,.func (W.fnOf "next_guess" "next_guess" (z0s z2o) (z0m z2o) (z0f z2o) .none kV12 dc12 pm12 an12 cd12 ct12),sl12⟩) (c12:W.codeIn K cd12 "next_guess" = true) (k12:W.keepIn K (.ref f12)=true)
 {f11:Addr} {od11 an11:Option Addr} {sl11:Array (Option Value)} {oc11 kV11 dc11 pm11 cd11 ct11:Value}
 (a11:W.nsIn K mainGlobals "setting_of" = some (some (.ref f11))) (l11:K.lookup f11=some ⟨oc11,od11,.func (W.fnOf "setting_of" "setting_of" (z0s z2n) (z0m z2n) (z0f z2n) .none kV11 dc11 pm11 an11 cd11 ct11),sl11⟩) (c11:W.codeIn K cd11 "setting_of" = true) (k11:W.keepIn K (.ref f11)=true)
 {f28:Addr} {od28 an28:Option Addr} {sl28:Array (Option Value)} {oc28 kV28 dc28 pm28 cd28 ct28:Value}
 (a28:W.nsIn K mainGlobals "true_in" = some (some (.ref f28))) (l28:K.lookup f28=some ⟨oc28,od28,.func (W.fnOf "true_in" "true_in" (z0s z4q) (z0m z4q) (z0f z4q) .none kV28 dc28 pm28 an28 cd28 ct28),sl28⟩) (c28:W.codeIn K cd28 "true_in" = true) (k28:W.keepIn K (.ref f28)=true)
 {f23:Addr} {od23 an23:Option Addr} {sl23:Array (Option Value)} {oc23 kV23 dc23 pm23 cd23 ct23:Value}
 (a23:W.nsIn K mainGlobals "value_of" = some (some (.ref f23))) (l23:K.lookup f23=some ⟨oc23,od23,.func (W.fnOf "value_of" "value_of" (z0s z3x) (z0m z3x) (z0f z3x) .none kV23 dc23 pm23 an23 cd23 ct23),sl23⟩) (c23:W.codeIn K cd23 "value_of" = true) (k23:W.keepIn K (.ref f23)=true)
 {f24:Addr} {od24 an24:Option Addr} {sl24:Array (Option Value)} {oc24 kV24 dc24 pm24 cd24 ct24:Value}
 (a24:W.nsIn K mainGlobals "sheet_of" = some (some (.ref f24))) (l24:K.lookup f24=some ⟨oc24,od24,.func (W.fnOf "sheet_of" "sheet_of" (z0s z3y) (z0m z3y) (z0f z3y) .none kV24 dc24 pm24 an24 cd24 ct24),sl24⟩) (c24:W.codeIn K cd24 "sheet_of" = true) (k24:W.keepIn K (.ref f24)=true)
 {f22:Addr} {od22 an22:Option Addr} {sl22:Array (Option Value)} {oc22 kV22 dc22 pm22 cd22 ct22:Value}
 (a22:W.nsIn K mainGlobals "wishes_of" = some (some (.ref f22))) (l22:K.lookup f22=some ⟨oc22,od22,.func (W.fnOf "wishes_of" "wishes_of" (z0s z2w) (z0m z2w) (z0f z2w) .none kV22 dc22 pm22 an22 cd22 ct22),sl22⟩) (c22:W.codeIn K cd22 "wishes_of" = true) (k22:W.keepIn K (.ref f22)=true)
 {f31:Addr} {od31 an31:Option Addr} {sl31:Array (Option Value)} {oc31 kV31 dc31 pm31 cd31 ct31:Value}
 (a31:W.nsIn K mainGlobals "weighed" = some (some (.ref f31))) (l31:K.lookup f31=some ⟨oc31,od31,.func (W.fnOf "weighed" "weighed" (z0s z4p) (z0m z4p) (z0f z4p) .none kV31 dc31 pm31 an31 cd31 ct31),sl31⟩) (c31:W.codeIn K cd31 "weighed" = true) (k31:W.keepIn K (.ref f31)=true)
 {f9:Addr} {od9 an9:Option Addr} {sl9:Array (Option Value)} {oc9 kV9 dc9 pm9 cd9 ct9:Value}
 (a9:W.nsIn K mainGlobals "inner_first" = some (some (.ref f9))) (l9:K.lookup f9=some ⟨oc9,od9,.func (W.fnOf "inner_first" "inner_first" (z0s z2b) (z0m z2b) (z0f z2b) .none kV9 dc9 pm9 an9 cd9 ct9),sl9⟩) (c9:W.codeIn K cd9 "inner_first" = true) (k9:W.keepIn K (.ref f9)=true)
 {f38:Addr} {od38 an38:Option Addr} {sl38:Array (Option Value)} {oc38 kV38 dc38 pm38 cd38 ct38:Value}
 (a38:W.nsIn K mainGlobals "_law_draw" = some (some (.ref f38))) (l38:K.lookup f38=some ⟨oc38,od38,.func (W.fnOf "_law_draw" "_law_draw" (z0s z5w) (z0m z5w) (z0f z5w) .none kV38 dc38 pm38 an38 cd38 ct38),sl38⟩) (c38:W.codeIn K cd38 "_law_draw" = true) (k38:W.keepIn K (.ref f38)=true)
 {f32:Addr} {od32 an32:Option Addr} {sl32:Array (Option Value)} {oc32 kV32 dc32 pm32 cd32 ct32:Value}
 (a32:W.nsIn K mainGlobals "_law_whole" = some (some (.ref f32))) (l32:K.lookup f32=some ⟨oc32,od32,.func (W.fnOf "_law_whole" "_law_whole" (z0s z4r) (z0m z4r) (z0f z4r) .none kV32 dc32 pm32 an32 cd32 ct32),sl32⟩) (c32:W.codeIn K cd32 "_law_whole" = true) (k32:W.keepIn K (.ref f32)=true)
 {f40:Addr} {od40 an40:Option Addr} {sl40:Array (Option Value)} {oc40 kV40 dc40 pm40 cd40 ct40:Value}
 (a40:W.nsIn K mainGlobals "_law_at" = some (some (.ref f40))) (l40:K.lookup f40=some ⟨oc40,od40,.func (W.fnOf "_law_at" "_law_at" (z0s z9w) (z0m z9w) (z0f z9w) .none kV40 dc40 pm40 an40 cd40 ct40),sl40⟩) (c40:W.codeIn K cd40 "_law_at" = true) (k40:W.keepIn K (.ref f40)=true)
 {f30:Addr} {od30 an30:Option Addr} {sl30:Array (Option Value)} {oc30 kV30 dc30 pm30 cd30 ct30:Value}
 (a30:W.nsIn K mainGlobals "_law_alike" = some (some (.ref f30))) (l30:K.lookup f30=some ⟨oc30,od30,.func (W.fnOf "_law_alike" "_law_alike" (z0s z4t) (z0m z4t) (z0f z4t) .none kV30 dc30 pm30 an30 cd30 ct30),sl30⟩) (c30:W.codeIn K cd30 "_law_alike" = true) (k30:W.keepIn K (.ref f30)=true)
 {f6:Addr} {od6 an6:Option Addr} {sl6:Array (Option Value)} {oc6 kV6 dc6 pm6 cd6 ct6:Value}
 (a6:W.nsIn K mainGlobals "_law_setting_of" = some (some (.ref f6))) (l6:K.lookup f6=some ⟨oc6,od6,.func (W.fnOf "_law_setting_of" "_law_setting_of" (z0s z1v) (z0m z1v) (z0f z1v) .none kV6 dc6 pm6 an6 cd6 ct6),sl6⟩) (c6:W.codeIn K cd6 "_law_setting_of" = true) (k6:W.keepIn K (.ref f6)=true)
 {f36:Addr} {od36 an36:Option Addr} {sl36:Array (Option Value)} {oc36 kV36 dc36 pm36 cd36 ct36:Value}
 (a36:W.nsIn K mainGlobals "_law_pair" = some (some (.ref f36))) (l36:K.lookup f36=some ⟨oc36,od36,.func (W.fnOf "_law_pair" "_law_pair" (z0s z4n) (z0m z4n) (z0f z4n) .none kV36 dc36 pm36 an36 cd36 ct36),sl36⟩) (c36:W.codeIn K cd36 "_law_pair" = true) (k36:W.keepIn K (.ref f36)=true)
 {f26:Addr} {od26 an26:Option Addr} {sl26:Array (Option Value)} {oc26 kV26 dc26 pm26 cd26 ct26:Value}
 (a26:W.nsIn K mainGlobals "_law_stated" = some (some (.ref f26))) (l26:K.lookup f26=some ⟨oc26,od26,.func (W.fnOf "_law_stated" "_law_stated" (z0s z2s) (z0m z2s) (z0f z2s) .none kV26 dc26 pm26 an26 cd26 ct26),sl26⟩) (c26:W.codeIn K cd26 "_law_stated" = true) (k26:W.keepIn K (.ref f26)=true)
 {f27:Addr} {od27 an27:Option Addr} {sl27:Array (Option Value)} {oc27 kV27 dc27 pm27 cd27 ct27:Value}
 (a27:W.nsIn K mainGlobals "_law_merge" = some (some (.ref f27))) (l27:K.lookup f27=some ⟨oc27,od27,.func (W.fnOf "_law_merge" "_law_merge" (z0s z4s) (z0m z4s) (z0f z4s) .none kV27 dc27 pm27 an27 cd27 ct27),sl27⟩) (c27:W.codeIn K cd27 "_law_merge" = true) (k27:W.keepIn K (.ref f27)=true)
 {f7:Addr} {od7 an7:Option Addr} {sl7:Array (Option Value)} {oc7 kV7 dc7 pm7 cd7 ct7:Value}
 (a7:W.nsIn K mainGlobals "_law_right_step" = some (some (.ref f7))) (l7:K.lookup f7=some ⟨oc7,od7,.func (W.fnOf "_law_right_step" "_law_right_step" (z0s z1w) (z0m z1w) (z0f z1w) .none kV7 dc7 pm7 an7 cd7 ct7),sl7⟩) (c7:W.codeIn K cd7 "_law_right_step" = true) (k7:W.keepIn K (.ref f7)=true)
 {f21:Addr} {od21 an21:Option Addr} {sl21:Array (Option Value)} {oc21 kV21 dc21 pm21 cd21 ct21:Value}
 (a21:W.nsIn K mainGlobals "_law_refuted" = some (some (.ref f21))) (l21:K.lookup f21=some ⟨oc21,od21,.func (W.fnOf "_law_refuted" "_law_refuted" (z0s z2y) (z0m z2y) (z0f z2y) .none kV21 dc21 pm21 an21 cd21 ct21),sl21⟩) (c21:W.codeIn K cd21 "_law_refuted" = true) (k21:W.keepIn K (.ref f21)=true)
 {f37:Addr} {od37 an37:Option Addr} {sl37:Array (Option Value)} {oc37 kV37 dc37 pm37 cd37 ct37:Value}
 (a37:W.nsIn K mainGlobals "_law_full" = some (some (.ref f37))) (l37:K.lookup f37=some ⟨oc37,od37,.func (W.fnOf "_law_full" "_law_full" (z0s z5v) (z0m z5v) (z0f z5v) .none kV37 dc37 pm37 an37 cd37 ct37),sl37⟩) (c37:W.codeIn K cd37 "_law_full" = true) (k37:W.keepIn K (.ref f37)=true)
 {f25:Addr} {od25 an25:Option Addr} {sl25:Array (Option Value)} {oc25 kV25 dc25 pm25 cd25 ct25:Value}
 (a25:W.nsIn K mainGlobals "_law_answer" = some (some (.ref f25))) (l25:K.lookup f25=some ⟨oc25,od25,.func (W.fnOf "_law_answer" "_law_answer" (z0s z3z) (z0m z3z) (z0f z3z) .none kV25 dc25 pm25 an25 cd25 ct25),sl25⟩) (c25:W.codeIn K cd25 "_law_answer" = true) (k25:W.keepIn K (.ref f25)=true)
 {f13:Addr} {od13 an13:Option Addr} {sl13:Array (Option Value)} {oc13 kV13 dc13 pm13 cd13 ct13:Value}
 (a13:W.nsIn K mainGlobals "_law_truth_of" = some (some (.ref f13))) (l13:K.lookup f13=some ⟨oc13,od13,.func (W.fnOf "_law_truth_of" "_law_truth_of" (z0s z2p) (z0m z2p) (z0f z2p) .none kV13 dc13 pm13 an13 cd13 ct13),sl13⟩) (c13:W.codeIn K cd13 "_law_truth_of" = true) (k13:W.keepIn K (.ref f13)=true)
 {f5:Addr} {od5 an5:Option Addr} {sl5:Array (Option Value)} {oc5 kV5 dc5 pm5 cd5 ct5:Value}
 (a5:W.nsIn K mainGlobals "_law_first_true" = some (some (.ref f5))) (l5:K.lookup f5=some ⟨oc5,od5,.func (W.fnOf "_law_first_true" "_law_first_true" (z0s z1x) (z0m z1x) (z0f z1x) .none kV5 dc5 pm5 an5 cd5 ct5),sl5⟩) (c5:W.codeIn K cd5 "_law_first_true" = true) (k5:W.keepIn K (.ref f5)=true)
 {f8:Addr} {od8 an8:Option Addr} {sl8:Array (Option Value)} {oc8 kV8 dc8 pm8 cd8 ct8:Value}
 (a8:W.nsIn K mainGlobals "_law_sheet_due" = some (some (.ref f8))) (l8:K.lookup f8=some ⟨oc8,od8,.func (W.fnOf "_law_sheet_due" "_law_sheet_due" (z0s z2a) (z0m z2a) (z0f z2a) .none kV8 dc8 pm8 an8 cd8 ct8),sl8⟩) (c8:W.codeIn K cd8 "_law_sheet_due" = true) (k8:W.keepIn K (.ref f8)=true)
 {f41:Addr} {od41 an41:Option Addr} {sl41:Array (Option Value)} {oc41 kV41 dc41 pm41 cd41 ct41:Value}
 (a41:W.nsIn K mainGlobals "law" = some (some (.ref f41))) (l41:K.lookup f41=some ⟨oc41,od41,.func (W.fnOf "law" "law" (z0s s_law) (z0m s_law) (z0f s_law) .none kV41 dc41 pm41 an41 cd41 ct41),sl41⟩) (c41:W.codeIn K cd41 "law" = true) (k41:W.keepIn K (.ref f41)=true)
 (z_len:W.nsIn K mainGlobals "len" = some none) (z_abs:W.nsIn K mainGlobals "abs" = some none) (z_isinstance:W.nsIn K mainGlobals "isinstance" = some none) (z_int:W.nsIn K mainGlobals "int" = some none) (z_bool:W.nsIn K mainGlobals "bool" = some none) (z_list:W.nsIn K mainGlobals "list" = some none) (z_tuple:W.nsIn K mainGlobals "tuple" = some none) (z_str:W.nsIn K mainGlobals "str" = some none) (z_range:W.nsIn K mainGlobals "range" = some none) (z_max:W.nsIn K mainGlobals "max" = some none) (z_min:W.nsIn K mainGlobals "min" = some none) (z_sorted:W.nsIn K mainGlobals "sorted" = some none) (z_set:W.nsIn K mainGlobals "set" = some none) (z_enumerate:W.nsIn K mainGlobals "enumerate" = some none) (z_reversed:W.nsIn K mainGlobals "reversed" = some none) (z_any:W.nsIn K mainGlobals "any" = some none) {C_Tally:Addr} (ya_Tally:W.nsIn K mainGlobals "Tally" = some (some (.ref C_Tally))) {f14:Addr} {od14 an14:Option Addr} {sl14:Array (Option Value)} {oc14 kV14 dc14 pm14 cd14 ct14:Value} (a14:W.findIn K (.ref C_Tally) "__init__" = some (some (.ref f14))) (i14:W.isFn K (.ref f14)=true) (l14:K.lookup f14=some ⟨oc14,od14,.func (W.fnOf "__init__" "Tally.__init__" (z0s z2q) (z0m z2q) (z0f z2q) .none kV14 dc14 pm14 an14 cd14 ct14),sl14⟩) (c14:W.codeIn K cd14 "Tally.__init__" = true) (k14:W.keepIn K (.ref f14)=true) {f2:Addr} {od2 an2:Option Addr} {sl2:Array (Option Value)} {oc2 kV2 dc2 pm2 cd2 ct2:Value} (a2:W.findIn K (.ref C_Tally) "put_wish" = some (some (.ref f2))) (i2:W.isFn K (.ref f2)=true) (l2:K.lookup f2=some ⟨oc2,od2,.func (W.fnOf "put_wish" "Tally.put_wish" (z0s z1j) (z0m z1j) (z0f z1j) .none kV2 dc2 pm2 an2 cd2 ct2),sl2⟩) (c2:W.codeIn K cd2 "Tally.put_wish" = true) (k2:W.keepIn K (.ref f2)=true) {f17:Addr} {od17 an17:Option Addr} {sl17:Array (Option Value)} {oc17 kV17 dc17 pm17 cd17 ct17:Value} (a17:W.findIn K (.ref C_Tally) "put" = some (some (.ref f17))) (i17:W.isFn K (.ref f17)=true) (l17:K.lookup f17=some ⟨oc17,od17,.func (W.fnOf "put" "Tally.put" (z0s z3c) (z0m z3c) (z0f z3c) .none kV17 dc17 pm17 an17 cd17 ct17),sl17⟩) (c17:W.codeIn K cd17 "Tally.put" = true) (k17:W.keepIn K (.ref f17)=true) {f3:Addr} {od3 an3:Option Addr} {sl3:Array (Option Value)} {oc3 kV3 dc3 pm3 cd3 ct3:Value} (a3:W.findIn K (.ref C_Tally) "take_off" = some (some (.ref f3))) (i3:W.isFn K (.ref f3)=true) (l3:K.lookup f3=some ⟨oc3,od3,.func (W.fnOf "take_off" "Tally.take_off" (z0s z1i) (z0m z1i) (z0f z1i) .none kV3 dc3 pm3 an3 cd3 ct3),sl3⟩) (c3:W.codeIn K cd3 "Tally.take_off" = true) (k3:W.keepIn K (.ref f3)=true) {f0:Addr} {od0 an0:Option Addr} {sl0:Array (Option Value)} {oc0 kV0 dc0 pm0 cd0 ct0:Value} (a0:W.findIn K (.ref C_Tally) "count_letter" = some (some (.ref f0))) (i0:W.isFn K (.ref f0)=true) (l0:K.lookup f0=some ⟨oc0,od0,.func (W.fnOf "count_letter" "Tally.count_letter" (z0s z1b) (z0m z1b) (z0f z1b) .none kV0 dc0 pm0 an0 cd0 ct0),sl0⟩) (c0:W.codeIn K cd0 "Tally.count_letter" = true) (k0:W.keepIn K (.ref f0)=true) {f4:Addr} {od4 an4:Option Addr} {sl4:Array (Option Value)} {oc4 kV4 dc4 pm4 cd4 ct4:Value} (a4:W.findIn K (.ref C_Tally) "sort_in" = some (some (.ref f4))) (i4:W.isFn K (.ref f4)=true) (l4:K.lookup f4=some ⟨oc4,od4,.func (W.fnOf "sort_in" "Tally.sort_in" (z0s z1p) (z0m z1p) (z0f z1p) .none kV4 dc4 pm4 an4 cd4 ct4),sl4⟩) (c4:W.codeIn K cd4 "Tally.sort_in" = true) (k4:W.keepIn K (.ref f4)=true) {f1:Addr} {od1 an1:Option Addr} {sl1:Array (Option Value)} {oc1 kV1 dc1 pm1 cd1 ct1:Value} (a1:W.findIn K (.ref C_Tally) "first_broken" = some (some (.ref f1))) (i1:W.isFn K (.ref f1)=true) (l1:K.lookup f1=some ⟨oc1,od1,.func (W.fnOf "first_broken" "Tally.first_broken" (z0s z1a) (z0m z1a) (z0f z1a) .none kV1 dc1 pm1 an1 cd1 ct1),sl1⟩) (c1:W.codeIn K cd1 "Tally.first_broken" = true) (k1:W.keepIn K (.ref f1)=true) {f10:Addr} {od10 an10:Option Addr} {sl10:Array (Option Value)} {oc10 kV10 dc10 pm10 cd10 ct10:Value} (a10:W.findIn K (.ref C_Tally) "go_on" = some (some (.ref f10))) (i10:W.isFn K (.ref f10)=true) (l10:K.lookup f10=some ⟨oc10,od10,.func (W.fnOf "go_on" "Tally.go_on" (z0s z2c) (z0m z2c) (z0f z2c) .none kV10 dc10 pm10 an10 cd10 ct10),sl10⟩) (c10:W.codeIn K cd10 "Tally.go_on" = true) (k10:W.keepIn K (.ref f10)=true) (yp_Tally:W.plainGet K C_Tally Str.empty=true) (yh_Tally:W.hasDictIn K C_Tally=true) (yo_Tally:W.plainOver K C_Tally=true) (ys_Tally:W.findIn K (.ref C_Tally) "__setattr__" = some (some (.builtin "object.__setattr__"))) (ym_Tally:W.makesIn K C_Tally=true) (yk_Tally:W.keepIn K (.ref C_Tally)=true) (yn_Tally_wishes:W.findIn K (.ref C_Tally) "wishes" = some none) (yn_Tally_trail:W.findIn K (.ref C_Tally) "trail" = some none) (yn_Tally_taken:W.findIn K (.ref C_Tally) "taken" = some none) (yn_Tally_places:W.findIn K (.ref C_Tally) "places" = some none) (yn_Tally_so:W.findIn K (.ref C_Tally) "so" = some none) (yn_Tally_left:W.findIn K (.ref C_Tally) "left" = some none) (yn_Tally_failing:W.findIn K (.ref C_Tally) "failing" = some none) (yn_Tally_forcing:W.findIn K (.ref C_Tally) "forcing" = some none) :
 ∃ fd:FuncData,(∀ (s:Shared) (v:Value),BindsTo s fd ⟨[v],[]⟩ [("_law_script",v)])/\∀ base:Heap,K.In base->base.Ns mainGlobals mg->FnOk l.prog w K mg base CX0 lawK fa fd ["_law_script"] (spLaw K):=by
 have e:=hfa.symm.trans (W.mg_of X G a41)
 cases e
 have B:Blt mg:=⟨W.mg_none_of X G z_len,W.mg_none_of X G z_abs,W.mg_none_of X G z_isinstance,W.mg_none_of X G z_int,W.mg_none_of X G z_bool,W.mg_none_of X G z_list,W.mg_none_of X G z_tuple,W.mg_none_of X G z_str,W.mg_none_of X G z_range,W.mg_none_of X G z_max,W.mg_none_of X G z_min,W.mg_none_of X G z_sorted,W.mg_none_of X G z_set,W.mg_none_of X G z_enumerate,W.mg_none_of X G z_reversed,W.mg_none_of X G z_any⟩
 have D34:Def K mg "merged" z5t z6v:=z1t (st:=z5t) X G a34 l34 c34 k34 fun _ _ _ _ _ _ us hl=>match us,hl with | [_,_,_],_=>rfl
 have D15:Def K mg "left_open" z2x z3s:=z1t (st:=z2x) X G a15 l15 c15 k15 fun _ _ _ _ _ _ us hl=>match us,hl with | [_,_],_=>rfl
 have D20:Def K mg "each_once" z3b z3g:=z1t (st:=z3b) X G a20 l20 c20 k20 fun _ _ _ _ _ _ us hl=>match us,hl with | [_],_=>rfl
 have D33:Def K mg "marked" z5u z6a:=z1t (st:=z5u) X G a33 l33 c33 k33 fun _ _ _ _ _ _ us hl=>match us,hl with | [_],_=>rfl
 have D16:Def K mg "free_lamp" z3a z3u:=z1t (st:=z3a) X G a16 l16 c16 k16 fun _ _ _ _ _ _ us hl=>match us,hl with | [_,_],_=>rfl
 have D18:Def K mg "gone_back" z2z z3t:=z1t (st:=z2z) X G a18 l18 c18 k18 fun _ _ _ _ _ _ us hl=>match us,hl with | [_,_,_],_=>rfl
 have D19:Def K mg "step_back" z2g z4j:=z1t (st:=z2g) X G a19 l19 c19 k19 fun _ _ _ _ _ _ us hl=>match us,hl with | [_,_,_,_],_=>rfl
 have D39:Def K mg "solved" z5r z6t:=z1t (st:=z5r) X G a39 l39 c39 k39 fun _ _ _ _ _ _ us hl=>match us,hl with | [_,_],_=>rfl
 have D35:Def K mg "search" z5s z6u:=z1t (st:=z5s) X G a35 l35 c35 k35 fun _ _ _ _ _ _ us hl=>match us,hl with | [_,_,_],_=>rfl
 have D29:Def K mg "go_back" z4u z5j:=z1t (st:=z4u) X G a29 l29 c29 k29 fun _ _ _ _ _ _ us hl=>match us,hl with | [_,_],_=>rfl
 have D12:Def K mg "next_guess" z2o z3e:=z1t (st:=z2o) X G a12 l12 c12 k12 fun _ _ _ _ _ _ us hl=>match us,hl with | [_,_,_],_=>rfl
 have D11:Def K mg "setting_of" z2n z3d:=z1t (st:=z2n) X G a11 l11 c11 k11 fun _ _ _ _ _ _ us hl=>match us,hl with | [_,_],_=>rfl
 have D28:Def K mg "true_in" z4q z6j:=z1t (st:=z4q) X G a28 l28 c28 k28 fun _ _ _ _ _ _ us hl=>match us,hl with | [_,_],_=>rfl
 have D23:Def K mg "value_of" z3x z4i:=z1t (st:=z3x) X G a23 l23 c23 k23 fun _ _ _ _ _ _ us hl=>match us,hl with | [_,_,_],_=>rfl
 have D24:Def K mg "sheet_of" z3y z4k:=z1t (st:=z3y) X G a24 l24 c24 k24 fun _ _ _ _ _ _ us hl=>match us,hl with | [_,_],_=>rfl
 have D22:Def K mg "wishes_of" z2w z3r:=z1t (st:=z2w) X G a22 l22 c22 k22 fun _ _ _ _ _ _ us hl=>match us,hl with | [_,_,_,_],_=>rfl
 have D31:Def K mg "weighed" z4p z6i:=z1t (st:=z4p) X G a31 l31 c31 k31 fun _ _ _ _ _ _ us hl=>match us,hl with | [_,_],_=>rfl
 have D9:Def K mg "inner_first" z2b z2d:=z1t (st:=z2b) X G a9 l9 c9 k9 fun _ _ _ _ _ _ us hl=>match us,hl with | [_],_=>rfl
 have D38:Def K mg "_law_draw" z5w z6x:=z1t (st:=z5w) X G a38 l38 c38 k38 fun _ _ _ _ _ _ us hl=>match us,hl with | [_,_,_],_=>rfl
 have D32:Def K mg "_law_whole" z4r z4v:=z1t (st:=z4r) X G a32 l32 c32 k32 fun _ _ _ _ _ _ us hl=>match us,hl with | [_],_=>rfl
 have D40:Def K mg "_law_at" z9w y2z:=z1t (st:=z9w) X G a40 l40 c40 k40 fun _ _ _ _ _ _ us hl=>match us,hl with | [_,_],_=>rfl
 have D30:Def K mg "_law_alike" z4t z5i:=z1t (st:=z4t) X G a30 l30 c30 k30 fun _ _ _ _ _ _ us hl=>match us,hl with | [_,_],_=>rfl
 have D6:Def K mg "_law_setting_of" z1v z2t:=z1t (st:=z1v) X G a6 l6 c6 k6 fun _ _ _ _ _ _ us hl=>match us,hl with | [_,_],_=>rfl
 have D36:Def K mg "_law_pair" z4n z6w:=z1t (st:=z4n) X G a36 l36 c36 k36 fun _ _ _ _ _ _ us hl=>match us,hl with | [_,_,_],_=>rfl
 have D26:Def K mg "_law_stated" z2s z5e:=z1t (st:=z2s) X G a26 l26 c26 k26 fun _ _ _ _ _ _ us hl=>match us,hl with | [_,_],_=>rfl
 have D27:Def K mg "_law_merge" z4s z5h:=z1t (st:=z4s) X G a27 l27 c27 k27 fun _ _ _ _ _ _ us hl=>match us,hl with | [_,_,_],_=>rfl
 have D7:Def K mg "_law_right_step" z1w z2h:=z1t (st:=z1w) X G a7 l7 c7 k7 fun _ _ _ _ _ _ us hl=>match us,hl with | [_,_],_=>rfl
 have D21:Def K mg "_law_refuted" z2y z4l:=z1t (st:=z2y) X G a21 l21 c21 k21 fun _ _ _ _ _ _ us hl=>match us,hl with | [_,_],_=>rfl
 have D37:Def K mg "_law_full" z5v z7n:=z1t (st:=z5v) X G a37 l37 c37 k37 fun _ _ _ _ _ _ us hl=>match us,hl with | [_,_],_=>rfl
 have D25:Def K mg "_law_answer" z3z z5f:=z1t (st:=z3z) X G a25 l25 c25 k25 fun _ _ _ _ _ _ us hl=>match us,hl with | [_],_=>rfl
 have D13:Def K mg "_law_truth_of" z2p z3f:=z1t (st:=z2p) X G a13 l13 c13 k13 fun _ _ _ _ _ _ us hl=>match us,hl with | [_,_],_=>rfl
 have D5:Def K mg "_law_first_true" z1x z2u:=z1t (st:=z1x) X G a5 l5 c5 k5 fun _ _ _ _ _ _ us hl=>match us,hl with | [_,_],_=>rfl
 have D8:Def K mg "_law_sheet_due" z2a z3j:=z1t (st:=z2a) X G a8 l8 c8 k8 fun _ _ _ _ _ _ us hl=>match us,hl with | [_,_],_=>rfl
 refine⟨W.fnOf "law" "law" (z0s s_law) (z0m s_law) (z0f s_law) .none kV41 dc41 pm41 an41 cd41 ct41,fun s v=>.of_eq rfl,fun base Xb Gb=>?_⟩
 exact ok_law (y6x (st:=s_law) l41 c41 k41) B D34 D15 D20 D33 D16 D18 D19 D39 D35 D29 D12 D11 D28 D23 D24 D22 D31 D9 D38 D32 D40 D30 D6 D36 D26 D27 D7 D21 D37 D25 D13 D5 D8 (⟨⟨yp_Tally,yh_Tally,yo_Tally,ys_Tally⟩,yn_Tally_wishes,yn_Tally_trail,yn_Tally_taken,yn_Tally_places,yn_Tally_so,yn_Tally_left,yn_Tally_failing,yn_Tally_forcing,W.mg_of X G ya_Tally,ym_Tally,yk_Tally⟩:TallyCls K mg C_Tally) (z7f (st:=z2q) (ps:=z2e) a14 i14 l14 c14 k14 fun _ _ _ _ _ _ us hl=>match us,hl with | [_,_],_=>rfl:MDef K C_Tally "__init__" "Tally.__init__" z2q z2e) (z7f (st:=z1j) (ps:=z1f) a2 i2 l2 c2 k2 fun _ _ _ _ _ _ us hl=>match us,hl with | [_,_],_=>rfl:MDef K C_Tally "put_wish" "Tally.put_wish" z1j z1f) (z7f (st:=z3c) (ps:=z2i) a17 i17 l17 c17 k17 fun _ _ _ _ _ _ us hl=>match us,hl with | [_,_,_],_=>rfl:MDef K C_Tally "put" "Tally.put" z3c z2i) (z7f (st:=z1i) (ps:=z1k) a3 i3 l3 c3 k3 fun _ _ _ _ _ _ us hl=>match us,hl with | [_],_=>rfl:MDef K C_Tally "take_off" "Tally.take_off" z1i z1k) (z7f (st:=z1b) (ps:=z0y) a0 i0 l0 c0 k0 fun _ _ _ _ _ _ us hl=>match us,hl with | [_,_,_],_=>rfl:MDef K C_Tally "count_letter" "Tally.count_letter" z1b z0y) (z7f (st:=z1p) (ps:=z1h) a4 i4 l4 c4 k4 fun _ _ _ _ _ _ us hl=>match us,hl with | [_,_],_=>rfl:MDef K C_Tally "sort_in" "Tally.sort_in" z1p z1h) (z7f (st:=z1a) (ps:=z0x) a1 i1 l1 c1 k1 fun _ _ _ _ _ _ us hl=>match us,hl with | [_],_=>rfl:MDef K C_Tally "first_broken" "Tally.first_broken" z1a z0x) (z7f (st:=z2c) (ps:=z2f) a10 i10 l10 c10 k10 fun _ _ _ _ _ _ us hl=>match us,hl with | [_],_=>rfl:MDef K C_Tally "go_on" "Tally.go_on" z2c z2f)
theorem walk {l:PySem.W.OpenLaw} {q:Program} {loose:List Str} {XP:(Str->Option Value)->Heap->Prop} {YP:World->Heap->Prop} {d:DefRec} {K:Params->PySem.W.Frag} (hn:l.most=some 63) (hdf:d.params.defaults=[])
 (hY:∀ (w:World) (h:Heap),YP w h->(K w.params).In h)
 (F:∀ (w:World) (mg:Str->Option Value) (fa:Addr) (h:Heap),(K w.params).In h->h.Ns mainGlobals mg->mg d.name=some (.ref fa) ->
  ∃ fd:FuncData,(∀ (s:Shared) (u:Value),BindsTo s fd ⟨[u],[]⟩ [("_law_script",u)])/\∀ base:Heap,(K w.params).In base->base.Ns mainGlobals mg->FnOk l.prog w (K w.params) mg base CX0 lawK fa fd ["_law_script"] (spLaw (K w.params))) :
 PySem.W.WalkO q loose XP YP l.row.toRowW d [] (fun f vs=>PySem.call f vs) :=
 L2.walk_of (n:=63) (k:=lawK) (x:="_law_script") (CX:=fun _=>CX0) (sp:=fun w=>spLaw (K w.params)) hn (by decide) hdf ⟨rfl,by decide,by decide⟩ hY F (fun _ _ a ns hl _ hS=>⟨a,ns,rfl,hS,hl,fun _=>rfl⟩) fun _ _ _ _ _ z=>z
end My
open PySem PySem.W PyProof.Rows
set_option maxRecDepth 100000 in
set_option maxHeartbeats 0 in
theorem PySem.Challenge.cw_lampwish_k14_whole_weighed_holds : PySem.Challenge.rw_lampwish_k14_whole_weighed.Holds := by
 w_on;o_law
 refine PySem.W.holds_open (q:=My.qv) (loose:=[]) (Xt:=fun s=>PySem.W.xlAt My.qv [] s && PySem.W.recOk (PySem.W.RowW.records PySem.Challenge.rw_lampwish_k14_whole_weighed.row.toRowW) s) (XP:=PySem.W.XL My.qv []) (Yf:=PySem.W.Hook.obs (PySem.W.kHook My.hk My.hkA My.hkE)) (Ya:=PySem.W.Hook.val (PySem.W.kHook My.hk My.hkA My.hkE)) (YP:=PySem.W.Hook.says (PySem.W.kHook My.hk My.hkA My.hkE)) (N:=4114) My.left (PySem.W.Hook.of (PySem.W.kHook My.hk My.hkA My.hkE)) (PySem.W.Hook.keeps (PySem.W.kHook My.hk My.hkA My.hkE)) (fun s e=>PySem.W.xl_of s (Bool.and_eq_true_iff.mp e).1) PySem.W.XL.keeps (by rfl) (by rfl) (by rfl) (fun s e=>PySem.W.recFacts_of (Bool.and_eq_true_iff.mp e).2) (by rfl) (by first | assumption | decide +kernel) (by decide +kernel) ⟨rfl,rfl,rfl,rfl,rfl,by decide +kernel⟩ ?hw ?hc
 (case hw=>w_witness2)
 k_fill
 refine My.walk (l:=PySem.Challenge.rw_lampwish_k14_whole_weighed) rfl rfl (fun w h Y=>PySem.W.kIn_of Y) ?F
 case F =>
  intro w mg fa h KX G hmg
  refine' My.all_mk KX G hmg ?a34 ?l34 ?c34 ?k34 ?a15 ?l15 ?c15 ?k15 ?a20 ?l20 ?c20 ?k20 ?a33 ?l33 ?c33 ?k33 ?a16 ?l16 ?c16 ?k16 ?a18 ?l18 ?c18 ?k18 ?a19 ?l19 ?c19 ?k19 ?a39 ?l39 ?c39 ?k39 ?a35 ?l35 ?c35 ?k35 ?a29 ?l29 ?c29 ?k29 ?a12 ?l12 ?c12 ?k12 ?a11 ?l11 ?c11 ?k11 ?a28 ?l28 ?c28 ?k28 ?a23 ?l23 ?c23 ?k23 ?a24 ?l24 ?c24 ?k24 ?a22 ?l22 ?c22 ?k22 ?a31 ?l31 ?c31 ?k31 ?a9 ?l9 ?c9 ?k9 ?a38 ?l38 ?c38 ?k38 ?a32 ?l32 ?c32 ?k32 ?a40 ?l40 ?c40 ?k40 ?a30 ?l30 ?c30 ?k30 ?a6 ?l6 ?c6 ?k6 ?a36 ?l36 ?c36 ?k36 ?a26 ?l26 ?c26 ?k26 ?a27 ?l27 ?c27 ?k27 ?a7 ?l7 ?c7 ?k7 ?a21 ?l21 ?c21 ?k21 ?a37 ?l37 ?c37 ?k37 ?a25 ?l25 ?c25 ?k25 ?a13 ?l13 ?c13 ?k13 ?a5 ?l5 ?c5 ?k5 ?a8 ?l8 ?c8 ?k8 ?a41 ?l41 ?c41 ?k41 ?z_len ?z_abs ?z_isinstance ?z_int ?z_bool ?z_list ?z_tuple ?z_str ?z_range ?z_max ?z_min ?z_sorted ?z_set ?z_enumerate ?z_reversed ?z_any ?ya_Tally ?a14 ?i14 ?l14 ?c14 ?k14 ?a2 ?i2 ?l2 ?c2 ?k2 ?a17 ?i17 ?l17 ?c17 ?k17 ?a3 ?i3 ?l3 ?c3 ?k3 ?a0 ?i0 ?l0 ?c0 ?k0 ?a4 ?i4 ?l4 ?c4 ?k4 ?a1 ?i1 ?l1 ?c1 ?k1 ?a10 ?i10 ?l10 ?c10 ?k10 ?yp_Tally ?yh_Tally ?yo_Tally ?ys_Tally ?ym_Tally ?yk_Tally ?yn_Tally_wishes ?yn_Tally_trail ?yn_Tally_taken ?yn_Tally_places ?yn_Tally_so ?yn_Tally_left ?yn_Tally_failing ?yn_Tally_forcing
  (case a34=>k_is);(case l34=>k_is);(case c34=>k_is);(case k34=>k_is)
  (case a15=>k_is);(case l15=>k_is);(case c15=>k_is);(case k15=>k_is)
  (case a20=>k_is);(case l20=>k_is);(case c20=>k_is);(case k20=>k_is)
  (case a33=>k_is);(case l33=>k_is);(case c33=>k_is);(case k33=>k_is)
  (case a16=>k_is);(case l16=>k_is);(case c16=>k_is);(case k16=>k_is)
  (case a18=>k_is);(case l18=>k_is);(case c18=>k_is);(case k18=>k_is)
  (case a19=>k_is);(case l19=>k_is);(case c19=>k_is);(case k19=>k_is)
  (case a39=>k_is);(case l39=>k_is);(case c39=>k_is);(case k39=>k_is)
  (case a35=>k_is);(case l35=>k_is);(case c35=>k_is);(case k35=>k_is)
  (case a29=>k_is);(case l29=>k_is);(case c29=>k_is);(case k29=>k_is)
  (case a12=>k_is);(case l12=>k_is);(case c12=>k_is);(case k12=>k_is)
  (case a11=>k_is);(case l11=>k_is);(case c11=>k_is);(case k11=>k_is)
  (case a28=>k_is);(case l28=>k_is);(case c28=>k_is);(case k28=>k_is)
  (case a23=>k_is);(case l23=>k_is);(case c23=>k_is);(case k23=>k_is)
  (case a24=>k_is);(case l24=>k_is);(case c24=>k_is);(case k24=>k_is)
  (case a22=>k_is);(case l22=>k_is);(case c22=>k_is);(case k22=>k_is)
  (case a31=>k_is);(case l31=>k_is);(case c31=>k_is);(case k31=>k_is)
  (case a9=>k_is);(case l9=>k_is);(case c9=>k_is);(case k9=>k_is)
  (case a38=>k_is);(case l38=>k_is);(case c38=>k_is);(case k38=>k_is)
  (case a32=>k_is);(case l32=>k_is);(case c32=>k_is);(case k32=>k_is)
  (case a40=>k_is);(case l40=>k_is);(case c40=>k_is);(case k40=>k_is)
  (case a30=>k_is);(case l30=>k_is);(case c30=>k_is);(case k30=>k_is)
  (case a6=>k_is);(case l6=>k_is);(case c6=>k_is);(case k6=>k_is)
  (case a36=>k_is);(case l36=>k_is);(case c36=>k_is);(case k36=>k_is)
  (case a26=>k_is);(case l26=>k_is);(case c26=>k_is);(case k26=>k_is)
  (case a27=>k_is);(case l27=>k_is);(case c27=>k_is);(case k27=>k_is)
  (case a7=>k_is);(case l7=>k_is);(case c7=>k_is);(case k7=>k_is)
  (case a21=>k_is);(case l21=>k_is);(case c21=>k_is);(case k21=>k_is)
  (case a37=>k_is);(case l37=>k_is);(case c37=>k_is);(case k37=>k_is)
  (case a25=>k_is);(case l25=>k_is);(case c25=>k_is);(case k25=>k_is)
  (case a13=>k_is);(case l13=>k_is);(case c13=>k_is);(case k13=>k_is)
  (case a5=>k_is);(case l5=>k_is);(case c5=>k_is);(case k5=>k_is)
  (case a8=>k_is);(case l8=>k_is);(case c8=>k_is);(case k8=>k_is)
  (case a41=>k_is);(case l41=>k_is);(case c41=>k_is);(case k41=>k_is)
  (case z_len=>k_is);(case z_abs=>k_is);(case z_isinstance=>k_is);(case z_int=>k_is);(case z_bool=>k_is);(case z_list=>k_is);(case z_tuple=>k_is);(case z_str=>k_is);(case z_range=>k_is);(case z_max=>k_is);(case z_min=>k_is);(case z_sorted=>k_is);(case z_set=>k_is);(case z_enumerate=>k_is);(case z_reversed=>k_is);(case z_any=>k_is)
  (case ya_Tally=>k_is);(case a14=>k_is);(case i14=>k_is);(case l14=>k_is);(case c14=>k_is);(case k14=>k_is);(case a2=>k_is);(case i2=>k_is);(case l2=>k_is);(case c2=>k_is);(case k2=>k_is);(case a17=>k_is);(case i17=>k_is);(case l17=>k_is);(case c17=>k_is);(case k17=>k_is);(case a3=>k_is);(case i3=>k_is);(case l3=>k_is);(case c3=>k_is);(case k3=>k_is);(case a0=>k_is);(case i0=>k_is);(case l0=>k_is);(case c0=>k_is);(case k0=>k_is);(case a4=>k_is);(case i4=>k_is);(case l4=>k_is);(case c4=>k_is);(case k4=>k_is);(case a1=>k_is);(case i1=>k_is);(case l1=>k_is);(case c1=>k_is);(case k1=>k_is);(case a10=>k_is);(case i10=>k_is);(case l10=>k_is);(case c10=>k_is);(case k10=>k_is);(case yp_Tally=>k_is);(case yh_Tally=>k_is);(case yo_Tally=>k_is);(case ys_Tally=>k_is);(case ym_Tally=>k_is);(case yk_Tally=>k_is);(case yn_Tally_wishes=>k_is);(case yn_Tally_trail=>k_is);(case yn_Tally_taken=>k_is);(case yn_Tally_places=>k_is);(case yn_Tally_so=>k_is);(case yn_Tally_left=>k_is);(case yn_Tally_failing=>k_is);(case yn_Tally_forcing=>k_is)
#print axioms PySem.Challenge.cw_lampwish_k14_whole_weighed_holds
