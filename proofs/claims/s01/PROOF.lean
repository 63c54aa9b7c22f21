import PyProof.Rows.All
import Wide.All
import OpenK.AllK
import Wide.FinOn
import PyProof.EqAt
import PyProof.EqKinds
import PyProof.TupleCall
import KE.BitLaws
import Open.SpecLaws
import KE.OsHead
import KE.OsGo
import PyProof.Rows.SortShellAny
import PyProof.Rows.CallKwBuiltin
import KE.KMinKey
import PySem.Challenge.RW_laidstrands_s01_answers
set_option Elab.async false
set_option linter.all false
set_option maxRecDepth 100000
namespace L2
open PySem
def inClass (s : Stmt) (j : Nat) : Stmt := match s with
  | .ClassDef _ _ _ body _ _ _ _ _ _ _ => body.getD j (.Pass ⟨0, 0, 0, 0⟩)
  | _ => .Pass ⟨0, 0, 0, 0⟩
def defArgs (s : Stmt) : Arguments := match s with
  | .FunctionDef _ a _ _ _ _ _ _ _ _ => a
  | _ => { posonlyargs := [], args := [], vararg := none, kwonlyargs := [], kw_defaults := [], kwarg := none, defaults := [] }
def defBody (s : Stmt) : List Stmt := match s with
  | .FunctionDef _ _ b _ _ _ _ _ _ _ => b
  | _ => []
def defScope (s : Stmt) : Scope := match s with
  | .FunctionDef _ _ _ _ _ _ sc _ _ _ => sc
  | _ => { kind := .function, names := [], isGenerator := false, isCoroutine := false }
end L2
namespace LS
open PySem
def top (i : Nat) : Stmt := PySem.Challenge.pw_laidstrands_s01_answers.main.body.getD i (.Pass ⟨0, 0, 0, 0⟩)
end LS
namespace LS
open PySem PySem.W PyProof.Rows
open L2 (defArgs defBody defScope inClass)
/-- an entry of a dict: its key, the key's number, what stands there -/
def kE (P : Params) (x : Str) (t : Nat) (v : Value) : DictEntry := .mk (PyData.keyHash P x) (.str x t) v
set_option maxRecDepth 100000 in
set_option maxHeartbeats 0 in
noncomputable def kept : Params → Frag := fun P =>
  (nat_lit 2, .mk .none none (.dict #[]) #[]) ::
  (nat_lit 3, .mk (.type "dict") none (.dict #[kE P "__name__" 165 (.str "laidstrands.strand" 410), kE P "__doc__" 166 .none, kE P "__package__" 167 .none, kE P "__loader__" 168 (.builtin "__main__.__loader__#opaque"), kE P "__spec__" 169 .none, kE P "__annotations__" 170 (.ref 6), kE P "__builtins__" 171 (.ref 4), kE P "__file__" 173 (.str "/claim/cut.py" 172), kE P "__cached__" 174 .none, kE P "METRE" 190 (.int 1000 189), kE P "Bobbin" 280 (.ref 81), kE P "apart" 293 (.ref 92), kE P "steps" 299 (.ref 97), kE P "apart_within" 307 (.ref 104), kE P "fine_alone" 316 (.ref 111), kE P "fine_beside_others" 327 (.ref 118), kE P "bad_bobbins" 339 (.ref 125), kE P "all_fine" 348 (.ref 132), kE P "MOST_CUT" 352 (.int 8 351), kE P "options_of" 358 (.ref 137), kE P "cuts_fine_alone" 364 (.ref 142), kE P "agreeing_cuts" 378 (.ref 149), kE P "agrees" 389 (.ref 156), kE P "way_of_total" 403 (.ref 163), kE P "least_way" 409 (.ref 168), kE P "NO_SUCH_BOBBIN" 414 (.int (-2) 413), kE P "NOT_BEGUN" 417 (.int (-11) 416), kE P "TOO_LITTLE_LEFT" 420 (.int (-12) 419), kE P "THERE_ALREADY" 423 (.int (-17) 422), kE P "OUT_OF_BOUNDS" 426 (.int (-22) 425), kE P "FULL" 429 (.int (-28) 428), kE P "NO_WAY" 432 (.int (-33) 431), kE P "NOT_FINE" 435 (.int (-33) 434), kE P "TOO_FEW_JOINTS" 438 (.int (-33) 437), kE P "MOST_GAP" 440 (.int 10000 439), kE P "LEAST_LAY" 442 (.int 1000 441), kE P "MOST_LAY" 444 (.int 2000 443), kE P "MOST_LEFT" 446 (.int 100000 445), kE P "MOST_RUN" 448 (.int 100000 447), kE P "MOST_BOBBINS" 450 (.int 4 449), kE P "MOST_JOINTS" 452 (.int 4 451), kE P "BEGIN" 454 (.int 0 453), kE P "ARGUMENTS" 475 (.ref 169), kE P "OF_A_BOBBIN" 483 (.ref 170), kE P "Strand" 569 (.ref 230), kE P "call_begin" 578 (.ref 241), kE P "call_bobbin" 588 (.ref 248), kE P "call_joint" 598 (.ref 255), kE P "joins_out_of_bounds" 606 (.ref 262), kE P "call_join" 616 (.ref 269), kE P "call_could" 627 (.ref 276), kE P "call_cut" 636 (.ref 283), kE P "call_least" 645 (.ref 290), kE P "call_cutleast" 656 (.ref 297), kE P "call_fine" 664 (.ref 304), kE P "call_bad" 673 (.ref 311), kE P "call_nearest" 683 (.ref 318), kE P "refusal_of_run" 691 (.ref 325), kE P "call_run" 700 (.ref 332), kE P "call_may" 709 (.ref 339), kE P "call_lasts" 717 (.ref 346), kE P "call_places" 726 (.ref 353), kE P "call_next" 732 (.ref 358), kE P "call_gone" 740 (.ref 365), kE P "call_wire" 748 (.ref 372), kE P "call_look" 757 (.ref 379), kE P "call_sums" 765 (.ref 386), kE P "HANDLERS" 766 (.ref 387), kE P "answer_call" 775 (.ref 394), kE P "answers" 787 (.ref 401)] 70) #[]) ::
  (nat_lit 27, .mk (.type "code") none (.fields #[.str "__init__" 203, .str "Bobbin.__init__" 204, .str "/claim/cut.py" 205, .int 5 0, .int 3 0, .int 0 0, .int 0 0, .int 3 0, .ref 22, .bool true, .int 181 0, .ref 23, .none, .ref 24, .ref 25, .ref 26, .int 209 0, .int 5 0, .str "/claim/cut.py" 210]) #[]) ::
  (nat_lit 28, .mk (.type "function") none (.func (.mk "__init__" "Bobbin.__init__" (defArgs (inClass (top 2) 0)) (.stmts (defBody (inClass (top 2) 0))) (defScope (inClass (top 2) 0)) 3 [] .none .none .none (.str "laidstrands.bobbin" 187) none (.ref 27) .none 0)) #[]) ::
  (nat_lit 34, .mk (.type "code") none (.fields #[.str "place" 212, .str "Bobbin.place" 213, .str "/claim/cut.py" 214, .int 10 0, .int 3 0, .int 0 0, .int 0 0, .int 3 0, .ref 29, .bool true, .int 181 0, .ref 30, .none, .ref 31, .ref 32, .ref 33, .int 218 0, .int 10 0, .str "/claim/cut.py" 219]) #[]) ::
  (nat_lit 35, .mk (.type "function") none (.func (.mk "place" "Bobbin.place" (defArgs (inClass (top 2) 1)) (.stmts (defBody (inClass (top 2) 1))) (defScope (inClass (top 2) 1)) 3 [] .none .none .none (.str "laidstrands.bobbin" 187) none (.ref 34) .none 0)) #[]) ::
  (nat_lit 39, .mk (.type "code") none (.fields #[.str "places_behind" 221, .str "Bobbin.places_behind" 222, .str "/claim/cut.py" 223, .int 13 0, .int 3 0, .int 0 0, .int 0 0, .int 3 0, .ref 36, .bool true, .int 181 0, .ref 37, .none, .none, .none, .ref 38, .int 224 0, .int 13 0, .str "/claim/cut.py" 225]) #[]) ::
  (nat_lit 40, .mk (.type "function") none (.func (.mk "places_behind" "Bobbin.places_behind" (defArgs (inClass (top 2) 2)) (.stmts (defBody (inClass (top 2) 2))) (defScope (inClass (top 2) 2)) 3 [] .none .none .none (.str "laidstrands.bobbin" 187) none (.ref 39) .none 0)) #[]) ::
  (nat_lit 44, .mk (.type "code") none (.fields #[.str "places_within" 227, .str "Bobbin.places_within" 228, .str "/claim/cut.py" 229, .int 16 0, .int 3 0, .int 0 0, .int 0 0, .int 3 0, .ref 41, .bool true, .int 181 0, .ref 42, .none, .none, .none, .ref 43, .int 230 0, .int 16 0, .str "/claim/cut.py" 231]) #[]) ::
  (nat_lit 45, .mk (.type "function") none (.func (.mk "places_within" "Bobbin.places_within" (defArgs (inClass (top 2) 3)) (.stmts (defBody (inClass (top 2) 3))) (defScope (inClass (top 2) 3)) 3 [] .none .none .none (.str "laidstrands.bobbin" 187) none (.ref 44) .none 0)) #[]) ::
  (nat_lit 51, .mk (.type "code") none (.fields #[.str "wire_for" 233, .str "Bobbin.wire_for" 234, .str "/claim/cut.py" 235, .int 19 0, .int 2 0, .int 0 0, .int 0 0, .int 3 0, .ref 46, .bool true, .int 181 0, .ref 47, .none, .ref 48, .ref 49, .ref 50, .int 238 0, .int 19 0, .str "/claim/cut.py" 239]) #[]) ::
  (nat_lit 52, .mk (.type "function") none (.func (.mk "wire_for" "Bobbin.wire_for" (defArgs (inClass (top 2) 4)) (.stmts (defBody (inClass (top 2) 4))) (defScope (inClass (top 2) 4)) 3 [] .none .none .none (.str "laidstrands.bobbin" 187) none (.ref 51) .none 0)) #[]) ::
  (nat_lit 58, .mk (.type "code") none (.fields #[.str "lasts_for" 241, .str "Bobbin.lasts_for" 242, .str "/claim/cut.py" 243, .int 22 0, .int 1 0, .int 0 0, .int 0 0, .int 3 0, .ref 53, .bool true, .int 181 0, .ref 54, .none, .ref 55, .ref 56, .ref 57, .int 245 0, .int 22 0, .str "/claim/cut.py" 246]) #[]) ::
  (nat_lit 59, .mk (.type "function") none (.func (.mk "lasts_for" "Bobbin.lasts_for" (defArgs (inClass (top 2) 5)) (.stmts (defBody (inClass (top 2) 5))) (defScope (inClass (top 2) 5)) 3 [] .none .none .none (.str "laidstrands.bobbin" 187) none (.ref 58) .none 0)) #[]) ::
  (nat_lit 65, .mk (.type "code") none (.fields #[.str "add_joint" 248, .str "Bobbin.add_joint" 249, .str "/claim/cut.py" 250, .int 25 0, .int 2 0, .int 0 0, .int 0 0, .int 3 0, .ref 60, .bool true, .int 181 0, .ref 61, .none, .ref 62, .ref 63, .ref 64, .int 253 0, .int 25 0, .str "/claim/cut.py" 254]) #[]) ::
  (nat_lit 66, .mk (.type "function") none (.func (.mk "add_joint" "Bobbin.add_joint" (defArgs (inClass (top 2) 6)) (.stmts (defBody (inClass (top 2) 6))) (defScope (inClass (top 2) 6)) 3 [] .none .none .none (.str "laidstrands.bobbin" 187) none (.ref 65) .none 0)) #[]) ::
  (nat_lit 72, .mk (.type "code") none (.fields #[.str "lengthen" 256, .str "Bobbin.lengthen" 257, .str "/claim/cut.py" 258, .int 28 0, .int 2 0, .int 0 0, .int 0 0, .int 3 0, .ref 67, .bool true, .int 181 0, .ref 68, .none, .ref 69, .ref 70, .ref 71, .int 261 0, .int 28 0, .str "/claim/cut.py" 262]) #[]) ::
  (nat_lit 73, .mk (.type "function") none (.func (.mk "lengthen" "Bobbin.lengthen" (defArgs (inClass (top 2) 7)) (.stmts (defBody (inClass (top 2) 7))) (defScope (inClass (top 2) 7)) 3 [] .none .none .none (.str "laidstrands.bobbin" 187) none (.ref 72) .none 0)) #[]) ::
  (nat_lit 77, .mk (.type "code") none (.fields #[.str "shorten" 264, .str "Bobbin.shorten" 265, .str "/claim/cut.py" 266, .int 33 0, .int 2 0, .int 0 0, .int 0 0, .int 3 0, .ref 74, .bool true, .int 181 0, .ref 75, .none, .none, .none, .ref 76, .int 267 0, .int 33 0, .str "/claim/cut.py" 268]) #[]) ::
  (nat_lit 78, .mk (.type "function") none (.func (.mk "shorten" "Bobbin.shorten" (defArgs (inClass (top 2) 8)) (.stmts (defBody (inClass (top 2) 8))) (defScope (inClass (top 2) 8)) 3 [] .none .none .none (.str "laidstrands.bobbin" 187) none (.ref 77) .none 0)) #[]) ::
  (nat_lit 80, .mk (.type "dict") none (.dict #[kE P "__module__" 198 (.str "laidstrands.bobbin" 187), kE P "__firstlineno__" 202 (.int 3 201), kE P "__init__" 211 (.ref 28), kE P "place" 220 (.ref 35), kE P "places_behind" 226 (.ref 40), kE P "places_within" 232 (.ref 45), kE P "wire_for" 240 (.ref 52), kE P "lasts_for" 247 (.ref 59), kE P "add_joint" 255 (.ref 66), kE P "lengthen" 263 (.ref 73), kE P "shorten" 269 (.ref 78), kE P "__static_attributes__" 273 (.ref 79), kE P "__dict__" 275 (.ref 82), kE P "__weakref__" 277 (.ref 83), kE P "__doc__" 278 .none] 4) #[]) ::
  (nat_lit 81, .mk (.type "type") none (.cls (.mk "Bobbin" [.type "object"] [.ref 81, .type "object"] 80 "Bobbin" true [] [] false none false)) #[none, none, some (.str "Bobbin" 191), some (.str "Bobbin" 199), some (.builtin "object.__new__"), some (.bool true)]) ::
  (nat_lit 91, .mk (.type "code") none (.fields #[.str "apart" 283, .str "apart" 284, .str "/claim/cut.py" 285, .int 37 0, .int 3 0, .int 0 0, .int 0 0, .int 3 0, .ref 86, .bool true, .int 181 0, .ref 87, .none, .ref 88, .ref 89, .ref 90, .int 291 0, .int 37 0, .str "/claim/cut.py" 292]) #[]) ::
  (nat_lit 92, .mk (.type "function") none (.func (.mk "apart" "apart" (defArgs (top 4)) (.stmts (defBody (top 4))) (defScope (top 4)) 3 [] .none .none .none (.str "laidstrands.nearness" 281) none (.ref 91) .none 0)) #[]) ::
  (nat_lit 96, .mk (.type "code") none (.fields #[.str "steps" 294, .str "steps" 295, .str "/claim/cut.py" 296, .int 43 0, .int 1 0, .int 0 0, .int 0 0, .int 3 0, .ref 93, .bool true, .int 181 0, .ref 94, .none, .none, .none, .ref 95, .int 297 0, .int 43 0, .str "/claim/cut.py" 298]) #[]) ::
  (nat_lit 97, .mk (.type "function") none (.func (.mk "steps" "steps" (defArgs (top 5)) (.stmts (defBody (top 5))) (defScope (top 5)) 3 [] .none .none .none (.str "laidstrands.nearness" 281) none (.ref 96) .none 0)) #[]) ::
  (nat_lit 103, .mk (.type "code") none (.fields #[.str "apart_within" 300, .str "apart_within" 301, .str "/claim/cut.py" 302, .int 46 0, .int 2 0, .int 0 0, .int 0 0, .int 3 0, .ref 98, .bool true, .int 181 0, .ref 99, .none, .ref 100, .ref 101, .ref 102, .int 305 0, .int 46 0, .str "/claim/cut.py" 306]) #[]) ::
  (nat_lit 104, .mk (.type "function") none (.func (.mk "apart_within" "apart_within" (defArgs (top 6)) (.stmts (defBody (top 6))) (defScope (top 6)) 3 [] .none .none .none (.str "laidstrands.nearness" 281) none (.ref 103) .none 0)) #[]) ::
  (nat_lit 110, .mk (.type "code") none (.fields #[.str "fine_alone" 308, .str "fine_alone" 309, .str "/claim/cut.py" 310, .int 48 0, .int 3 0, .int 0 0, .int 0 0, .int 3 0, .ref 105, .bool true, .int 181 0, .ref 106, .none, .ref 107, .ref 108, .ref 109, .int 314 0, .int 48 0, .str "/claim/cut.py" 315]) #[]) ::
  (nat_lit 111, .mk (.type "function") none (.func (.mk "fine_alone" "fine_alone" (defArgs (top 7)) (.stmts (defBody (top 7))) (defScope (top 7)) 3 [] .none .none .none (.str "laidstrands.nearness" 281) none (.ref 110) .none 0)) #[]) ::
  (nat_lit 117, .mk (.type "code") none (.fields #[.str "fine_beside_others" 317, .str "fine_beside_others" 318, .str "/claim/cut.py" 319, .int 50 0, .int 3 0, .int 0 0, .int 0 0, .int 3 0, .ref 112, .bool true, .int 181 0, .ref 113, .none, .ref 114, .ref 115, .ref 116, .int 325 0, .int 50 0, .str "/claim/cut.py" 326]) #[]) ::
  (nat_lit 118, .mk (.type "function") none (.func (.mk "fine_beside_others" "fine_beside_others" (defArgs (top 8)) (.stmts (defBody (top 8))) (defScope (top 8)) 3 [] .none .none .none (.str "laidstrands.nearness" 281) none (.ref 117) .none 0)) #[]) ::
  (nat_lit 124, .mk (.type "code") none (.fields #[.str "bad_bobbins" 328, .str "bad_bobbins" 329, .str "/claim/cut.py" 330, .int 55 0, .int 3 0, .int 0 0, .int 0 0, .int 3 0, .ref 119, .bool true, .int 181 0, .ref 120, .none, .ref 121, .ref 122, .ref 123, .int 337 0, .int 55 0, .str "/claim/cut.py" 338]) #[]) ::
  (nat_lit 125, .mk (.type "function") none (.func (.mk "bad_bobbins" "bad_bobbins" (defArgs (top 9)) (.stmts (defBody (top 9))) (defScope (top 9)) 3 [] .none .none .none (.str "laidstrands.nearness" 281) none (.ref 124) .none 0)) #[]) ::
  (nat_lit 131, .mk (.type "code") none (.fields #[.str "all_fine" 340, .str "all_fine" 341, .str "/claim/cut.py" 342, .int 61 0, .int 3 0, .int 0 0, .int 0 0, .int 3 0, .ref 126, .bool true, .int 181 0, .ref 127, .none, .ref 128, .ref 129, .ref 130, .int 346 0, .int 61 0, .str "/claim/cut.py" 347]) #[]) ::
  (nat_lit 132, .mk (.type "function") none (.func (.mk "all_fine" "all_fine" (defArgs (top 10)) (.stmts (defBody (top 10))) (defScope (top 10)) 3 [] .none .none .none (.str "laidstrands.nearness" 281) none (.ref 131) .none 0)) #[]) ::
  (nat_lit 136, .mk (.type "code") none (.fields #[.str "options_of" 353, .str "options_of" 354, .str "/claim/cut.py" 355, .int 65 0, .int 2 0, .int 0 0, .int 0 0, .int 3 0, .ref 133, .bool true, .int 181 0, .ref 134, .none, .none, .none, .ref 135, .int 356 0, .int 65 0, .str "/claim/cut.py" 357]) #[]) ::
  (nat_lit 137, .mk (.type "function") none (.func (.mk "options_of" "options_of" (defArgs (top 13)) (.stmts (defBody (top 13))) (defScope (top 13)) 3 [] .none .none .none (.str "laidstrands.ways" 349) none (.ref 136) .none 0)) #[]) ::
  (nat_lit 141, .mk (.type "code") none (.fields #[.str "cuts_fine_alone" 359, .str "cuts_fine_alone" 360, .str "/claim/cut.py" 361, .int 67 0, .int 3 0, .int 0 0, .int 0 0, .int 3 0, .ref 138, .bool true, .int 181 0, .ref 139, .none, .none, .none, .ref 140, .int 362 0, .int 67 0, .str "/claim/cut.py" 363]) #[]) ::
  (nat_lit 142, .mk (.type "function") none (.func (.mk "cuts_fine_alone" "cuts_fine_alone" (defArgs (top 14)) (.stmts (defBody (top 14))) (defScope (top 14)) 3 [] .none .none .none (.str "laidstrands.ways" 349) none (.ref 141) .none 0)) #[]) ::
  (nat_lit 148, .mk (.type "code") none (.fields #[.str "agreeing_cuts" 365, .str "agreeing_cuts" 366, .str "/claim/cut.py" 367, .int 69 0, .int 3 0, .int 0 0, .int 0 0, .int 3 0, .ref 143, .bool true, .int 181 0, .ref 144, .none, .ref 145, .ref 146, .ref 147, .int 376 0, .int 69 0, .str "/claim/cut.py" 377]) #[]) ::
  (nat_lit 149, .mk (.type "function") none (.func (.mk "agreeing_cuts" "agreeing_cuts" (defArgs (top 15)) (.stmts (defBody (top 15))) (defScope (top 15)) 3 [] .none .none .none (.str "laidstrands.ways" 349) none (.ref 148) .none 0)) #[]) ::
  (nat_lit 155, .mk (.type "code") none (.fields #[.str "agrees" 379, .str "agrees" 380, .str "/claim/cut.py" 381, .int 78 0, .int 3 0, .int 0 0, .int 0 0, .int 3 0, .ref 150, .bool true, .int 181 0, .ref 151, .none, .ref 152, .ref 153, .ref 154, .int 387 0, .int 78 0, .str "/claim/cut.py" 388]) #[]) ::
  (nat_lit 156, .mk (.type "function") none (.func (.mk "agrees" "agrees" (defArgs (top 16)) (.stmts (defBody (top 16))) (defScope (top 16)) 3 [] .none .none .none (.str "laidstrands.ways" 349) none (.ref 155) .none 0)) #[]) ::
  (nat_lit 162, .mk (.type "code") none (.fields #[.str "way_of_total" 390, .str "way_of_total" 391, .str "/claim/cut.py" 392, .int 83 0, .int 4 0, .int 0 0, .int 0 0, .int 3 0, .ref 157, .bool true, .int 181 0, .ref 158, .none, .ref 159, .ref 160, .ref 161, .int 401 0, .int 83 0, .str "/claim/cut.py" 402]) #[]) ::
  (nat_lit 163, .mk (.type "function") none (.func (.mk "way_of_total" "way_of_total" (defArgs (top 17)) (.stmts (defBody (top 17))) (defScope (top 17)) 3 [] .none .none .none (.str "laidstrands.ways" 349) none (.ref 162) .none 0)) #[]) ::
  (nat_lit 167, .mk (.type "code") none (.fields #[.str "least_way" 404, .str "least_way" 405, .str "/claim/cut.py" 406, .int 94 0, .int 3 0, .int 0 0, .int 0 0, .int 3 0, .ref 164, .bool true, .int 181 0, .ref 165, .none, .none, .none, .ref 166, .int 407 0, .int 94 0, .str "/claim/cut.py" 408]) #[]) ::
  (nat_lit 168, .mk (.type "function") none (.func (.mk "least_way" "least_way" (defArgs (top 18)) (.stmts (defBody (top 18))) (defScope (top 18)) 3 [] .none .none .none (.str "laidstrands.ways" 349) none (.ref 167) .none 0)) #[]) ::
  (nat_lit 169, .mk (.type "tuple") none (.seq #[.int 1 455, .int 2 456, .int 2 457, .int 2 458, .int 2 459, .int 2 460, .int 0 461, .int 0 462, .int 0 463, .int 0 464, .int 0 465, .int 1 466, .int 1 467, .int 0 468, .int 1 469, .int 0 470, .int 0 471, .int 2 472, .int 1 473, .int 0 474]) #[]) ::
  (nat_lit 170, .mk (.type "tuple") none (.seq #[.int 2 476, .int 3 477, .int 4 478, .int 5 479, .int 14 480, .int 17 481, .int 18 482]) #[]) ::
  (nat_lit 183, .mk (.type "code") none (.fields #[.str "__init__" 496, .str "Strand.__init__" 497, .str "/claim/cut.py" 498, .int 124 0, .int 1 0, .int 0 0, .int 0 0, .int 3 0, .ref 178, .bool true, .int 181 0, .ref 179, .none, .ref 180, .ref 181, .ref 182, .int 500 0, .int 124 0, .str "/claim/cut.py" 501]) #[]) ::
  (nat_lit 184, .mk (.type "function") none (.func (.mk "__init__" "Strand.__init__" (defArgs (inClass (top 39) 0)) (.stmts (defBody (inClass (top 39) 0))) (defScope (inClass (top 39) 0)) 3 [] .none .none .none (.str "laidstrands.strand" 410) none (.ref 183) .none 0)) #[]) ::
  (nat_lit 190, .mk (.type "code") none (.fields #[.str "restart" 503, .str "Strand.restart" 504, .str "/claim/cut.py" 505, .int 128 0, .int 2 0, .int 0 0, .int 0 0, .int 3 0, .ref 185, .bool true, .int 181 0, .ref 186, .none, .ref 187, .ref 188, .ref 189, .int 508 0, .int 128 0, .str "/claim/cut.py" 509]) #[]) ::
  (nat_lit 191, .mk (.type "function") none (.func (.mk "restart" "Strand.restart" (defArgs (inClass (top 39) 1)) (.stmts (defBody (inClass (top 39) 1))) (defScope (inClass (top 39) 1)) 3 [] .none .none .none (.str "laidstrands.strand" 410) none (.ref 190) .none 0)) #[]) ::
  (nat_lit 195, .mk (.type "code") none (.fields #[.str "groups" 511, .str "Strand.groups" 512, .str "/claim/cut.py" 513, .int 135 0, .int 1 0, .int 0 0, .int 0 0, .int 3 0, .ref 192, .bool true, .int 181 0, .ref 193, .none, .none, .none, .ref 194, .int 514 0, .int 135 0, .str "/claim/cut.py" 515]) #[]) ::
  (nat_lit 196, .mk (.type "function") none (.func (.mk "groups" "Strand.groups" (defArgs (inClass (top 39) 2)) (.stmts (defBody (inClass (top 39) 2))) (defScope (inClass (top 39) 2)) 3 [] .none .none .none (.str "laidstrands.strand" 410) none (.ref 195) .none 0)) #[]) ::
  (nat_lit 202, .mk (.type "code") none (.fields #[.str "is_fine" 517, .str "Strand.is_fine" 518, .str "/claim/cut.py" 519, .int 138 0, .int 2 0, .int 0 0, .int 0 0, .int 3 0, .ref 197, .bool true, .int 181 0, .ref 198, .none, .ref 199, .ref 200, .ref 201, .int 522 0, .int 138 0, .str "/claim/cut.py" 523]) #[]) ::
  (nat_lit 203, .mk (.type "function") none (.func (.mk "is_fine" "Strand.is_fine" (defArgs (inClass (top 39) 3)) (.stmts (defBody (inClass (top 39) 3))) (defScope (inClass (top 39) 3)) 3 [] .none .none .none (.str "laidstrands.strand" 410) none (.ref 202) .none 0)) #[]) ::
  (nat_lit 207, .mk (.type "code") none (.fields #[.str "best_way" 525, .str "Strand.best_way" 526, .str "/claim/cut.py" 527, .int 141 0, .int 1 0, .int 0 0, .int 0 0, .int 3 0, .ref 204, .bool true, .int 181 0, .ref 205, .none, .none, .none, .ref 206, .int 528 0, .int 141 0, .str "/claim/cut.py" 529]) #[]) ::
  (nat_lit 208, .mk (.type "function") none (.func (.mk "best_way" "Strand.best_way" (defArgs (inClass (top 39) 4)) (.stmts (defBody (inClass (top 39) 4))) (defScope (inClass (top 39) 4)) 3 [] .none .none .none (.str "laidstrands.strand" 410) none (.ref 207) .none 0)) #[]) ::
  (nat_lit 214, .mk (.type "code") none (.fields #[.str "cut_bobbin" 531, .str "Strand.cut_bobbin" 532, .str "/claim/cut.py" 533, .int 145 0, .int 3 0, .int 0 0, .int 0 0, .int 3 0, .ref 209, .bool true, .int 181 0, .ref 210, .none, .ref 211, .ref 212, .ref 213, .int 537 0, .int 145 0, .str "/claim/cut.py" 538]) #[]) ::
  (nat_lit 215, .mk (.type "function") none (.func (.mk "cut_bobbin" "Strand.cut_bobbin" (defArgs (inClass (top 39) 5)) (.stmts (defBody (inClass (top 39) 5))) (defScope (inClass (top 39) 5)) 3 [] .none .none .none (.str "laidstrands.strand" 410) none (.ref 214) .none 0)) #[]) ::
  (nat_lit 219, .mk (.type "code") none (.fields #[.str "lasts_for" 540, .str "Strand.lasts_for" 541, .str "/claim/cut.py" 542, .int 149 0, .int 1 0, .int 0 0, .int 0 0, .int 3 0, .ref 216, .bool true, .int 181 0, .ref 217, .none, .none, .none, .ref 218, .int 543 0, .int 149 0, .str "/claim/cut.py" 544]) #[]) ::
  (nat_lit 220, .mk (.type "function") none (.func (.mk "lasts_for" "Strand.lasts_for" (defArgs (inClass (top 39) 6)) (.stmts (defBody (inClass (top 39) 6))) (defScope (inClass (top 39) 6)) 3 [] .none .none .none (.str "laidstrands.strand" 410) none (.ref 219) .none 0)) #[]) ::
  (nat_lit 226, .mk (.type "code") none (.fields #[.str "lay_strand" 546, .str "Strand.lay_strand" 547, .str "/claim/cut.py" 548, .int 152 0, .int 2 0, .int 0 0, .int 0 0, .int 3 0, .ref 221, .bool true, .int 181 0, .ref 222, .none, .ref 223, .ref 224, .ref 225, .int 553 0, .int 152 0, .str "/claim/cut.py" 554]) #[]) ::
  (nat_lit 227, .mk (.type "function") none (.func (.mk "lay_strand" "Strand.lay_strand" (defArgs (inClass (top 39) 7)) (.stmts (defBody (inClass (top 39) 7))) (defScope (inClass (top 39) 7)) 3 [] .none .none .none (.str "laidstrands.strand" 410) none (.ref 226) .none 0)) #[]) ::
  (nat_lit 229, .mk (.type "dict") none (.dict #[kE P "__module__" 491 (.str "laidstrands.strand" 410), kE P "__firstlineno__" 495 (.int 122 494), kE P "__init__" 502 (.ref 184), kE P "restart" 510 (.ref 191), kE P "groups" 516 (.ref 196), kE P "is_fine" 524 (.ref 203), kE P "best_way" 530 (.ref 208), kE P "cut_bobbin" 539 (.ref 215), kE P "lasts_for" 545 (.ref 220), kE P "lay_strand" 555 (.ref 227), kE P "__static_attributes__" 562 (.ref 228), kE P "__dict__" 564 (.ref 231), kE P "__weakref__" 566 (.ref 232), kE P "__doc__" 567 .none] 4) #[]) ::
  (nat_lit 230, .mk (.type "type") none (.cls (.mk "Strand" [.type "object"] [.ref 230, .type "object"] 229 "Strand" true [] [] false none false)) #[none, none, some (.str "Strand" 484), some (.str "Strand" 492), some (.builtin "object.__new__"), some (.bool true)]) ::
  (nat_lit 240, .mk (.type "code") none (.fields #[.str "call_begin" 570, .str "call_begin" 571, .str "/claim/cut.py" 572, .int 158 0, .int 2 0, .int 0 0, .int 0 0, .int 3 0, .ref 235, .bool true, .int 181 0, .ref 236, .none, .ref 237, .ref 238, .ref 239, .int 576 0, .int 158 0, .str "/claim/cut.py" 577]) #[]) ::
  (nat_lit 241, .mk (.type "function") none (.func (.mk "call_begin" "call_begin" (defArgs (top 40)) (.stmts (defBody (top 40))) (defScope (top 40)) 3 [] .none .none .none (.str "laidstrands.strand" 410) none (.ref 240) .none 0)) #[]) ::
  (nat_lit 247, .mk (.type "code") none (.fields #[.str "call_bobbin" 579, .str "call_bobbin" 580, .str "/claim/cut.py" 581, .int 165 0, .int 2 0, .int 0 0, .int 0 0, .int 3 0, .ref 242, .bool true, .int 181 0, .ref 243, .none, .ref 244, .ref 245, .ref 246, .int 586 0, .int 165 0, .str "/claim/cut.py" 587]) #[]) ::
  (nat_lit 248, .mk (.type "function") none (.func (.mk "call_bobbin" "call_bobbin" (defArgs (top 41)) (.stmts (defBody (top 41))) (defScope (top 41)) 3 [] .none .none .none (.str "laidstrands.strand" 410) none (.ref 247) .none 0)) #[]) ::
  (nat_lit 254, .mk (.type "code") none (.fields #[.str "call_joint" 589, .str "call_joint" 590, .str "/claim/cut.py" 591, .int 174 0, .int 2 0, .int 0 0, .int 0 0, .int 3 0, .ref 249, .bool true, .int 181 0, .ref 250, .none, .ref 251, .ref 252, .ref 253, .int 596 0, .int 174 0, .str "/claim/cut.py" 597]) #[]) ::
  (nat_lit 255, .mk (.type "function") none (.func (.mk "call_joint" "call_joint" (defArgs (top 42)) (.stmts (defBody (top 42))) (defScope (top 42)) 3 [] .none .none .none (.str "laidstrands.strand" 410) none (.ref 254) .none 0)) #[]) ::
  (nat_lit 261, .mk (.type "code") none (.fields #[.str "joins_out_of_bounds" 599, .str "joins_out_of_bounds" 600, .str "/claim/cut.py" 601, .int 185 0, .int 2 0, .int 0 0, .int 0 0, .int 3 0, .ref 256, .bool true, .int 181 0, .ref 257, .none, .ref 258, .ref 259, .ref 260, .int 604 0, .int 185 0, .str "/claim/cut.py" 605]) #[]) ::
  (nat_lit 262, .mk (.type "function") none (.func (.mk "joins_out_of_bounds" "joins_out_of_bounds" (defArgs (top 43)) (.stmts (defBody (top 43))) (defScope (top 43)) 3 [] .none .none .none (.str "laidstrands.strand" 410) none (.ref 261) .none 0)) #[]) ::
  (nat_lit 268, .mk (.type "code") none (.fields #[.str "call_join" 607, .str "call_join" 608, .str "/claim/cut.py" 609, .int 187 0, .int 2 0, .int 0 0, .int 0 0, .int 3 0, .ref 263, .bool true, .int 181 0, .ref 264, .none, .ref 265, .ref 266, .ref 267, .int 614 0, .int 187 0, .str "/claim/cut.py" 615]) #[]) ::
  (nat_lit 269, .mk (.type "function") none (.func (.mk "call_join" "call_join" (defArgs (top 44)) (.stmts (defBody (top 44))) (defScope (top 44)) 3 [] .none .none .none (.str "laidstrands.strand" 410) none (.ref 268) .none 0)) #[]) ::
  (nat_lit 275, .mk (.type "code") none (.fields #[.str "call_could" 617, .str "call_could" 618, .str "/claim/cut.py" 619, .int 196 0, .int 2 0, .int 0 0, .int 0 0, .int 3 0, .ref 270, .bool true, .int 181 0, .ref 271, .none, .ref 272, .ref 273, .ref 274, .int 625 0, .int 196 0, .str "/claim/cut.py" 626]) #[]) ::
  (nat_lit 276, .mk (.type "function") none (.func (.mk "call_could" "call_could" (defArgs (top 45)) (.stmts (defBody (top 45))) (defScope (top 45)) 3 [] .none .none .none (.str "laidstrands.strand" 410) none (.ref 275) .none 0)) #[]) ::
  (nat_lit 282, .mk (.type "code") none (.fields #[.str "call_cut" 628, .str "call_cut" 629, .str "/claim/cut.py" 630, .int 205 0, .int 2 0, .int 0 0, .int 0 0, .int 3 0, .ref 277, .bool true, .int 181 0, .ref 278, .none, .ref 279, .ref 280, .ref 281, .int 634 0, .int 205 0, .str "/claim/cut.py" 635]) #[]) ::
  (nat_lit 283, .mk (.type "function") none (.func (.mk "call_cut" "call_cut" (defArgs (top 46)) (.stmts (defBody (top 46))) (defScope (top 46)) 3 [] .none .none .none (.str "laidstrands.strand" 410) none (.ref 282) .none 0)) #[]) ::
  (nat_lit 289, .mk (.type "code") none (.fields #[.str "call_least" 637, .str "call_least" 638, .str "/claim/cut.py" 639, .int 211 0, .int 2 0, .int 0 0, .int 0 0, .int 3 0, .ref 284, .bool true, .int 181 0, .ref 285, .none, .ref 286, .ref 287, .ref 288, .int 643 0, .int 211 0, .str "/claim/cut.py" 644]) #[]) ::
  (nat_lit 290, .mk (.type "function") none (.func (.mk "call_least" "call_least" (defArgs (top 47)) (.stmts (defBody (top 47))) (defScope (top 47)) 3 [] .none .none .none (.str "laidstrands.strand" 410) none (.ref 289) .none 0)) #[]) ::
  (nat_lit 296, .mk (.type "code") none (.fields #[.str "call_cutleast" 646, .str "call_cutleast" 647, .str "/claim/cut.py" 648, .int 216 0, .int 2 0, .int 0 0, .int 0 0, .int 3 0, .ref 291, .bool true, .int 181 0, .ref 292, .none, .ref 293, .ref 294, .ref 295, .int 654 0, .int 216 0, .str "/claim/cut.py" 655]) #[]) ::
  (nat_lit 297, .mk (.type "function") none (.func (.mk "call_cutleast" "call_cutleast" (defArgs (top 48)) (.stmts (defBody (top 48))) (defScope (top 48)) 3 [] .none .none .none (.str "laidstrands.strand" 410) none (.ref 296) .none 0)) #[]) ::
  (nat_lit 303, .mk (.type "code") none (.fields #[.str "call_fine" 657, .str "call_fine" 658, .str "/claim/cut.py" 659, .int 223 0, .int 2 0, .int 0 0, .int 0 0, .int 3 0, .ref 298, .bool true, .int 181 0, .ref 299, .none, .ref 300, .ref 301, .ref 302, .int 662 0, .int 223 0, .str "/claim/cut.py" 663]) #[]) ::
  (nat_lit 304, .mk (.type "function") none (.func (.mk "call_fine" "call_fine" (defArgs (top 49)) (.stmts (defBody (top 49))) (defScope (top 49)) 3 [] .none .none .none (.str "laidstrands.strand" 410) none (.ref 303) .none 0)) #[]) ::
  (nat_lit 310, .mk (.type "code") none (.fields #[.str "call_bad" 665, .str "call_bad" 666, .str "/claim/cut.py" 667, .int 225 0, .int 2 0, .int 0 0, .int 0 0, .int 3 0, .ref 305, .bool true, .int 181 0, .ref 306, .none, .ref 307, .ref 308, .ref 309, .int 671 0, .int 225 0, .str "/claim/cut.py" 672]) #[]) ::
  (nat_lit 311, .mk (.type "function") none (.func (.mk "call_bad" "call_bad" (defArgs (top 50)) (.stmts (defBody (top 50))) (defScope (top 50)) 3 [] .none .none .none (.str "laidstrands.strand" 410) none (.ref 310) .none 0)) #[]) ::
  (nat_lit 317, .mk (.type "code") none (.fields #[.str "call_nearest" 674, .str "call_nearest" 675, .str "/claim/cut.py" 676, .int 228 0, .int 2 0, .int 0 0, .int 0 0, .int 3 0, .ref 312, .bool true, .int 181 0, .ref 313, .none, .ref 314, .ref 315, .ref 316, .int 681 0, .int 228 0, .str "/claim/cut.py" 682]) #[]) ::
  (nat_lit 318, .mk (.type "function") none (.func (.mk "call_nearest" "call_nearest" (defArgs (top 51)) (.stmts (defBody (top 51))) (defScope (top 51)) 3 [] .none .none .none (.str "laidstrands.strand" 410) none (.ref 317) .none 0)) #[]) ::
  (nat_lit 324, .mk (.type "code") none (.fields #[.str "refusal_of_run" 684, .str "refusal_of_run" 685, .str "/claim/cut.py" 686, .int 235 0, .int 2 0, .int 0 0, .int 0 0, .int 3 0, .ref 319, .bool true, .int 181 0, .ref 320, .none, .ref 321, .ref 322, .ref 323, .int 689 0, .int 235 0, .str "/claim/cut.py" 690]) #[]) ::
  (nat_lit 325, .mk (.type "function") none (.func (.mk "refusal_of_run" "refusal_of_run" (defArgs (top 52)) (.stmts (defBody (top 52))) (defScope (top 52)) 3 [] .none .none .none (.str "laidstrands.strand" 410) none (.ref 324) .none 0)) #[]) ::
  (nat_lit 331, .mk (.type "code") none (.fields #[.str "call_run" 692, .str "call_run" 693, .str "/claim/cut.py" 694, .int 243 0, .int 2 0, .int 0 0, .int 0 0, .int 3 0, .ref 326, .bool true, .int 181 0, .ref 327, .none, .ref 328, .ref 329, .ref 330, .int 698 0, .int 243 0, .str "/claim/cut.py" 699]) #[]) ::
  (nat_lit 332, .mk (.type "function") none (.func (.mk "call_run" "call_run" (defArgs (top 53)) (.stmts (defBody (top 53))) (defScope (top 53)) 3 [] .none .none .none (.str "laidstrands.strand" 410) none (.ref 331) .none 0)) #[]) ::
  (nat_lit 338, .mk (.type "code") none (.fields #[.str "call_may" 701, .str "call_may" 702, .str "/claim/cut.py" 703, .int 249 0, .int 2 0, .int 0 0, .int 0 0, .int 3 0, .ref 333, .bool true, .int 181 0, .ref 334, .none, .ref 335, .ref 336, .ref 337, .int 707 0, .int 249 0, .str "/claim/cut.py" 708]) #[]) ::
  (nat_lit 339, .mk (.type "function") none (.func (.mk "call_may" "call_may" (defArgs (top 54)) (.stmts (defBody (top 54))) (defScope (top 54)) 3 [] .none .none .none (.str "laidstrands.strand" 410) none (.ref 338) .none 0)) #[]) ::
  (nat_lit 345, .mk (.type "code") none (.fields #[.str "call_lasts" 710, .str "call_lasts" 711, .str "/claim/cut.py" 712, .int 254 0, .int 2 0, .int 0 0, .int 0 0, .int 3 0, .ref 340, .bool true, .int 181 0, .ref 341, .none, .ref 342, .ref 343, .ref 344, .int 715 0, .int 254 0, .str "/claim/cut.py" 716]) #[]) ::
  (nat_lit 346, .mk (.type "function") none (.func (.mk "call_lasts" "call_lasts" (defArgs (top 55)) (.stmts (defBody (top 55))) (defScope (top 55)) 3 [] .none .none .none (.str "laidstrands.strand" 410) none (.ref 345) .none 0)) #[]) ::
  (nat_lit 352, .mk (.type "code") none (.fields #[.str "call_places" 718, .str "call_places" 719, .str "/claim/cut.py" 720, .int 256 0, .int 2 0, .int 0 0, .int 0 0, .int 3 0, .ref 347, .bool true, .int 181 0, .ref 348, .none, .ref 349, .ref 350, .ref 351, .int 724 0, .int 256 0, .str "/claim/cut.py" 725]) #[]) ::
  (nat_lit 353, .mk (.type "function") none (.func (.mk "call_places" "call_places" (defArgs (top 56)) (.stmts (defBody (top 56))) (defScope (top 56)) 3 [] .none .none .none (.str "laidstrands.strand" 410) none (.ref 352) .none 0)) #[]) ::
  (nat_lit 357, .mk (.type "code") none (.fields #[.str "call_next" 727, .str "call_next" 728, .str "/claim/cut.py" 729, .int 259 0, .int 2 0, .int 0 0, .int 0 0, .int 3 0, .ref 354, .bool true, .int 181 0, .ref 355, .none, .none, .none, .ref 356, .int 730 0, .int 259 0, .str "/claim/cut.py" 731]) #[]) ::
  (nat_lit 358, .mk (.type "function") none (.func (.mk "call_next" "call_next" (defArgs (top 57)) (.stmts (defBody (top 57))) (defScope (top 57)) 3 [] .none .none .none (.str "laidstrands.strand" 410) none (.ref 357) .none 0)) #[]) ::
  (nat_lit 364, .mk (.type "code") none (.fields #[.str "call_gone" 733, .str "call_gone" 734, .str "/claim/cut.py" 735, .int 262 0, .int 2 0, .int 0 0, .int 0 0, .int 3 0, .ref 359, .bool true, .int 181 0, .ref 360, .none, .ref 361, .ref 362, .ref 363, .int 738 0, .int 262 0, .str "/claim/cut.py" 739]) #[]) ::
  (nat_lit 365, .mk (.type "function") none (.func (.mk "call_gone" "call_gone" (defArgs (top 58)) (.stmts (defBody (top 58))) (defScope (top 58)) 3 [] .none .none .none (.str "laidstrands.strand" 410) none (.ref 364) .none 0)) #[]) ::
  (nat_lit 371, .mk (.type "code") none (.fields #[.str "call_wire" 741, .str "call_wire" 742, .str "/claim/cut.py" 743, .int 264 0, .int 2 0, .int 0 0, .int 0 0, .int 3 0, .ref 366, .bool true, .int 181 0, .ref 367, .none, .ref 368, .ref 369, .ref 370, .int 746 0, .int 264 0, .str "/claim/cut.py" 747]) #[]) ::
  (nat_lit 372, .mk (.type "function") none (.func (.mk "call_wire" "call_wire" (defArgs (top 59)) (.stmts (defBody (top 59))) (defScope (top 59)) 3 [] .none .none .none (.str "laidstrands.strand" 410) none (.ref 371) .none 0)) #[]) ::
  (nat_lit 378, .mk (.type "code") none (.fields #[.str "call_look" 749, .str "call_look" 750, .str "/claim/cut.py" 751, .int 268 0, .int 2 0, .int 0 0, .int 0 0, .int 3 0, .ref 373, .bool true, .int 181 0, .ref 374, .none, .ref 375, .ref 376, .ref 377, .int 755 0, .int 268 0, .str "/claim/cut.py" 756]) #[]) ::
  (nat_lit 379, .mk (.type "function") none (.func (.mk "call_look" "call_look" (defArgs (top 60)) (.stmts (defBody (top 60))) (defScope (top 60)) 3 [] .none .none .none (.str "laidstrands.strand" 410) none (.ref 378) .none 0)) #[]) ::
  (nat_lit 385, .mk (.type "code") none (.fields #[.str "call_sums" 758, .str "call_sums" 759, .str "/claim/cut.py" 760, .int 271 0, .int 2 0, .int 0 0, .int 0 0, .int 3 0, .ref 380, .bool true, .int 181 0, .ref 381, .none, .ref 382, .ref 383, .ref 384, .int 763 0, .int 271 0, .str "/claim/cut.py" 764]) #[]) ::
  (nat_lit 386, .mk (.type "function") none (.func (.mk "call_sums" "call_sums" (defArgs (top 61)) (.stmts (defBody (top 61))) (defScope (top 61)) 3 [] .none .none .none (.str "laidstrands.strand" 410) none (.ref 385) .none 0)) #[]) ::
  (nat_lit 387, .mk (.type "tuple") none (.seq #[.ref 241, .ref 248, .ref 255, .ref 269, .ref 276, .ref 283, .ref 290, .ref 297, .ref 304, .ref 311, .ref 318, .ref 332, .ref 339, .ref 346, .ref 353, .ref 358, .ref 365, .ref 372, .ref 379, .ref 386]) #[]) ::
  (nat_lit 393, .mk (.type "code") none (.fields #[.str "answer_call" 767, .str "answer_call" 768, .str "/claim/cut.py" 769, .int 274 0, .int 3 0, .int 0 0, .int 0 0, .int 3 0, .ref 388, .bool true, .int 181 0, .ref 389, .none, .ref 390, .ref 391, .ref 392, .int 773 0, .int 274 0, .str "/claim/cut.py" 774]) #[]) ::
  (nat_lit 394, .mk (.type "function") none (.func (.mk "answer_call" "answer_call" (defArgs (top 63)) (.stmts (defBody (top 63))) (defScope (top 63)) 3 [] .none .none .none (.str "laidstrands.strand" 410) none (.ref 393) .none 0)) #[]) ::
  (nat_lit 400, .mk (.type "code") none (.fields #[.str "answers" 776, .str "answers" 777, .str "/claim/cut.py" 778, .int 280 0, .int 1 0, .int 0 0, .int 0 0, .int 3 0, .ref 395, .bool true, .int 181 0, .ref 396, .none, .ref 397, .ref 398, .ref 399, .int 785 0, .int 280 0, .str "/claim/cut.py" 786]) #[]) ::
  (nat_lit 401, .mk (.type "function") none (.func (.mk "answers" "answers" (defArgs (top 64)) (.stmts (defBody (top 64))) (defScope (top 64)) 3 [] .none .none .none (.str "laidstrands.strand" 410) none (.ref 400) .none 0)) #[]) :: []
def keptAt : List Addr := 2 :: 3 :: 27 :: 28 :: 34 :: 35 :: 39 :: 40 :: 44 :: 45 :: 51 :: 52 :: 58 :: 59 :: 65 :: 66 :: 72 :: 73 :: 77 :: 78 :: 80 :: 81 :: 91 :: 92 :: 96 :: 97 :: 103 :: 104 :: 110 :: 111 :: 117 :: 118 :: 124 :: 125 :: 131 :: 132 :: 136 :: 137 :: 141 :: 142 :: 148 :: 149 :: 155 :: 156 :: 162 :: 163 :: 167 :: 168 :: 169 :: 170 :: 183 :: 184 :: 190 :: 191 :: 195 :: 196 :: 202 :: 203 :: 207 :: 208 :: 214 :: 215 :: 219 :: 220 :: 226 :: 227 :: 229 :: 230 :: 240 :: 241 :: 247 :: 248 :: 254 :: 255 :: 261 :: 262 :: 268 :: 269 :: 275 :: 276 :: 282 :: 283 :: 289 :: 290 :: 296 :: 297 :: 303 :: 304 :: 310 :: 311 :: 317 :: 318 :: 324 :: 325 :: 331 :: 332 :: 338 :: 339 :: 345 :: 346 :: 352 :: 353 :: 357 :: 358 :: 364 :: 365 :: 371 :: 372 :: 378 :: 379 :: 385 :: 386 :: 387 :: 393 :: 394 :: 400 :: 401 :: []
theorem kept_at (P : Params) : keptAt = (kept P).map (·.1) := by kernel_rfl
/-- of the text the def alone that is asked; all other names are loose -/
noncomputable def view : Program := { PySem.Challenge.pw_laidstrands_s01_answers with main := { PySem.Challenge.pw_laidstrands_s01_answers.main with body := [top 64] } }
def loose : List Str := "METRE" :: "Bobbin" :: "apart" :: "steps" :: "apart_within" :: "fine_alone" :: "fine_beside_others" :: "bad_bobbins" :: "all_fine" :: "MOST_CUT" :: "options_of" :: "cuts_fine_alone" :: "agreeing_cuts" :: "agrees" :: "way_of_total" :: "least_way" :: "NO_SUCH_BOBBIN" :: "NOT_BEGUN" :: "TOO_LITTLE_LEFT" :: "THERE_ALREADY" :: "OUT_OF_BOUNDS" :: "FULL" :: "NO_WAY" :: "NOT_FINE" :: "TOO_FEW_JOINTS" :: "MOST_GAP" :: "LEAST_LAY" :: "MOST_LAY" :: "MOST_LEFT" :: "MOST_RUN" :: "MOST_BOBBINS" :: "MOST_JOINTS" :: "BEGIN" :: "ARGUMENTS" :: "OF_A_BOBBIN" :: "Strand" :: "call_begin" :: "call_bobbin" :: "call_joint" :: "joins_out_of_bounds" :: "call_join" :: "call_could" :: "call_cut" :: "call_least" :: "call_cutleast" :: "call_fine" :: "call_bad" :: "call_nearest" :: "refusal_of_run" :: "call_run" :: "call_may" :: "call_lasts" :: "call_places" :: "call_next" :: "call_gone" :: "call_wire" :: "call_look" :: "call_sums" :: "HANDLERS" :: "answer_call" :: []
abbrev prog : Program := PySem.Challenge.rw_laidstrands_s01_answers.prog
/-- the text's top, run: what it leaves behind of the view -/
theorem left_view : ∀ w, (openEnds treeTable prog w 5000).map (fun s => openSeen view loose (importedModules prog.main.body) (fun s => xlAt view [] s && recOk [] s) true s) = some (openGood view loose) := fun w => by kernel_rfl
/-- the same, of what is kept -/
theorem left_kept : ∀ w, (openEnds treeTable prog w 5000).map (kHook kept keptAt kept_at).obs = some ((kHook kept keptAt kept_at).val w) := fun w => by kernel_rfl
theorem two_maps {A B C : Type} {o : Option A} {f : A → B} {g : A → C} {b : B} {c : C} (h1 : o.map f = some b) (h2 : o.map g = some c) : o.map (fun s => (f s, g s)) = some (b, c) := by
  cases o with
  | none => cases h1
  | some x =>
    have e1 : f x = b := Option.some.inj h1
    have e2 : g x = c := Option.some.inj h2
    show some (f x, g x) = _
    rw [e1, e2]
theorem left_whole : LeftO prog view loose (fun s => xlAt view [] s && recOk [] s) (kHook kept keptAt kept_at).obs (kHook kept keptAt kept_at).val 5000 := fun w => two_maps (left_view w) (left_kept w)
end LS

set_option Elab.async false
set_option linter.all false
set_option maxRecDepth 100000
namespace L2
open PySem PySem.Spec PyProof.Rows

abbrev Key := Sum Int Str
def keyIs : Key → Value → Bool
  | .inl k, v => Value.isInt k v
  | .inr x, v => Value.isStrOf x v
def keyH (w : World) : Key → Int
  | .inl k => hashInt k
  | .inr x => hashStr w x
theorem keyIs_shape : ∀ {k : Key} {v : Value}, keyIs k v = true → (∃ i t, k = Sum.inl i ∧ v = Value.int i t) ∨ (∃ x t, k = Sum.inr x ∧ v = Value.str x t)
  | .inl i, v, h => by
    obtain ⟨t, e⟩ := Value.isInt_shape (k := i) (v := v) h
    exact .inl ⟨i, t, rfl, e⟩
  | .inr x, v, h => by
    obtain ⟨t, e⟩ := Value.isStrOf_shape (x := x) (v := v) h
    exact .inr ⟨x, t, rfl, e⟩
theorem keyIs_int (i : Int) (t : Tok) : keyIs (.inl i) (.int i t) = true := by simp [keyIs, Value.isInt]
theorem keyIs_str (x : Str) (t : Tok) : keyIs (.inr x) (.str x t) = true := by simp [keyIs, Value.isStrOf]
theorem key_ll (a b : Int) : decide ((Sum.inl a : Key) = Sum.inl b) = (a == b) := by
  by_cases e : a = b
  · subst e; simp
  · have h : ¬ (Sum.inl a : Key) = Sum.inl b := fun q => e (Sum.inl.inj q)
    rw [decide_eq_false h]
    exact (beq_eq_false_iff_ne.mpr e).symm
theorem key_rr (a b : Str) : decide ((Sum.inr a : Key) = Sum.inr b) = decide (a = b) := by
  by_cases e : a = b
  · subst e; simp
  · have h : ¬ (Sum.inr a : Key) = Sum.inr b := fun q => e (Sum.inr.inj q)
    rw [decide_eq_false h, decide_eq_false e]
theorem key_lr (a : Int) (b : Str) : decide ((Sum.inl a : Key) = Sum.inr b) = false := decide_eq_false (fun q => nomatch q)
theorem key_rl (a : Str) (b : Int) : decide ((Sum.inr a : Key) = Sum.inl b) = false := decide_eq_false (fun q => nomatch q)

def mixKind (prog : Program) (w : World) : PySem.KeyKind prog w Key where
  is := keyIs
  hash := keyH w
  inj := fun v a b ha hb => by
    rcases keyIs_shape ha with ⟨i, t, rfl, rfl⟩ | ⟨x, t, rfl, rfl⟩
    · rcases keyIs_shape hb with ⟨j, u, rfl, e⟩ | ⟨y, u, rfl, e⟩
      · injection e with e1 _; rw [e1]
      · exact nomatch e
    · rcases keyIs_shape hb with ⟨j, u, rfl, e⟩ | ⟨y, u, rfl, e⟩
      · exact nomatch e
      · injection e with e1 _; rw [e1]
  byValue := fun k v h => by
    rcases keyIs_shape h with ⟨i, t, rfl, rfl⟩ | ⟨x, t, rfl, rfl⟩ <;> rfl
  pyHash := fun hv h => by
    rcases keyIs_shape hv with ⟨i, t, rfl, rfl⟩ | ⟨x, t, rfl, rfl⟩
    · exact wpAny_pyHash_int h
    · exact wpAny_pyHash_str h
  eqBool := fun hu hv h => by
    rcases keyIs_shape hu with ⟨i, t, rfl, rfl⟩ | ⟨x, t, rfl, rfl⟩
    · rcases keyIs_shape hv with ⟨j, u, rfl, rfl⟩ | ⟨y, u, rfl, rfl⟩
      · rw [key_ll] at h; exact wpAny_eqBool_int h
      · rw [key_lr] at h; exact SeqAt.EqAt.int_str i t y u _ _ _ _ h
    · rcases keyIs_shape hv with ⟨j, u, rfl, rfl⟩ | ⟨y, u, rfl, rfl⟩
      · rw [key_rl] at h; exact SeqAt.EqAt.str_int x t j u _ _ _ _ h
      · rw [key_rr] at h; exact wpAny_eqBool_str h
  «strs» := fun k x t v h => by
    rcases keyIs_shape h with ⟨i, u, rfl, e⟩ | ⟨y, u, rfl, e⟩
    · exact nomatch e
    · injection e with e1 _
      subst e1
      cases v <;> rfl

theorem mixKind_int (prog : Program) (w : World) (i : Int) (t : Tok) : (mixKind prog w).is (.inl i) (.int i t) = true := keyIs_int i t
theorem mixKind_str (prog : Program) (w : World) (x : Str) (t : Tok) : (mixKind prog w).is (.inr x) (.str x t) = true := keyIs_str x t
end L2

namespace L2
open PySem PySem.Spec PyProof.Rows

inductive V where
  | non | bl (b : Bool) | int (i : Int) | str (x : Str) | byt (b : Array UInt8) | flt (b : UInt64) | ref (a : Addr) | ty (n : String)
  deriving DecidableEq

def RelV : V → Value → Prop
  | .non, u => u = Value.none
  | .bl b, u => u = Value.bool b
  | .int i, u => ∃ t, u = Value.int i t
  | .str x, u => ∃ t, u = Value.str x t
  | .byt b, u => ∃ t, u = Value.bytes b t
  | .flt b, u => ∃ t, u = Value.float b t
  | .ref a, u => u = Value.ref a
  | .ty n, u => u = Value.type n

abbrev Vals : List V → List Value → Prop := Paired RelV
theorem Vals.length {xs : List V} {us : List Value} (r : Vals xs us) : xs.length = us.length := Paired.length r
theorem Vals.get : ∀ {xs : List V} {us : List Value} {i : Nat} {x : V}, Vals xs us → xs[i]? = some x → ∃ u, us[i]? = some u ∧ RelV x u
  | _, _, _, _, .nil, e => by simp at e
  | _, _, 0, _, .cons r _, e => by simp at e; subst e; exact ⟨_, rfl, r⟩
  | _, _, i + 1, x, .cons _ t, e => by
    obtain ⟨u, h1, h2⟩ := Vals.get (i := i) (x := x) t (by simpa using e)
    exact ⟨u, by simpa using h1, h2⟩
theorem Vals.set {x : V} {u : Value} (r : RelV x u) : ∀ {xs : List V} {us : List Value} (i : Nat), Vals xs us → Vals (xs.set i x) (us.set i u)
  | _, _, _, .nil => .nil
  | _, _, 0, .cons _ t => .cons r t
  | _, _, i + 1, .cons q t => .cons q (Vals.set r i t)
theorem Vals.append : ∀ {xs ys : List V} {us ws : List Value}, Vals xs us → Vals ys ws → Vals (xs ++ ys) (us ++ ws)
  | _, _, _, _, .nil, s => s
  | _, _, _, _, .cons r t, s => .cons r (Vals.append t s)
theorem Vals.take : ∀ {xs : List V} {us : List Value} (n : Nat), Vals xs us → Vals (xs.take n) (us.take n)
  | _, _, 0, _ => .nil
  | _, _, _ + 1, .nil => .nil
  | _, _, n + 1, .cons r t => .cons r (Vals.take n t)
theorem Vals.drop : ∀ {xs : List V} {us : List Value} (n : Nat), Vals xs us → Vals (xs.drop n) (us.drop n)
  | _, _, 0, r => r
  | _, _, _ + 1, .nil => .nil
  | _, _, n + 1, .cons _ t => Vals.drop n t
theorem Vals.none_of : ∀ {xs : List V} {us : List Value} {i : Nat}, Vals xs us → xs[i]? = none → us[i]? = none := fun {xs us i} r e => by
  have h1 := r.length
  have h2 : xs.length ≤ i := List.getElem?_eq_none_iff.mp e
  exact List.getElem?_eq_none_iff.mpr (by omega)

def RelO : Option V → Option Value → Prop
  | some v, some u => RelV v u
  | none, none => True
  | _, _ => False
def KV {κ : Type} : List (κ × V) → List (κ × Value) → Prop := Paired fun (p : κ × V) (q : κ × Value) => p.1 = q.1 ∧ RelV p.2 q.2

def kV : Key → V
  | .inl i => .int i
  | .inr x => .str x

inductive HO where
  /-- a list -/
  | lst (xs : List V)
  /-- a tuple (never changes) -/
  | tup (xs : List V)
  /-- a dict whose keys are ints and texts; one whose keys are tuples of ints and texts (the empty one is both) -/
  | dK (kvs : List (Key × V)) | dT (kvs : List (List Key × V))
  /-- a set of ints: its members, its size -/
  | set (S : Int → Bool) (n : Nat)
  /-- an instance of the class at C, its dict at dx, its attributes -/
  | ins (C dx : Addr) (fs : List (Str × V))
  /-- the dict of the instance at x -/
  | own (x : Addr)
  /-- the dict of an exception -/
  | xd (fs : List (Str × V))
  /-- a bound method, f of x -/
  | met (f x : Addr)
  /-- a range object lo, lo + 1, .. below hi -/
  | rng (lo hi : Int)
  /-- a thing that is known to the object (the script; a dict while a loop walks it): read, never written while it is so -/
  | frz (o : Obj) (u : HO)
  /-- a code object's table -/
  | tbl (ps : Array Value)
  /-- any other thing, by what is true of its one object (a def of one's own: SetO a S n := HO.ext fun h => ..) -/
  | ext (φ : Heap → Prop)

abbrev Hp := Addr → Option HO
def upd (H : Hp) (a : Addr) (o : HO) : Hp := fun b => if b = a then some o else H b
theorem upd_same {H : Hp} {a : Addr} {o : HO} : upd H a o a = some o := by unfold upd; rw [if_pos rfl]
theorem upd_ne {H : Hp} {a b : Addr} {o : HO} (h : b ≠ a) : upd H a o b = H b := by unfold upd; rw [if_neg h]
theorem ne_of {H : Hp} {a b : Addr} {o u : HO} (h : H a = some o) (h' : H b = some u) (d : o ≠ u) : a ≠ b := by
  intro e; subst e; rw [h] at h'; exact d (Option.some.inj h')
theorem ne_of_none {H : Hp} {a b : Addr} {o : HO} (h : H a = some o) (h' : H b = none) : a ≠ b := by
  intro e; subst e; rw [h] at h'; cases h'

section
variable (P : Program) (w : World)
def ObjOk (H : Hp) (h : Heap) (a : Addr) : HO → Prop
  | .lst xs => xs.length ≤ sizeLine ∧ ∃ (its : List Value) (n : Nat), Vals xs its ∧ h.get? a = some { cls := .type "list", data := .seq its.toArray n }
  | .tup xs => xs.length ≤ sizeLine ∧ ∃ its : List Value, Vals xs its ∧ IsTup h a its.toArray
  | .dK kvs => kvs.length ≤ sizeLine ∧ (a == sysModules) = false ∧ ∃ vs, KV kvs vs ∧ h.DictOf (mixKind P w) a vs
  | .dT kvs => kvs.length ≤ sizeLine ∧ (a == sysModules) = false ∧ ∃ xs : List (List Key × Addr × Value),
      Paired (fun (p : List Key × V) (q : List Key × Addr × Value) => p.1 = q.1 ∧ H q.2.1 = some (.tup (p.1.map kV)) ∧ RelV p.2 q.2.2) kvs xs ∧
      ∃ o es ep, h.get? a = some o ∧ o.ExactDict ∧ o.data = .dict es ep ∧ es.toList = xs.map (entryOfKey (tupleKind (mixKind P w))) ∧ (xs.map (·.1)).Nodup
  | .set S n => h.SetOf (intKind P w) a S n
  | .ins C dx fs => H dx = some (.own a) ∧ fs.length ≤ 1000 ∧ dx ≠ a ∧ h.get? a = some (PySem.W.instObj C dx) ∧
      ∃ mA, h.Ns1 dx mA ∧ (∀ f, RelO (fs.lookup f) (mA f)) ∧ PySem.Within mA (fs.map (·.1))
  | .own _ => ∃ o, h.get? a = some o
  | .xd fs => ∃ mA, h.Ns1 a mA ∧ ∀ f, RelO (fs.lookup f) (mA f)
  | .rng lo hi => ∃ t u v, h.get? a = some { cls := .type "range", data := .fields #[.int lo t, .int hi u, .int 1 v] }
  | .frz o u => h.get? a = some o ∧ ObjOk H h a u
  | .tbl ps => h.get? a = some { cls := .none, data := .fields ps }
  | .met f x => h.get? a = some (PySem.W.methodObj (.ref f) (.ref x))
  | .ext φ => φ h ∧ (∃ o, h.get? a = some o) ∧ ∀ h1 h2 : Heap, φ h1 → (∀ o, h1.get? a = some o → h2.get? a = some o) → φ h2
def HOk (H : Hp) (h : Heap) : Prop := ∀ a o, H a = some o → ObjOk P w H h a o
end

section
variable {P : Program} {w : World} {H H' : Hp} {h h' : Heap} {a : Addr} {o : HO}
theorem ObjOk.lt (x : ObjOk P w H h a o) : a < h.objs.size := by
  cases o with
  | lst xs => obtain ⟨_, _, _, _, e⟩ := x; exact Heap.lt_size e
  | tup xs => obtain ⟨_, _, _, p⟩ := x; exact p.lt
  | dK kvs => obtain ⟨_, _, _, _, o, _, _, e, _⟩ := x; exact Heap.lt_size e
  | dT kvs => obtain ⟨_, _, _, _, o, _, _, e, _⟩ := x; exact Heap.lt_size e
  | set S n => obtain ⟨o, _, _, _, e, _⟩ := x; exact Heap.lt_size e
  | ins C dx fs => obtain ⟨_, _, _, e, _⟩ := x; exact Heap.lt_size e
  | own y => obtain ⟨_, e⟩ := x; exact Heap.lt_size e
  | xd fs => obtain ⟨_, ⟨_, _, _, e, _⟩, _⟩ := x; exact Heap.lt_size e
  | rng lo hi => obtain ⟨_, _, _, e⟩ := x; exact Heap.lt_size e
  | frz ob u => obtain ⟨e, _⟩ := x; exact Heap.lt_size e
  | tbl ps => exact Heap.lt_size (show h.get? a = some _ from x)
  | met f y => exact Heap.lt_size (show h.get? a = some _ from x)
  | ext φ => obtain ⟨_, ⟨_, e⟩, _⟩ := x; exact Heap.lt_size e
theorem Paired.mapP {α β : Type} {F G : α → β → Prop} : ∀ {l₁ : List α} {l₂ : List β}, Paired F l₁ l₂ → (∀ a b, F a b → G a b) → Paired G l₁ l₂
  | _, _, .nil, _ => .nil
  | _, _, .cons r t, f => .cons (f _ _ r) (Paired.mapP t f)
theorem ObjOk.stay (x : ObjOk P w H h a o) (k : ∀ b u, (b = a ∨ H b = some (.own a)) → h.get? b = some u → h'.get? b = some u)
    (ho : ∀ b, H b = some (.own a) → H' b = some (.own a)) (ht : ∀ b xs, H b = some (.tup xs) → H' b = some (.tup xs)) : ObjOk P w H' h' a o := by
  induction o with
  | lst xs => obtain ⟨z, its, n, r, e⟩ := x; exact ⟨z, its, n, r, k _ _ (.inl rfl) e⟩
  | tup xs => obtain ⟨z, its, r, ob, e, c⟩ := x; exact ⟨z, its, r, ob, k _ _ (.inl rfl) e, c⟩
  | dK kvs => obtain ⟨z, y, vs, r, ob, es, ep, e, c⟩ := x; exact ⟨z, y, vs, r, ob, es, ep, k _ _ (.inl rfl) e, c⟩
  | dT kvs =>
    obtain ⟨z, y, xs, r, ob, es, ep, e, c⟩ := x
    exact ⟨z, y, xs, Paired.mapP r fun p q z => ⟨z.1, ht _ _ z.2.1, z.2.2⟩, ob, es, ep, k _ _ (.inl rfl) e, c⟩
  | set S n => obtain ⟨ob, es, ep, t, e, c⟩ := x; exact ⟨ob, es, ep, t, k _ _ (.inl rfl) e, c⟩
  | ins C dx fs =>
    obtain ⟨d, z, ne, e, mA, ⟨od, es, ep, e2, c⟩, r⟩ := x
    exact ⟨ho _ d, z, ne, k _ _ (.inl rfl) e, mA, ⟨od, es, ep, k _ _ (.inr d) e2, c⟩, r⟩
  | own y => obtain ⟨ob, e⟩ := x; exact ⟨ob, k _ _ (.inl rfl) e⟩
  | xd fs => obtain ⟨mA, ⟨od, es, ep, e, c⟩, r⟩ := x; exact ⟨mA, ⟨od, es, ep, k _ _ (.inl rfl) e, c⟩, r⟩
  | rng lo hi => obtain ⟨t, u, v, e⟩ := x; exact ⟨t, u, v, k _ _ (.inl rfl) e⟩
  | frz ob u ih => obtain ⟨e, q⟩ := x; exact ⟨k _ _ (.inl rfl) e, ih q⟩
  | tbl ps =>
    have e : h.get? a = some { cls := .none, data := .fields ps } := x
    show h'.get? a = some { cls := .none, data := .fields ps }
    exact k a _ (.inl rfl) e
  | met f y =>
    have e : h.get? a = some (PySem.W.methodObj (.ref f) (.ref y)) := x
    show h'.get? a = some (PySem.W.methodObj (.ref f) (.ref y))
    exact k a _ (.inl rfl) e
  | ext φ => obtain ⟨p, ⟨o, e⟩, st⟩ := x; exact ⟨st _ _ p fun o q => k _ _ (.inl rfl) q, ⟨o, k _ _ (.inl rfl) e⟩, st⟩
theorem HOk.lt (x : HOk P w H h) (e : H a = some o) : a < h.objs.size := (x a o e).lt
theorem HOk.fresh (x : HOk P w H h) (e : h.objs.size ≤ a) : H a = none := by
  cases q : H a with
  | none => rfl
  | some u => exact absurd (Nat.lt_of_lt_of_le (x.lt q) e) (Nat.lt_irrefl _)
theorem HOk.kept (x : HOk P w H h) (k : ∀ b u, h.get? b = some u → h'.get? b = some u) : HOk P w H h' := fun a o e =>
  (x a o e).stay (fun b u _ q => k b u q) (fun _ q => q) fun _ _ q => q
theorem HOk.laid (x : HOk P w H h) (k : ∀ b u, h.get? b = some u → h'.get? b = some u) (hp : h.objs.size ≤ a) (new : ObjOk P w (upd H a o) h' a o) : HOk P w (upd H a o) h' := fun b u e => by
  have hn := x.fresh hp
  by_cases hb : b = a
  · subst hb; rw [upd_same] at e; cases e; exact new
  · rw [upd_ne hb] at e
    exact (x b u e).stay (fun c v _ q => k c v q) (fun c q => by rw [upd_ne (ne_of_none q hn)]; exact q) fun c xs q => by rw [upd_ne (ne_of_none q hn)]; exact q
end

def Rd (H : Hp) (a : Addr) (u : HO) : Prop := H a = some u ∨ ∃ o, H a = some (.frz o u)
theorem Rd.of {H : Hp} {a : Addr} {u : HO} (h : H a = some u) : Rd H a u := .inl h
theorem Rd.ok {P : Program} {w : World} {H : Hp} {h : Heap} {a : Addr} {u : HO} (r : Rd H a u) (x : HOk P w H h) : ObjOk P w H h a u := by
  rcases r with r | ⟨o, r⟩
  · exact x a u r
  · obtain ⟨_, q⟩ := x a _ r
    exact q
def Mut : Option HO → Prop
  | some (.lst _) => True
  | some (.dK _) => True
  | some (.dT _) => True
  | some (.set _ _) => True
  | some (.ins _ _ _) => True
  | some (.ext _) => True
  | _ => False
section
variable {P : Program} {w : World} {H : Hp} {h h' : Heap} {x e : Addr} {o' : HO}
theorem HOk.write (ok : HOk P w H h) (mu : Mut (H x)) (he : e = x ∨ H e = some (.own x)) (k : ∀ b u, b ≠ e → h.get? b = some u → h'.get? b = some u) (heo : ∃ u, h'.get? e = some u)
    (new : ObjOk P w (upd H x o') h' x o') : HOk P w (upd H x o') h' := fun b u q => by
  have nown : ∀ c y, H c = some (.own y) → c ≠ x := fun c y r z => by subst z; rw [r] at mu; exact mu
  have ntup : ∀ c xs, H c = some (.tup xs) → c ≠ x := fun c xs r z => by subst z; rw [r] at mu; exact mu
  by_cases hb : b = x
  · subst hb; rw [upd_same] at q; cases q; exact new
  · rw [upd_ne hb] at q
    by_cases hbe : b = e
    · have q' : H b = some (.own x) := by
        rcases he with z | z
        · exact absurd (hbe.trans z) hb
        · rw [hbe]; exact z
      rw [q] at q'; cases q'
      obtain ⟨v, hv⟩ := heo
      exact ⟨v, by rw [hbe]; exact hv⟩
    · refine (ok b u q).stay (fun c v hc r => k c v ?_ r) (fun c r => by rw [upd_ne (nown c b r)]; exact r) fun c xs r => by rw [upd_ne (ntup c xs r)]; exact r
      rcases hc with rfl | hc
      · exact hbe
      · rintro rfl
        rcases he with z | z
        · exact nown c b hc z
        · rw [hc] at z; cases z; exact hb rfl
end

structure Un (fs ex : List Addr) (H H' : Hp) (h h' : Heap) : Prop where
  keep : ∀ b o, h.get? b = some o → H b = none → b ∉ fs → b ∉ ex → h'.get? b = some o
  slot : ∀ b o, h.get? b = some o → H b = none → b ∈ fs → b ∉ ex → ∃ sl, h'.get? b = some { o with slots := sl }
  free : ∀ b o, h.get? b = some o → H b = none → b ∉ ex → H' b = none
  there : ∀ b o, h.get? b = some o → b ∉ ex → ∃ o', h'.get? b = some o'
  tups : ∀ b xs, H b = some (.tup xs) → H' b = some (.tup xs)
  frzs : ∀ b o u, H b = some (.frz o u) → H' b = some (.frz o u)
  tbls : ∀ b ps, H b = some (.tbl ps) → ∃ more, H' b = some (.tbl (ps ++ more))
section
variable {fs fs' ex ex' : List Addr} {H H1 H2 : Hp} {h h1 h2 h' : Heap} {a x e : Addr} {o : HO}
theorem Un.any (u : Un fs ex H H1 h h1) {b : Addr} {ob : Obj} (q : h.get? b = some ob) (n : H b = none) (hx : b ∉ ex) : ∃ sl, h1.get? b = some { ob with slots := sl } := by
  by_cases hb : b ∈ fs
  · exact u.slot b ob q n hb hx
  · exact ⟨ob.slots, u.keep b ob q n hb hx⟩
theorem Un.trans (a : Un fs ex H H1 h h1) (b : Un fs ex H1 H2 h1 h2) : Un fs ex H H2 h h2 where
  keep := fun c ob q n hc hx => b.keep c ob (a.keep c ob q n hc hx) (a.free c ob q n hx) hc hx
  slot := fun c ob q n hc hx => by
    obtain ⟨sl, e1⟩ := a.slot c ob q n hc hx
    obtain ⟨sl', e2⟩ := b.slot c _ e1 (a.free c ob q n hx) hc hx
    exact ⟨sl', e2⟩
  free := fun c ob q n hx => by
    obtain ⟨o', e1⟩ := a.there c ob q hx
    exact b.free c o' e1 (a.free c ob q n hx) hx
  there := fun c ob q hx => by
    obtain ⟨o', e1⟩ := a.there c ob q hx
    exact b.there c o' e1 hx
  tups := fun c xs q => b.tups c xs (a.tups c xs q)
  frzs := fun c ob xs q => b.frzs c ob xs (a.frzs c ob xs q)
  tbls := fun c ps q => by
    obtain ⟨m1, e1⟩ := a.tbls c ps q
    obtain ⟨m2, e2⟩ := b.tbls c _ e1
    exact ⟨m1 ++ m2, by rw [e2, Array.append_assoc]⟩
theorem Un.kept (k : ∀ b u, h.get? b = some u → h'.get? b = some u) : Un fs ex H H h h' :=
  ⟨fun b ob q _ _ _ => k b ob q, fun b ob q _ _ _ => ⟨ob.slots, k b ob q⟩, fun _ _ _ n _ => n, fun b ob q _ => ⟨ob, k b ob q⟩, fun _ _ q => q, fun _ _ _ q => q, fun _ ps q => ⟨#[], by rw [q]; simp⟩⟩
theorem Un.refl : Un fs ex H H h h := Un.kept fun _ _ q => q
theorem Un.laid (k : ∀ b u, h.get? b = some u → h'.get? b = some u) (hp : h.objs.size ≤ a) (hn : H a = none) : Un fs ex H (upd H a o) h h' where
  keep := fun b u q _ _ _ => k b u q
  slot := fun b u q _ _ _ => ⟨u.slots, k b u q⟩
  free := fun b u q n _ => by rw [upd_ne (Nat.ne_of_lt (Nat.lt_of_lt_of_le (Heap.lt_size q) hp))]; exact n
  there := fun b u q _ => ⟨u, k b u q⟩
  tups := fun b xs q => by rw [upd_ne (ne_of_none q hn)]; exact q
  frzs := fun b u xs q => by rw [upd_ne (ne_of_none q hn)]; exact q
  tbls := fun b ps q => ⟨#[], by rw [upd_ne (ne_of_none q hn), q]; simp⟩
theorem Un.write (mu : Mut (H x)) (he : e = x ∨ H e = some (.own x)) (k : ∀ b u, b ≠ e → h.get? b = some u → h'.get? b = some u) (heo : ∃ u, h'.get? e = some u) : Un fs ex H (upd H x o) h h' := by
  have hx : ∀ b, H b = none → b ≠ x := fun b n z => by subst z; rw [n] at mu; exact mu
  have hb : ∀ b, H b = none → b ≠ e := fun b n z => by
    subst z
    rcases he with r | r
    · exact hx b n r
    · rw [n] at r; cases r
  have hm : ∀ b u, H b = some u → ¬ Mut (some u) → b ≠ x := fun b u q nm z => by subst z; rw [q] at mu; exact nm mu
  refine ⟨fun b u q n _ _ => k b u (hb b n) q, fun b u q n _ _ => ⟨u.slots, k b u (hb b n) q⟩, fun b u q n _ => by rw [upd_ne (hx b n)]; exact n, fun b u q _ => ?_,
    fun b xs q => by rw [upd_ne (hm b _ q fun z => z)]; exact q, fun b u xs q => by rw [upd_ne (hm b _ q fun z => z)]; exact q, fun b ps q => ⟨#[], by rw [upd_ne (hm b _ q fun z => z), q]; simp⟩⟩
  by_cases hbe : b = e
  · subst hbe; exact heo
  · exact ⟨u, k b u hbe q⟩
theorem Un.mono (u : Un fs ex H H1 h h1) (hs : ∀ b ∈ fs, b ∈ fs') (hx : ∀ b ∈ ex, b ∈ ex') : Un fs' ex' H H1 h h1 :=
  ⟨fun b ob q n hb he => u.keep b ob q n (fun z => hb (hs b z)) fun z => he (hx b z), fun _ _ q n _ he => u.any q n fun z => he (hx _ z), fun b ob q n he => u.free b ob q n fun z => he (hx b z), fun b ob q he => u.there b ob q fun z => he (hx b z), u.tups, u.frzs, u.tbls⟩
end

def trk (h : Heap) (H : Hp) : List Addr := (List.range h.objs.size).filter fun a => (H a).isSome
def hidT (h : Heap) (H : Hp) : Heap := PySem.W.hideAll h (trk h H)
theorem hidT_size (h : Heap) (H : Hp) : (hidT h H).objs.size = h.objs.size := PySem.W.hideAll_size _ _
theorem hidT_get {h : Heap} {H : Hp} {b : Addr} {o : Obj} (e : h.get? b = some o) (n : H b = none) : (hidT h H).get? b = some o :=
  PySem.W.hideAll_get _ e fun hm => by
    have q : (H b).isSome = true := (List.mem_filter.mp hm).2
    rw [n] at q; simp at q
theorem of_hidT {h : Heap} {H : Hp} {b : Addr} {o : Obj} (e : (hidT h H).get? b = some o) : h.get? b = some o ∧ H b = none := by
  have e' : h.get? b = some o := PySem.W.of_hideAll (trk h H) e
  refine ⟨e', ?_⟩
  cases q : H b with
  | none => rfl
  | some x =>
    have hm : b ∈ trk h H := List.mem_filter.mpr ⟨List.mem_range.mpr (Heap.lt_size e'), by simp [q]⟩
    have z : (hidT h H).get? b = none := PySem.W.hideAll_none (trk h H) hm
    rw [z] at e; cases e

def allNews (g h : Heap) (L : Addr) : List (Addr × Obj) := (List.range h.objs.size).filterMap fun a => if a = L ∨ (g.get? a).isSome = true then none else (h.get? a).map fun o => (a, o)
def rest (g h : Heap) (L d : Addr) : List (Addr × Obj) := (allNews g h L).filter fun p => decide (p.1 ≠ d)
end L2

namespace L2
open PySem PySem.Spec PyProof.Rows

structure Mod (K : PySem.W.Frag) (mg : Str → Option Value) (base : Heap) : Prop where
  kin : K.In base
  glob : base.Ns mainGlobals mg
  blt : ∃ mb, base.Ns builtinsNs mb ∧ ∀ x : Str, x ≠ "__name__" → mb x = bootBuiltins x
  nolimit : base.NoLimit

structure Cx where
  prog : Program
  w : World
  K : PySem.W.Frag
  mg : Str → Option Value
  base : Heap
  A : Around
  N : List Str
  s_0 : Shared
  H_0 : Hp
  env : Env
  outer : List Env
  stack : List Env
  ex : List Addr
  fn : Str → Bool
  calm : Bool
  pn : List (Addr × Obj)
  xe : Value → Shared → Prop
def frs (l : List Env) : List Addr := l.filterMap (·.frame)
abbrev Cx.fs (X : Cx) : List Addr := frs X.outer

def Vis (sc : Scope) (x : Str) : Prop := sc.names.lookup x = some .local ∨ sc.names.lookup x = some .cell ∨ sc.names.lookup x = some .free
def Loc (sc : Scope) (x : Str) : Prop := sc.names.lookup x = some .local ∨ sc.names.lookup x = some .cell
def Look (env : Env) (h : Heap) (m : Str → Option Value) (x : Str) (u : Value) : Prop :=
  (env.kindOf x = some .local ∧ m x = some u) ∨ ((env.kindOf x = some .cell ∨ env.kindOf x = some .free) ∧ ∃ c, env.cells.lookup x = some c ∧ h.IsCell c (some u))

structure Cx.Ok (X : Cx) : Prop where
  mod : Mod X.K X.mg X.base
  kind : X.env.scope.kind = .function
  glob : X.env.globals = mainGlobals
  blt : X.env.builtins = builtinsNs
  above : X.s_0.heap.objs.size ≤ X.env.locals
  inj : ∀ x y c, X.env.cells.lookup x = some c → X.env.cells.lookup y = some c → x = y
  has : ∀ x, (X.env.kindOf x = some .cell ∨ X.env.kindOf x = some .free) → ∃ c, X.env.cells.lookup x = some c
  cab : ∀ x c, X.fn x = true → X.env.cells.lookup x = some c → X.s_0.heap.objs.size ≤ c
  hd : X.calm = true → X.A.handled = none
  frames : X.A.frames = some X.stack
  stk : X.stack = X.outer ∨ (X.stack = X.env :: X.outer ∧ X.env.frame = some X.env.locals)
  exf : ∀ b ∈ X.ex, b ≠ X.env.locals ∧ ∀ x c, X.env.cells.lookup x = some c → c ≠ b
  bs : ∀ b o, X.base.get? b = some o → X.s_0.heap.get? b = some o ∧ X.H_0 b = none
  bsz : X.base.objs.size ≤ X.s_0.heap.objs.size
  noex : ∀ b o, X.base.get? b = some o → b ∉ X.ex
  exfs : ∀ b ∈ X.ex, b ∉ X.fs
  funs : X.s_0.heap.FunFrames X.base X.outer
  frf : ∀ b ∈ X.fs, X.H_0 b = none

structure Inv (X : Cx) (pins : List (Addr × Obj)) (σ : List (Option V)) (H : Hp) (s : Shared) : Prop where
  ok : X.Ok
  os : s.os = X.s_0.os
  bare : AllBare s.gens
  base : Un X.fs X.ex X.H_0 H X.s_0.heap s.heap
  loc : ∃ m, s.heap.Ns X.env.locals m ∧ ∀ (i : Nat) (x : Str) (v : V), X.N[i]? = some x → σ[i]? = some (some v) → Vis X.env.scope x → ∃ u, RelV v u ∧ Look X.env s.heap m x u
  cell : ∀ x c, X.env.cells.lookup x = some c → ∃ v, s.heap.IsCell c v
  free : H X.env.locals = none
  freeC : ∀ x c, X.env.cells.lookup x = some c → H c = none
  pin : ∀ p ∈ X.pn ++ pins, s.heap.get? p.1 = some p.2 ∧ H p.1 = none ∧ p.1 ≠ X.env.locals ∧ p.1 ∉ X.fs ∧ ∀ v, p.2.data ≠ .cell v
  hok : HOk X.prog X.w H s.heap
  len : σ.length = X.N.length

section
variable {X : Cx} {pins : List (Addr × Obj)} {σ : List (Option V)} {H H' : Hp} {s : Shared} {h' : Heap}

theorem Cx.Ok.nofr (ok : X.Ok) {b : Addr} {o : Obj} (e : X.base.get? b = some o) : b ∉ X.fs := fun hb => by
  have := (ok.funs.mem hb).1
  rw [e] at this; cases this
theorem Inv.bs (I : Inv X pins σ H s) : ∀ b o, X.base.get? b = some o → s.heap.get? b = some o ∧ H b = none := fun b o e =>
  ⟨I.base.keep b o (I.ok.bs b o e).1 (I.ok.bs b o e).2 (I.ok.nofr e) (I.ok.noex b o e), I.base.free b o (I.ok.bs b o e).1 (I.ok.bs b o e).2 (I.ok.noex b o e)⟩
theorem Inv.bk (I : Inv X pins σ H s) : ∀ b o, X.base.get? b = some o → s.heap.get? b = some o := fun b o e => (I.bs b o e).1
theorem Inv.mod (I : Inv X pins σ H s) : Mod X.K X.mg X.base := I.ok.mod
theorem Inv.kIn (I : Inv X pins σ H s) : X.K.In s.heap := I.ok.mod.kin.keeps I.bk
theorem Inv.nolimit (I : Inv X pins σ H s) : s.heap.NoLimit := I.ok.mod.nolimit.keeps I.bk
theorem Inv.fr (I : Inv X pins σ H s) : ∃ m, Fr X.base X.env.locals s.heap m :=
  let ⟨m, hn, _⟩ := I.loc
  ⟨m, hn, I.bk, Nat.le_trans I.ok.bsz I.ok.above⟩
theorem Inv.lt (I : Inv X pins σ H s) : X.env.locals < s.heap.objs.size := let ⟨_, hn, _⟩ := I.loc; hn.lt
theorem Inv.sz (I : Inv X pins σ H s) : X.s_0.heap.objs.size ≤ s.heap.objs.size := Nat.le_trans I.ok.above (Nat.le_of_lt I.lt)
theorem Inv.nofs (I : Inv X pins σ H s) {a : Addr} (h : s.heap.objs.size ≤ a) : a ∉ X.fs := fun hb => by
  obtain ⟨_, o, ho, _⟩ := I.ok.funs.mem hb
  exact absurd (Nat.lt_of_lt_of_le (Heap.lt_size ho) (Nat.le_trans I.sz h)) (Nat.lt_irrefl _)
theorem Inv.cne (I : Inv X pins σ H s) : ∀ x c, X.env.cells.lookup x = some c → c ≠ X.env.locals := fun x c e z => by
  obtain ⟨v, o, ho, hd⟩ := I.cell x c e
  obtain ⟨m, ⟨o', es, ep, ho', hd', _⟩, _⟩ := I.loc
  rw [z, ho'] at ho; cases ho; rw [hd'] at hd; cases hd
theorem Inv.funs (I : Inv X pins σ H s) : s.heap.FunFrames X.base X.outer := by
  have all : ∀ (l : List Env), (∀ b ∈ frs l, b ∈ X.fs) → X.s_0.heap.FunFrames X.base l → s.heap.FunFrames X.base l := by
    intro l
    induction l with
    | nil => intro _ _; trivial
    | cons env r ih =>
      intro hs hl
      obtain ⟨hk, ⟨L, o, hf, hn, ho, hd⟩, hr⟩ := hl
      have hL : L ∈ X.fs := hs L (by unfold frs; rw [List.filterMap_cons, hf]; exact List.mem_cons_self)
      obtain ⟨sl, e⟩ := I.base.slot L o ho (I.ok.frf L hL) hL fun z => I.ok.exfs L z hL
      exact ⟨hk, ⟨L, _, hf, hn, e, hd⟩, ih (fun b hb => hs b (by unfold frs; rw [List.filterMap_cons, hf]; exact List.mem_cons_of_mem _ hb)) hr⟩
  exact all X.outer (fun _ hb => hb) I.ok.funs

theorem Inv.stack (I : Inv X pins σ H s) : s.heap.FunFrames X.base X.stack := by
  rcases I.ok.stk with e | ⟨e, hf⟩
  · rw [e]; exact I.funs
  · rw [e]
    obtain ⟨m, hn, _⟩ := I.loc
    refine .cons (by rw [I.ok.kind]; decide) hf hn ?_ I.funs
    exact Heap.get?_none_of_le (Nat.le_trans I.ok.bsz I.ok.above)
theorem Inv.stkSub (I : Inv X pins σ H s) : ∀ b ∈ frs X.stack, b ∈ X.env.locals :: X.fs := fun b hb => by
  rcases I.ok.stk with e | ⟨e, hf⟩
  · rw [e] at hb; exact List.mem_cons_of_mem _ hb
  · rw [e] at hb
    unfold frs at hb
    rw [List.filterMap_cons, hf] at hb
    exact hb
theorem Inv.stkFree (I : Inv X pins σ H s) : ∀ b ∈ frs X.stack, H b = none := fun b hb => by
  rcases List.mem_cons.mp (I.stkSub b hb) with e | hb
  · rw [e]; exact I.free
  · obtain ⟨_, o, ho, _⟩ := I.ok.funs.mem hb
    exact I.base.free b o ho (I.ok.frf b hb) fun z => I.ok.exfs b z hb

theorem Inv.step {g' : Array GenState} {t' : Nat} {d' : Drawn} {ch : List Addr} (I : Inv X pins σ H s)
    (hch : ∀ b ∈ ch, (b ∈ X.ex ∨ X.s_0.heap.objs.size ≤ b) ∧ b ≠ X.env.locals ∧ (∀ x c, X.env.cells.lookup x = some c → c ≠ b) ∧ ∀ p ∈ X.pn ++ pins, p.1 ≠ b)
    (keep : ∀ b o, b ≠ X.env.locals → b ∉ X.fs → b ∉ ch → s.heap.get? b = some o → H b = none → h'.get? b = some o)
    (slot : ∀ b o, b ≠ X.env.locals → b ∈ X.fs → b ∉ ch → s.heap.get? b = some o → H b = none → ∃ sl, h'.get? b = some { o with slots := sl }) (free : ∀ b o, b ∉ ch → s.heap.get? b = some o → H b = none → H' b = none)
    (there : ∀ b o, b ∉ ch → s.heap.get? b = some o → ∃ o', h'.get? b = some o')
    (tups : ∀ b xs, H b = some (.tup xs) → H' b = some (.tup xs)) (frzs : ∀ b o u, H b = some (.frz o u) → H' b = some (.frz o u)) (tbls : ∀ b ps, H b = some (.tbl ps) → ∃ more, H' b = some (.tbl (ps ++ more)))
    (ns : ∀ m, s.heap.Ns X.env.locals m → h'.Ns X.env.locals m) (hok : HOk X.prog X.w H' h') (hg : AllBare g') :
    Inv X pins σ H' { s with heap := h', gens := g', drawn := d', toks := t' } := by
  have neL : ∀ b o, X.s_0.heap.get? b = some o → b ≠ X.env.locals := fun b o e => Nat.ne_of_lt (Nat.lt_of_lt_of_le (Heap.lt_size e) I.ok.above)
  have neC : ∀ b o, X.s_0.heap.get? b = some o → b ∉ X.ex → b ∉ ch := fun b o e hx hb => by
    rcases (hch b hb).1 with z | z
    · exact hx z
    · exact absurd (Nat.lt_of_lt_of_le (Heap.lt_size e) z) (Nat.lt_irrefl _)
  have cellK : ∀ x c, X.env.cells.lookup x = some c → ∀ v, s.heap.IsCell c v → h'.IsCell c v := fun x c e v ⟨o, ho, hd⟩ => by
    have nch : c ∉ ch := fun z => (hch c z).2.2.1 x c e rfl
    by_cases hc : c ∈ X.fs
    · obtain ⟨sl, q⟩ := slot c o (I.cne x c e) hc nch ho (I.freeC x c e)
      exact ⟨_, q, hd⟩
    · exact ⟨o, keep c o (I.cne x c e) hc nch ho (I.freeC x c e), hd⟩
  refine ⟨I.ok, I.os, hg, ⟨fun b o e n hb hx => ?_, fun b o e n hb hx => ?_, fun b o e n hx => ?_, fun b o e hx => ?_, fun b xs e => tups b xs (I.base.tups b xs e), fun b o xs e => frzs b o xs (I.base.frzs b o xs e), fun b ps e => ?_⟩, ?_, fun x c e => ?_, ?_, fun x c e => ?_, fun p hp => ?_, hok, I.len⟩
  · exact keep b o (neL b o e) hb (neC b o e hx) (I.base.keep b o e n hb hx) (I.base.free b o e n hx)
  · obtain ⟨sl, e1⟩ := I.base.slot b o e n hb hx
    obtain ⟨sl', e2⟩ := slot b _ (neL b o e) hb (neC b o e hx) e1 (I.base.free b o e n hx)
    exact ⟨sl', e2⟩
  · obtain ⟨o', e1⟩ := I.base.there b o e hx
    exact free b o' (neC b o e hx) e1 (I.base.free b o e n hx)
  · obtain ⟨o', e1⟩ := I.base.there b o e hx
    exact there b o' (neC b o e hx) e1
  · obtain ⟨m1, e1⟩ := I.base.tbls b ps e
    obtain ⟨m2, e2⟩ := tbls b _ e1
    exact ⟨m1 ++ m2, by rw [e2, Array.append_assoc]⟩
  · obtain ⟨m, hn, hl⟩ := I.loc
    refine ⟨m, ns m hn, fun i x v e1 e2 e3 => ?_⟩
    obtain ⟨u, r, l⟩ := hl i x v e1 e2 e3
    refine ⟨u, r, ?_⟩
    rcases l with l | ⟨k, c, e, z⟩
    · exact .inl l
    · exact .inr ⟨k, c, e, cellK x c e _ z⟩
  · obtain ⟨v, z⟩ := I.cell x c e
    exact ⟨v, cellK x c e v z⟩
  · obtain ⟨m, ⟨o, _, _, ho, _⟩, _⟩ := I.loc
    exact free _ o (fun z => (hch _ z).2.1 rfl) ho I.free
  · obtain ⟨v, o, ho, hd⟩ := I.cell x c e
    exact free c o (fun z => (hch c z).2.2.1 x c e rfl) ho (I.freeC x c e)
  · obtain ⟨e, n, ne, nf, d⟩ := I.pin p hp
    have nch : p.1 ∉ ch := fun z => (hch p.1 z).2.2.2 p hp rfl
    exact ⟨keep p.1 p.2 ne nf nch e n, free p.1 p.2 nch e n, ne, nf, d⟩
theorem Inv.un {t' : Nat} (I : Inv X pins σ H s) (u : Un X.fs [] H H' s.heap h') (hok : HOk X.prog X.w H' h') : Inv X pins σ H' { s with heap := h', toks := t' } := by
  obtain ⟨m, ⟨o, es, ep, ho, r⟩, _⟩ := id I.loc
  obtain ⟨sl, hL⟩ := u.any ho I.free (by simp)
  exact I.step (g' := s.gens) (d' := s.drawn) (ch := []) (fun _ z => nomatch z) (fun b o _ hb _ e n => u.keep b o e n hb (by simp)) (fun b o _ hb _ e n => u.slot b o e n hb (by simp)) (fun b o _ e n => u.free b o e n (by simp)) (fun b o _ e => u.there b o e (by simp)) u.tups u.frzs u.tbls (fun m' hm => by
    obtain ⟨o', es', ep', ho', r'⟩ := hm
    rw [ho] at ho'; cases ho'
    exact ⟨_, es', ep', hL, r'⟩) hok I.bare
theorem Inv.call {g' : Array GenState} {t' : Nat} {d' : Drawn} {ch : List Addr} (I : Inv X pins σ H s) (u : Un (frs X.stack) ch H H' s.heap h') (hok : HOk X.prog X.w H' h') (hg : AllBare g')
    (hch : ∀ b ∈ ch, (b ∈ X.ex ∨ X.s_0.heap.objs.size ≤ b) ∧ b ≠ X.env.locals ∧ (∀ x c, X.env.cells.lookup x = some c → c ≠ b) ∧ ∀ p ∈ X.pn ++ pins, p.1 ≠ b) :
    Inv X pins σ H' { s with heap := h', gens := g', drawn := d', toks := t' } := by
  obtain ⟨m, ⟨o, es, ep, ho, r⟩, _⟩ := id I.loc
  obtain ⟨sl, hL⟩ := u.any ho I.free fun z => (hch _ z).2.1 rfl
  exact I.step (ch := ch) hch (fun b o hL hb hc e n => u.keep b o e n (fun z => (List.mem_cons.mp (I.stkSub b z)).elim hL hb) hc) (fun b o _ _ hc e n => u.any e n hc) (fun b o hc e n => u.free b o e n hc) (fun b o hc e => u.there b o e hc) u.tups u.frzs u.tbls (fun m' hm => by
    obtain ⟨o', es', ep', ho', r'⟩ := hm
    rw [ho] at ho'; cases ho'
    exact ⟨_, es', ep', hL, r'⟩) hok hg
theorem Inv.turned {t' : Nat} {it : Addr} (I : Inv X pins σ H s) (k : ∀ b o, b ≠ it → s.heap.get? b = some o → h'.get? b = some o) (hn : H it = none) (hL : it ≠ X.env.locals)
    (h1 : it ∈ X.ex ∨ X.s_0.heap.objs.size ≤ it) (h2 : ∀ x c, X.env.cells.lookup x = some c → c ≠ it) (h3 : ∀ p ∈ X.pn ++ pins, p.1 ≠ it) : Inv X pins σ H { s with heap := h', toks := t' } := by
  have nit : ∀ b u, H b = some u → b ≠ it := fun b u e z => by rw [z, hn] at e; cases e
  refine I.step (g' := s.gens) (d' := s.drawn) (ch := [it]) (fun b hb => ?_) (fun b o _ _ hc e _ => k b o (fun z => hc (by simp [z])) e) (fun b o _ _ hc e _ => ⟨o.slots, k b o (fun z => hc (by simp [z])) e⟩) (fun _ _ _ _ n => n)
    (fun b o hc e => ⟨o, k b o (fun z => hc (by simp [z])) e⟩) (fun _ _ e => e) (fun _ _ _ e => e) (fun b ps e => ⟨#[], by rw [e]; simp⟩) (fun m hm => ?_) (fun b u e => ?_) I.bare
  · have e : b = it := by simpa using hb
    subst e
    exact ⟨h1, hL, h2, h3⟩
  · obtain ⟨o, es, ep, ho, r⟩ := hm
    exact ⟨o, es, ep, k _ o (Ne.symm hL) ho, r⟩
  · refine (I.hok b u e).stay (fun c v hc q => k c v ?_ q) (fun _ q => q) fun _ _ q => q
    rcases hc with z | z
    · rw [z]; exact nit b u e
    · exact nit c _ z
theorem Inv.tok (I : Inv X pins σ H s) (t : Nat) : Inv X pins σ H { s with toks := t } := I.un (h' := s.heap) (t' := t) Un.refl I.hok
theorem Inv.kept {t' : Nat} (I : Inv X pins σ H s) (k : ∀ b u, s.heap.get? b = some u → h'.get? b = some u) : Inv X pins σ H { s with heap := h', toks := t' } := I.un (Un.kept k) (I.hok.kept k)
theorem Inv.laid {a : Addr} {o : HO} {t' : Nat} (I : Inv X pins σ H s) (k : ∀ b u, s.heap.get? b = some u → h'.get? b = some u) (hp : s.heap.objs.size ≤ a) (new : ObjOk X.prog X.w (upd H a o) h' a o) :
    Inv X pins σ (upd H a o) { s with heap := h', toks := t' } := I.un (Un.laid k hp (I.hok.fresh hp)) (I.hok.laid k hp new)
theorem Inv.write {x e : Addr} {o : HO} {t' : Nat} (I : Inv X pins σ H s) (mu : Mut (H x)) (he : e = x ∨ H e = some (.own x)) (k : ∀ b u, b ≠ e → s.heap.get? b = some u → h'.get? b = some u) (heo : ∃ u, h'.get? e = some u)
    (new : ObjOk X.prog X.w (upd H x o) h' x o) : Inv X pins σ (upd H x o) { s with heap := h', toks := t' } := I.un (Un.write mu he k heo) (I.hok.write mu he k heo new)
theorem Inv.weak {σ' : List (Option V)} (I : Inv X pins σ H s) (hl : σ'.length = σ.length) (w : ∀ (i : Nat) v, σ'[i]? = some (some v) → σ[i]? = some (some v)) : Inv X pins σ' H s :=
  ⟨I.ok, I.os, I.bare, I.base, let ⟨m, hn, hl'⟩ := I.loc; ⟨m, hn, fun i x v e1 e2 e3 => hl' i x v e1 (w i v e2) e3⟩, I.cell, I.free, I.freeC, I.pin, I.hok, hl.trans I.len⟩
theorem Inv.pins_of {pins' : List (Addr × Obj)} (I : Inv X pins σ H s) (h : ∀ p ∈ pins', s.heap.get? p.1 = some p.2 ∧ H p.1 = none ∧ p.1 ≠ X.env.locals ∧ p.1 ∉ X.fs ∧ ∀ v, p.2.data ≠ .cell v) : Inv X pins' σ H s :=
  ⟨I.ok, I.os, I.bare, I.base, I.loc, I.cell, I.free, I.freeC, fun p hp => (List.mem_append.mp hp).elim (fun z => I.pin p (List.mem_append_left _ z)) (h p), I.hok, I.len⟩

theorem nodup_ix {N : List Str} (hN : N.Nodup) {i j : Nat} {x : Str} (a : N[i]? = some x) (b : N[j]? = some x) : i = j := by
  obtain ⟨h1, e1⟩ := List.getElem?_eq_some_iff.mp a
  obtain ⟨h2, e2⟩ := List.getElem?_eq_some_iff.mp b
  exact (List.getElem_inj hN).mp (e1.trans e2.symm)

theorem store_ok2 {M : Model} {A : Around} {E : Value → Shared → Prop} {i : Nat} {x : Str} {v : V} {u : Value} {Q : Unit → Shared → Prop} (I : Inv X pins σ H s) (hN : X.N.Nodup) (hi : X.N[i]? = some x) (hx : Loc X.env.scope x) (r : RelV v u)
    (h : ∀ s', Inv X pins (σ.set i (some v)) H s' → (∃ a, Heap.SameBut a s.heap s'.heap ∧ (a = X.env.locals ∨ X.env.cells.lookup x = some a)) → Q () s') (hf : X.fn x = true ∨ X.env.scope.names.lookup x = some .local := by first | exact .inl rfl | exact .inr rfl | assumption) : wpAny M A (storeName X.env x u) Q E s := by
  obtain ⟨m, hn, hl⟩ := id I.loc
  have hcls : (X.env.scope.kind == .class || (X.env.scope.kind == .module && X.env.locals != X.env.globals)) = false := by rw [I.ok.kind]; rfl
  have hiσ : i < σ.length := by rw [I.len]; exact (List.getElem?_eq_some_iff.mp hi).1
  have cne := I.cne
  have tracked : ∀ {a : Addr} {h' : Heap}, (∃ o, s.heap.get? a = some o ∧ H a = none) → Heap.SameBut a s.heap h' → HOk X.prog X.w H h' := fun {a h'} ha hs b ob e => by
    obtain ⟨_, _, hfree⟩ := ha
    refine (I.hok b ob e).stay (fun c w' hc q => (hs.2 c ?_).trans q) (fun _ q => q) fun _ _ q => q
    rintro rfl
    rcases hc with rfl | hc
    · rw [hfree] at e; cases e
    · rw [hfree] at hc; cases hc
  rcases hx with hk | hk
  · refine wpAny_storeName_local hk hn (fun h' hn' hs => ?_) hcls
    obtain ⟨oL, _, _, hoL, _⟩ := id hn
    refine h _ ⟨I.ok, I.os, I.bare, ⟨fun b o e n hb hx => ?_, fun b o e n hb hx => ?_, I.base.free, fun b o e hx => ?_, I.base.tups, I.base.frzs, I.base.tbls⟩, ⟨_, hn', fun j y v' e1 e2 e3 => ?_⟩, fun y c e => ?_, I.free, I.freeC, fun p hp => ?_, tracked ⟨oL, hoL, I.free⟩ hs, by simpa using I.len⟩ ⟨_, hs, .inl rfl⟩
    · exact (hs.2 b (Nat.ne_of_lt (Nat.lt_of_lt_of_le (Heap.lt_size e) I.ok.above))).trans (I.base.keep b o e n hb hx)
    · obtain ⟨sl, e1⟩ := I.base.slot b o e n hb hx
      exact ⟨sl, (hs.2 b (Nat.ne_of_lt (Nat.lt_of_lt_of_le (Heap.lt_size e) I.ok.above))).trans e1⟩
    · obtain ⟨o', e1⟩ := I.base.there b o e hx
      exact ⟨o', (hs.2 b (Nat.ne_of_lt (Nat.lt_of_lt_of_le (Heap.lt_size e) I.ok.above))).trans e1⟩
    · by_cases hj : j = i
      · subst hj
        rw [hi] at e1; cases e1
        rw [List.getElem?_set_self hiσ] at e2
        cases e2
        exact ⟨u, r, .inl ⟨hk, by simp⟩⟩
      · rw [List.getElem?_set_ne (Ne.symm hj)] at e2
        obtain ⟨u', r', q⟩ := hl j y v' e1 e2 e3
        refine ⟨u', r', ?_⟩
        rcases q with ⟨k, e⟩ | ⟨k, c, e, z⟩
        · refine .inl ⟨k, ?_⟩
          have : y ≠ x := fun e => hj (nodup_ix hN e1 (e ▸ hi))
          simp [this, e]
        · exact .inr ⟨k, c, e, z.sameBut hs (cne y c e)⟩
    · obtain ⟨w', z⟩ := I.cell y c e
      exact ⟨w', z.sameBut hs (cne y c e)⟩
    · obtain ⟨e, n, ne, nf, d⟩ := I.pin p hp
      exact ⟨(hs.2 p.1 ne).trans e, n, ne, nf, d⟩
  · have hfn : X.fn x = true := by
      rcases hf with z | z
      · exact z
      · rw [z] at hk; cases hk
    obtain ⟨c, hc⟩ := I.ok.has x (.inl hk)
    obtain ⟨w', z⟩ := I.cell x c hc
    refine wpAny_storeName_cell I.ok.kind hk hc z (fun h' hc' hs => ?_)
    obtain ⟨oc, hoc, hocd⟩ := id z
    refine h { s with heap := h' } ⟨I.ok, I.os, I.bare, ⟨fun b o e n hb hx => ?_, fun b o e n hb hx => ?_, I.base.free, fun b o e hx => ?_, I.base.tups, I.base.frzs, I.base.tbls⟩, ⟨m, hn.sameBut hs (Ne.symm (cne x c hc)), fun j y v' e1 e2 e3 => ?_⟩, fun y c' e => ?_, I.free, I.freeC, fun p hp => ?_, tracked ⟨oc, hoc, I.freeC x c hc⟩ hs, by simpa using I.len⟩ ⟨c, hs, .inr hc⟩
    · exact (hs.2 b (Nat.ne_of_lt (Nat.lt_of_lt_of_le (Heap.lt_size e) (I.ok.cab x c hfn hc)))).trans (I.base.keep b o e n hb hx)
    · obtain ⟨sl, e1⟩ := I.base.slot b o e n hb hx
      exact ⟨sl, (hs.2 b (Nat.ne_of_lt (Nat.lt_of_lt_of_le (Heap.lt_size e) (I.ok.cab x c hfn hc)))).trans e1⟩
    · obtain ⟨o', e1⟩ := I.base.there b o e hx
      exact ⟨o', (hs.2 b (Nat.ne_of_lt (Nat.lt_of_lt_of_le (Heap.lt_size e) (I.ok.cab x c hfn hc)))).trans e1⟩
    · by_cases hj : j = i
      · subst hj
        rw [hi] at e1; cases e1
        rw [List.getElem?_set_self hiσ] at e2
        cases e2
        exact ⟨u, r, .inr ⟨.inl hk, c, hc, hc'⟩⟩
      · rw [List.getElem?_set_ne (Ne.symm hj)] at e2
        obtain ⟨u', r', q⟩ := hl j y v' e1 e2 e3
        refine ⟨u', r', ?_⟩
        rcases q with q | ⟨k, c', e, z'⟩
        · exact .inl q
        · refine .inr ⟨k, c', e, z'.sameBut hs ?_⟩
          rintro rfl
          exact hj (nodup_ix hN e1 (I.ok.inj _ _ _ e hc ▸ hi))
    · by_cases hcc : c' = c
      · subst hcc; exact ⟨_, hc'⟩
      · obtain ⟨w2, z2⟩ := I.cell y c' e
        exact ⟨w2, z2.sameBut hs hcc⟩
    · obtain ⟨e, n, ne, nf, d⟩ := I.pin p hp
      refine ⟨(hs.2 p.1 ?_).trans e, n, ne, nf, d⟩
      intro q
      rw [q, hoc] at e
      have q' : oc = p.2 := Option.some.inj e
      exact d w' (by rw [← q']; exact hocd)
theorem store_ok {M : Model} {A : Around} {E : Value → Shared → Prop} {i : Nat} {x : Str} {v : V} {u : Value} {Q : Unit → Shared → Prop} (I : Inv X pins σ H s) (hN : X.N.Nodup) (hi : X.N[i]? = some x) (hx : Loc X.env.scope x) (r : RelV v u)
    (h : ∀ s', Inv X pins (σ.set i (some v)) H s' → Q () s') (hf : X.fn x = true ∨ X.env.scope.names.lookup x = some .local := by first | exact .inl rfl | exact .inr rfl | assumption) : wpAny M A (storeName X.env x u) Q E s :=
  store_ok2 I hN hi hx r (fun s' I' _ => h s' I') hf
theorem Inv.call' {s' : Shared} {ch : List Addr} (I : Inv X pins σ H s) (ho : s'.os = s.os) (u : Un (frs X.stack) ch H H' s.heap s'.heap) (hok : HOk X.prog X.w H' s'.heap) (hg : AllBare s'.gens)
    (hch : ∀ b ∈ ch, (b ∈ X.ex ∨ X.s_0.heap.objs.size ≤ b) ∧ b ≠ X.env.locals ∧ (∀ x c, X.env.cells.lookup x = some c → c ≠ b) ∧ ∀ p ∈ X.pn ++ pins, p.1 ≠ b) : Inv X pins σ H' s' := by
  obtain ⟨h', g', d', t', o'⟩ := s'
  have e : o' = s.os := ho
  subst e
  exact I.call (g' := g') (t' := t') (d' := d') u hok hg hch
end

abbrev XK := Value → Option Addr → Hp → Prop
abbrev St := List (Option V)
abbrev VK := V → Hp → Prop
abbrev TE := St → Hp → VK → Prop
abbrev TT := St → Hp → (Bool → Hp → Prop) → Prop
abbrev TA := St → Hp → (List V → Hp → Prop) → Prop
structure Ends where
  nx : St → Hp → Prop
  rt : VK
  bk : St → Hp → Prop := fun _ _ => False
  ct : St → Hp → Prop := fun _ _ => False
abbrev TS := Ends → St → Hp → Prop

def EP (X : Cx) (pins : List (Addr × Obj)) (σ : St) (Q : VK) (u : Value) (s' : Shared) : Prop := ∃ v H', Inv X pins σ H' s' ∧ RelV v u ∧ Q v H'
def TP (X : Cx) (pins : List (Addr × Obj)) (σ : St) (Q : Bool → Hp → Prop) (b : Bool) (s' : Shared) : Prop := ∃ H', Inv X pins σ H' s' ∧ Q b H'
def AP (X : Cx) (pins : List (Addr × Obj)) (σ : St) (Q : List V → Hp → Prop) (us : List Value) (s' : Shared) : Prop := ∃ vs H', Inv X pins σ H' s' ∧ Vals vs us ∧ Q vs H'
def SP (X : Cx) (pins : List (Addr × Obj)) (D : Ends) (f : Flow) (s' : Shared) : Prop :=
  match f with
  | .next => ∃ σ' H', Inv X pins σ' H' s' ∧ D.nx σ' H'
  | .brk => ∃ σ' H', Inv X pins σ' H' s' ∧ D.bk σ' H'
  | .cont => ∃ σ' H', Inv X pins σ' H' s' ∧ D.ct σ' H'
  | .ret u => ∃ v σ' H', Inv X pins σ' H' s' ∧ RelV v u ∧ D.rt v H'

def PE (X : Cx) (e : Expr) (t : TE) : Prop :=
  ∀ (pins : List (Addr × Obj)) (s : Shared) (σ : St) (H : Hp) (Q : VK), Inv X pins σ H s → t σ H Q → wpAny (model X.prog X.w) X.A (eval e X.env) (EP X pins σ Q) X.xe s
def PT (X : Cx) (e : Expr) (t : TT) : Prop :=
  ∀ (pins : List (Addr × Obj)) (s : Shared) (σ : St) (H : Hp) (Q : Bool → Hp → Prop), Inv X pins σ H s → t σ H Q → wpAny (model X.prog X.w) X.A (isTrue e X.env (eval e X.env)) (TP X pins σ Q) X.xe s
def PW (X : Cx) (e : Expr) (t : TT) : Prop :=
  ∀ (whole : Sem Value) (pins : List (Addr × Obj)) (s : Shared) (σ : St) (H : Hp) (Q : Bool → Hp → Prop), Inv X pins σ H s → t σ H Q → wpAny (model X.prog X.w) X.A (isTrue e X.env whole) (TP X pins σ Q) X.xe s
theorem PW.pt {X : Cx} {e : Expr} {t : TT} (h : PW X e t) : PT X e t := h _
def PA (X : Cx) (es : List Expr) (t : TA) : Prop :=
  ∀ (pos : Pos) (pins : List (Addr × Obj)) (s : Shared) (σ : St) (H : Hp) (Q : List V → Hp → Prop), Inv X pins σ H s → t σ H Q → wpAny (model X.prog X.w) X.A (spliced (backTo pos (starEach es X.env))) (AP X pins σ Q) X.xe s
def PS (X : Cx) (st : Stmt) (t : TS) : Prop :=
  ∀ (pins : List (Addr × Obj)) (s : Shared) (σ : St) (H : Hp) (D : Ends), Inv X pins σ H s → t D σ H → wpAny (model X.prog X.w) X.A (exec st X.env) (SP X pins D) X.xe s
def PSs (X : Cx) (st : List Stmt) (t : TS) : Prop :=
  ∀ (pins : List (Addr × Obj)) (s : Shared) (σ : St) (H : Hp) (D : Ends), Inv X pins σ H s → t D σ H → wpAny (model X.prog X.w) X.A (execs st X.env) (SP X pins D) X.xe s
theorem thn {α : Type} {t : Sem α} {Q Q' : α → Shared → Prop} {M : Model} {A : Around} {E : Value → Shared → Prop} {s : Shared} (h : wpAny M A t Q E s) (hQ : ∀ a s, Q a s → Q' a s) : wpAny M A t Q' E s := wpAny_mono h hQ fun _ _ x => x
end L2

namespace L2
open PySem PySem.Spec PyProof.Rows
section
variable {X : Cx}


def tVar (i : Nat) : TE := fun σ H Q => ∃ v, σ[i]? = some (some v) ∧ Q v H
def tC (v : V) : TE := fun _ H Q => Q v H
theorem pe_var {i : Nat} {x : Str} {pos : Pos} (hN : X.N[i]? = some x) (hv : Vis X.env.scope x) (hd : (x == ("__debug__" : Str)) = false := by decide) (hcd : (x == ("__classdict__" : Str)) = false := by decide) : PE X (.Name x pos) (tVar i) := by
  intro pins s σ H Q I h
  obtain ⟨v, e, h⟩ := h
  obtain ⟨m, hn, hl⟩ := I.loc
  obtain ⟨u, r, l⟩ := hl i x v hN e hv
  have fin : EP X pins σ Q u s := ⟨v, H, I, r, h⟩
  rcases l with ⟨hk, hm⟩ | ⟨hk, c, hc, hcell⟩
  · exact wpAny_Name (wpAny_loadName_local I.ok.kind hk hn hm fin) hd
  · rcases hk with hk | hk
    · exact wpAny_Name (wpAny_loadName_cell I.ok.kind hk hc hcell fin) hd
    · exact wpAny_Name (wpAny_loadName_free I.ok.kind hk hc hcell fin hcd) hd
theorem pe_int {i j pos} : PE X (.Constant (.int i) j pos) (tC (.int i)) := fun _ _ _ H _ I h => wpAny_Constant_int ⟨.int i, H, I.tok _, ⟨_, rfl⟩, h⟩
theorem pe_bl {b j pos} : PE X (.Constant (.bool b) j pos) (tC (.bl b)) := fun _ _ _ H _ I h => Constant_bool ⟨.bl b, H, I, rfl, h⟩
theorem pe_non {j pos} : PE X (.Constant .none j pos) (tC .non) := fun _ _ _ H _ I h => Constant_none ⟨.non, H, I, rfl, h⟩

def Gl (X : Cx) (x : Str) : Prop := X.env.kindOf x = some .globalImplicit
theorem ld_glob {E : Value → Shared → Prop} {pins : List (Addr × Obj)} {s : Shared} {σ : St} {H : Hp} {x : Str} {u : Value} {pos : Pos} {Q : Value → Shared → Prop} (I : Inv X pins σ H s) (hg : Gl X x) (hm : X.mg x = some u) (h : Q u s)
    (hd : (x == ("__debug__" : Str)) = false := by decide) : wpAny (model X.prog X.w) X.A (eval (.Name x pos) X.env) Q E s :=
  Calls.Name_function_global I.ok.kind hg (Calls.loadGlobal_global (by rw [I.ok.glob]; exact I.mod.glob.keeps I.bk) hm h) hd
theorem ld_blt {E : Value → Shared → Prop} {pins : List (Addr × Obj)} {s : Shared} {σ : St} {H : Hp} {x : Str} {u : Value} {pos : Pos} {Q : Value → Shared → Prop} (I : Inv X pins σ H s) (hg : Gl X x) (hm : X.mg x = none) (hv : bootBuiltins x = some u) (h : Q u s)
    (hn : x ≠ "__name__" := by decide) (hd : (x == ("__debug__" : Str)) = false := by decide) : wpAny (model X.prog X.w) X.A (eval (.Name x pos) X.env) Q E s := by
  obtain ⟨mb, h1, h2⟩ := I.mod.blt
  exact Calls.Name_function_global I.ok.kind hg (Calls.loadGlobal_builtin (by rw [I.ok.glob]; exact I.mod.glob.keeps I.bk) hm (by rw [I.ok.blt]; exact h1.keeps I.bk) ((h2 x hn).trans hv) h) hd
theorem pe_glob {x : Str} {v : V} {u : Value} {pos : Pos} (hg : Gl X x) (hm : X.mg x = some u) (r : RelV v u) (hd : (x == ("__debug__" : Str)) = false := by decide) : PE X (.Name x pos) (tC v) :=
  fun _ _ _ H _ I h => ld_glob I hg hm ⟨v, H, I, r, h⟩ hd

variable {a b : Expr} {ta tb : TE} {pos : Pos}

def PC (X : Cx) (op : CmpOp) (a b : Expr) (t : TE) : Prop :=
  ∀ (pins : List (Addr × Obj)) (s : Shared) (σ : St) (H : Hp) (Q : VK), Inv X pins σ H s → t σ H Q →
    wpAny (model X.prog X.w) X.A (eval a X.env) (fun v s₁ => wpAny (model X.prog X.w) X.A (eval b X.env) (fun u s₂ => wpAny (model X.prog X.w) X.A (compareOp op v u) (EP X pins σ Q) X.xe s₂) X.xe s₁) X.xe s
theorem nobehind (b : Expr) {op : CmpOp} (h : op ≠ .In) (h2 : op ≠ .NotIn) : behindInMarks op b = false := by
  have e1 : (op == CmpOp.In) = false := by cases op <;> first | rfl | exact absurd rfl h
  have e2 : (op == CmpOp.NotIn) = false := by cases op <;> first | rfl | exact absurd rfl h2
  cases b <;> simp [behindInMarks, e1, e2]
def tB (t : TE) : TT := fun σ H Q => t σ H fun x H1 => ∃ c, x = .bl c ∧ Q c H1
theorem pt_cmp {op : CmpOp} {t : TE} (h : PC X op a b t) (h1 : behindInMarks op b = false := by first | exact nobehind _ (by decide) (by decide) | rfl) : PT X (.Compare a [op] [b] pos) (tB t) := by
  intro pins s σ H Q I hw
  refine wpAny_isTrue_Compare1 (thn (h pins s σ H _ I hw) fun v s1 h1 => thn h1 fun u s2 h2 => thn h2 fun c s3 ⟨x, H1, I1, r1, q1⟩ => ?_) h1
  obtain ⟨d, rfl, q⟩ := q1
  cases r1
  exact wpAny_truthy_bool ⟨H1, I1, q⟩
theorem pt_val {e : Expr} {t : TE} (h : PE X e t) (he : ∀ whole, isTrue e X.env whole = (do let v ← whole; standAt e.pos; holding [v] (truthy v)) := by intro _; rfl) : PT X e (tB t) := by
  intro pins s σ H Q I hw
  refine isTrue_plain (thn (h pins s σ H _ I hw) fun v s1 ⟨x, H1, I1, r1, q1⟩ => ?_) (he _)
  obtain ⟨d, rfl, q⟩ := q1
  cases r1
  exact wpAny_truthy_bool ⟨H1, I1, q⟩

variable {tA tB' : TT} {rest : List Expr}
def tAnd (t u : TT) : TT := fun σ H Q => t σ H fun c H1 => if c = true then u σ H1 Q else Q false H1
def tOr (t u : TT) : TT := fun σ H Q => t σ H fun c H1 => if c = true then Q true H1 else u σ H1 Q
def tNot (t : TT) : TT := fun σ H Q => t σ H fun c H1 => Q (!c) H1
theorem pw_and1 (ha : PT X a tA) : PW X (.BoolOp .And [a] pos) tA := by
  intro wh pins s σ H Q I h
  refine isTrue_and (thn (ha pins s σ H Q I h) fun c s1 e => ?_)
  cases c with
  | true => exact isTrue_and_nil e
  | false => exact e
theorem pw_or1 (ha : PT X a tA) : PW X (.BoolOp .Or [a] pos) tA := by
  intro wh pins s σ H Q I h
  refine isTrue_or (thn (ha pins s σ H Q I h) fun c s1 e => ?_)
  cases c with
  | false => exact isTrue_or_nil e
  | true => exact e
theorem pw_and (ha : PT X a tA) (hb : PW X (.BoolOp .And (b :: rest) pos) tB') : PW X (.BoolOp .And (a :: b :: rest) pos) (tAnd tA tB') := by
  intro wh pins s σ H Q I h
  refine isTrue_and (thn (ha pins s σ H _ I h) fun c s1 ⟨H1, I1, q1⟩ => ?_)
  cases c with
  | true => exact hb wh pins s1 σ H1 Q I1 q1
  | false => exact ⟨H1, I1, q1⟩
theorem pw_or (ha : PT X a tA) (hb : PW X (.BoolOp .Or (b :: rest) pos) tB') : PW X (.BoolOp .Or (a :: b :: rest) pos) (tOr tA tB') := by
  intro wh pins s σ H Q I h
  refine isTrue_or (thn (ha pins s σ H _ I h) fun c s1 ⟨H1, I1, q1⟩ => ?_)
  cases c with
  | true => exact ⟨H1, I1, q1⟩
  | false => exact hb wh pins s1 σ H1 Q I1 q1
theorem pt_not (ha : PT X a tA) : PT X (.UnaryOp .Not a pos) (tNot tA) := by
  intro pins s σ H Q I h
  exact isTrue_not (ha pins s σ H (fun c H1 => Q (!c) H1) I h)
def tAndV (ta tb : TE) : TE := fun σ H Q => ta σ H fun x H1 => ∃ c, x = .bl c ∧ if c = true then tb σ H1 Q else Q (.bl false) H1
def tOrV (ta tb : TE) : TE := fun σ H Q => ta σ H fun x H1 => ∃ c, x = .bl c ∧ if c = true then Q (.bl true) H1 else tb σ H1 Q
theorem pe_one {op} {t : TE} (h : PE X a t) : PE X (.BoolOp op [a] pos) t := fun pins s σ H Q I hw => BoolOp_one (h pins s σ H Q I hw)
theorem pe_and (ha : PE X a ta) (hb : PE X (.BoolOp .And (b :: rest) pos) tb) : PE X (.BoolOp .And (a :: b :: rest) pos) (tAndV ta tb) := by
  intro pins s σ H Q I h
  refine BoolOp_and (thn (ha pins s σ H _ I h) fun v s1 ⟨x, H1, I1, r1, q1⟩ => ?_)
  obtain ⟨c, rfl, q1⟩ := q1
  cases r1
  refine wpAny_truthy_bool ?_
  cases c with
  | true => exact hb pins s1 σ H1 Q I1 q1
  | false => exact ⟨.bl false, H1, I1, rfl, q1⟩
theorem pe_or (ha : PE X a ta) (hb : PE X (.BoolOp .Or (b :: rest) pos) tb) : PE X (.BoolOp .Or (a :: b :: rest) pos) (tOrV ta tb) := by
  intro pins s σ H Q I h
  refine BoolOp_or (thn (ha pins s σ H _ I h) fun v s1 ⟨x, H1, I1, r1, q1⟩ => ?_)
  obtain ⟨c, rfl, q1⟩ := q1
  cases r1
  refine wpAny_truthy_bool ?_
  cases c with
  | false => exact hb pins s1 σ H1 Q I1 q1
  | true => exact ⟨.bl true, H1, I1, rfl, q1⟩
def tIf (t : TT) (ta tb : TE) : TE := fun σ H Q => t σ H fun c H1 => if c = true then ta σ H1 Q else tb σ H1 Q
theorem pe_ifExp {c : Expr} (hc : PT X c tA) (ha : PE X a ta) (hb : PE X b tb) : PE X (.IfExp c a b pos) (tIf tA ta tb) := by
  intro pins s σ H Q I h
  refine wpAny_IfExp (thn (hc pins s σ H _ I h) fun d s1 ⟨H1, I1, q1⟩ => ?_)
  cases d with
  | true => exact ha pins s1 σ H1 Q I1 q1
  | false => exact hb pins s1 σ H1 Q I1 q1
end
end L2

namespace L2
open PySem PySem.Spec PyProof.Rows

def SqL (K : PySem.W.Frag) (H : Hp) (a : Addr) (xs : List V) : Prop :=
  Rd H a (.lst xs) ∨
    ∃ (o : Obj) (its : Array Value) (n : Nat), K.lookup a = some o ∧ o.cls = .type "list" ∧ o.dict = none ∧ o.data = .seq its n ∧ its.size ≤ sizeLine ∧ Vals xs its.toList
def SqT (K : PySem.W.Frag) (H : Hp) (a : Addr) (xs : List V) : Prop :=
  Rd H a (.tup xs) ∨
    ∃ (o : Obj) (its : Array Value) (n : Nat), K.lookup a = some o ∧ o.cls = .type "tuple" ∧ o.data = .seq its n ∧ its.size ≤ sizeLine ∧ Vals xs its.toList
def absV : Value → Option V
  | .none => some .non
  | .bool b => some (.bl b)
  | .int i _ => some (.int i)
  | .str x _ => some (.str x)
  | .bytes b _ => some (.byt b)
  | .float b _ => some (.flt b)
  | .ref a => some (.ref a)
  | .type n => some (.ty n)
  | _ => none
theorem RelV.abs {x : V} {u : Value} (r : RelV x u) : absV u = some x := by
  cases x with
  | non => cases r; rfl
  | bl _ => cases r; rfl
  | int _ => obtain ⟨t, rfl⟩ := r; rfl
  | str _ => obtain ⟨t, rfl⟩ := r; rfl
  | byt _ => obtain ⟨t, rfl⟩ := r; rfl
  | flt _ => obtain ⟨t, rfl⟩ := r; rfl
  | ref _ => cases r; rfl
  | ty _ => cases r; rfl
theorem RelV.inj {x y : V} {u : Value} (r : RelV x u) (q : RelV y u) : x = y := Option.some.inj (r.abs.symm.trans q.abs)
theorem Vals.inj : ∀ {xs ys : List V} {us : List Value}, Vals xs us → Vals ys us → xs = ys
  | _, _, _, .nil, .nil => rfl
  | _, _, _, .cons r t, .cons r' t' => by rw [r.inj r', Vals.inj t t']
section
variable {X : Cx} {pins : List (Addr × Obj)} {σ : St} {H : Hp} {s : Shared} {a : Addr} {xs ys : List V}
theorem SqL.of {K : PySem.W.Frag} (h : H a = some (.lst xs)) : SqL K H a xs := .inl (.inl h)
theorem SqT.of {K : PySem.W.Frag} (h : H a = some (.tup xs)) : SqT K H a xs := .inl (.inl h)
theorem Inv.list (I : Inv X pins σ H s) (h : SqL X.K H a xs) : ∃ its : List Value, Vals xs its ∧ PlainL s.heap a its.toArray ∧ xs.length ≤ sizeLine := by
  rcases h with h | ⟨o, its, n, hk, hc, hd, hs, hz, r⟩
  · obtain ⟨z, its, n, r, e⟩ := h.ok I.hok
    exact ⟨its, r, ⟨_, n, e, rfl, rfl, rfl⟩, z⟩
  · refine ⟨its.toList, r, ⟨o, n, I.kIn a o hk, hc, hd, by simpa using hs⟩, ?_⟩
    have e := r.length
    simp only [Array.length_toList] at e
    omega
theorem Inv.tuple (I : Inv X pins σ H s) (h : SqT X.K H a xs) : ∃ its : List Value, Vals xs its ∧ IsTup s.heap a its.toArray ∧ xs.length ≤ sizeLine := by
  rcases h with h | ⟨o, its, n, hk, hc, hs, hz, r⟩
  · obtain ⟨z, its, r, p⟩ := h.ok I.hok
    exact ⟨its, r, p, z⟩
  · refine ⟨its.toList, r, ⟨o, I.kIn a o hk, hc, n, by simpa using hs⟩, ?_⟩
    have e := r.length
    simp only [Array.length_toList] at e
    omega
theorem Inv.list_inj (I : Inv X pins σ H s) (h : SqL X.K H a xs) (h' : SqL X.K H a ys) : xs = ys := by
  obtain ⟨its, r, ⟨o, n, e, _, _, d⟩, _⟩ := I.list h
  obtain ⟨its', r', ⟨o', n', e', _, _, d'⟩, _⟩ := I.list h'
  rw [e] at e'; cases e'
  rw [d] at d'
  injection d' with d1 _
  have : its = its' := by simpa using congrArg Array.toList d1
  subst this
  exact r.inj r'
end

abbrev Cx.wish (X : Cx) (E : Value → Shared → Prop) : Cx := { X with xe := E }
abbrev Cx.nox (X : Cx) : Cx := X.wish fun _ _ => False
theorem Cx.Ok.wish {X : Cx} (ok : X.Ok) (E : Value → Shared → Prop) : (X.wish E).Ok :=
  ⟨ok.mod, ok.kind, ok.glob, ok.blt, ok.above, ok.inj, ok.has, ok.cab, ok.hd, ok.frames, ok.stk, ok.exf, ok.bs, ok.bsz, ok.noex, ok.exfs, ok.funs, ok.frf⟩
theorem Cx.Ok.unwish {X : Cx} {E : Value → Shared → Prop} (ok : (X.wish E).Ok) : X.Ok :=
  ⟨ok.mod, ok.kind, ok.glob, ok.blt, ok.above, ok.inj, ok.has, ok.cab, ok.hd, ok.frames, ok.stk, ok.exf, ok.bs, ok.bsz, ok.noex, ok.exfs, ok.funs, ok.frf⟩
section
variable {X : Cx} {pins : List (Addr × Obj)} {σ : St} {H : Hp} {s : Shared} {E : Value → Shared → Prop}
theorem Inv.wish (I : Inv X pins σ H s) (E : Value → Shared → Prop) : Inv (X.wish E) pins σ H s := ⟨I.ok.wish E, I.os, I.bare, I.base, I.loc, I.cell, I.free, I.freeC, I.pin, I.hok, I.len⟩
theorem Inv.unwish (I : Inv (X.wish E) pins σ H s) : Inv X pins σ H s := ⟨I.ok.unwish, I.os, I.bare, I.base, I.loc, I.cell, I.free, I.freeC, I.pin, I.hok, I.len⟩
theorem SP.unwish {D : Ends} {f : Flow} {s' : Shared} (h : SP (X.wish E) pins D f s') : SP X pins D f s' := by
  cases f with
  | next => obtain ⟨σ', H', I, q⟩ := h; exact ⟨σ', H', I.unwish, q⟩
  | brk => obtain ⟨σ', H', I, q⟩ := h; exact ⟨σ', H', I.unwish, q⟩
  | cont => obtain ⟨σ', H', I, q⟩ := h; exact ⟨σ', H', I.unwish, q⟩
  | ret u => obtain ⟨v, σ', H', I, r, q⟩ := h; exact ⟨v, σ', H', I.unwish, r, q⟩
theorem PE.nox {e : Expr} {t : TE} (h : PE X.nox e t) : PE X e t := fun pins s σ H Q I hw =>
  wpAny_mono (h pins s σ H Q (I.wish _) hw) (fun _ _ ⟨v, H', I', r, q⟩ => ⟨v, H', I'.unwish, r, q⟩) fun _ _ z => False.elim z
theorem PT.nox {e : Expr} {t : TT} (h : PT X.nox e t) : PT X e t := fun pins s σ H Q I hw =>
  wpAny_mono (h pins s σ H Q (I.wish _) hw) (fun _ _ ⟨H', I', q⟩ => ⟨H', I'.unwish, q⟩) fun _ _ z => False.elim z
theorem PSs.nox {st : List Stmt} {t : TS} (h : PSs X.nox st t) : PSs X st t := fun pins s σ H D I hw =>
  wpAny_mono (h pins s σ H D (I.wish _) hw) (fun _ _ q => q.unwish) fun _ _ z => False.elim z
end

section
variable {X : Cx} {st : Stmt} {rest : List Stmt} {t u : TS} {e : Expr} {te : TE} {pos : Pos}
def tNext : TS := fun D σ H => D.nx σ H
def tSeq (t u : TS) : TS := fun D σ H => t { D with nx := u D } σ H
theorem pss_nil : PSs X [] tNext := fun _ _ σ H _ I h => wpAny_execs_nil ⟨σ, H, I, h⟩
theorem pss_cons (h1 : PS X st t) (h2 : PSs X rest u) : PSs X (st :: rest) (tSeq t u) := by
  intro pins s σ H D I h
  refine wpAny_execs_cons (thn (h1 pins s σ H { D with nx := u D } I h) fun f s1 q => ?_)
  cases f with
  | next =>
    obtain ⟨σ', H', I', q⟩ := q
    exact h2 pins s1 σ' H' D I' q
  | ret v => exact q
  | brk => exact q
  | cont => exact q
theorem pss_one (h1 : PS X st t) : PSs X [st] t := by
  intro pins s σ H D I h
  refine wpAny_execs_cons (thn (h1 pins s σ H D I h) fun f s1 q => ?_)
  cases f with
  | next => exact wpAny_execs_nil q
  | ret v => exact q
  | brk => exact q
  | cont => exact q
theorem Inv.quiet {pins : List (Addr × Obj)} {σ : St} {H : Hp} {s : Shared} (I : Inv X pins σ H s) : interactive X.env = false := by simp [interactive, I.ok.kind]
def tDrop (te : TE) : TS := fun D σ H => te σ H fun _ H1 => D.nx σ H1
theorem ps_expr (he : PE X e te) (hs : swapsWith e none pos.line X.env = pure false := by rfl) : PS X (.Expr e pos) (tDrop te) := by
  intro pins s σ H D I h
  exact wpAny_Expr_any (thn (he pins s σ H _ I h) fun v s1 ⟨x, H1, I1, r1, q1⟩ => ⟨σ, H1, I1, q1⟩) I.quiet hs
def tRet (te : TE) : TS := fun D σ H => te σ H D.rt
theorem ps_ret (he : PE X e te) : PS X (.Return (some e) pos) (tRet te) := by
  intro pins s σ H D I h
  exact wpAny_Return_some (thn (he pins s σ H _ I h) fun v s1 ⟨x, H1, I1, r1, q1⟩ => ⟨x, σ, H1, I1, r1, q1⟩)
def tIfS (c : TT) (t u : TS) : TS := fun D σ H => c σ H fun b H1 => if b = true then t D σ H1 else u D σ H1
theorem ps_if {c : Expr} {a b : List Stmt} {tc : TT} (hc : PT X c tc) (ha : PSs X a t) (hb : PSs X b u) : PS X (.If c a b pos) (tIfS tc t u) := by
  intro pins s σ H D I h
  refine wpAny_If (thn (hc pins s σ H _ I h) fun d s1 ⟨H1, I1, q1⟩ => ?_)
  cases d with
  | true => exact ha pins s1 σ H1 D I1 q1
  | false => exact hb pins s1 σ H1 D I1 q1
end

abbrev TG := V → St → Hp → (St → Hp → Prop) → Prop
abbrev TGs := List V → St → Hp → (St → Hp → Prop) → Prop
def PG (X : Cx) (target : Expr) (t : TG) : Prop :=
  ∀ (pins : List (Addr × Obj)) (s : Shared) (σ : St) (H : Hp) (v : V) (u : Value) (Q : St → Hp → Prop), Inv X pins σ H s → RelV v u → t v σ H Q →
    wpAny (model X.prog X.w) X.A (assign target X.env u) (fun _ s' => ∃ σ' H', Inv X pins σ' H' s' ∧ Q σ' H') X.xe s
def PGs (X : Cx) (ts : List Expr) (t : TGs) : Prop :=
  ∀ (pins : List (Addr × Obj)) (s : Shared) (σ : St) (H : Hp) (vs : List V) (us : List Value) (Q : St → Hp → Prop), Inv X pins σ H s → Vals vs us → t vs σ H Q →
    wpAny (model X.prog X.w) X.A (assignInOrder ((assignEach ts X.env).map (·.2)) us) (fun _ s' => ∃ σ' H', Inv X pins σ' H' s' ∧ Q σ' H') X.xe s
abbrev TSet := V → V → V → Hp → (Hp → Prop) → Prop
def PSet (X : Cx) (t : TSet) : Prop :=
  ∀ (pins : List (Addr × Obj)) (s : Shared) (σ : St) (H : Hp) (o i v : V) (ov iv u : Value) (Q : Hp → Prop), Inv X pins σ H s → RelV o ov → RelV i iv → RelV v u → t o i v H Q →
    wpAny (model X.prog X.w) X.A (setItem ov iv u) (fun _ s' => ∃ H', Inv X pins σ H' s' ∧ Q H') X.xe s
section
variable {X : Cx} {pos : Pos}
def gName (i : Nat) : TG := fun v σ H Q => Q (σ.set i (some v)) H
theorem pg_name {i : Nat} {x : Str} (hN : X.N.Nodup) (hi : X.N[i]? = some x) (hx : Loc X.env.scope x) (hf : X.fn x = true ∨ X.env.scope.names.lookup x = some .local := by first | exact .inl rfl | exact .inr rfl | assumption) : PG X (.Name x pos) (gName i) := by
  intro pins s σ H v u Q I r h
  exact wpAny_assign_Name (store_ok I hN hi hx r (fun s' I' => ⟨_, H, I', h⟩) hf)
def gNil : TGs := fun vs σ H Q => vs = [] ∧ Q σ H
def gCons (t : TG) (u : TGs) : TGs := fun vs σ H Q => ∃ v r, vs = v :: r ∧ t v σ H fun σ' H' => u r σ' H' Q
theorem pgs_nil : PGs X [] gNil := by
  intro pins s σ H vs us Q I r h
  obtain ⟨e, h⟩ := h
  subst e
  cases r
  exact assignInOrder_nil ⟨σ, H, I, h⟩
theorem pgs_cons {e : Expr} {es : List Expr} {t : TG} {u : TGs} (h1 : PG X e t) (h2 : PGs X es u)
    (hs : (assignEach (e :: es) X.env).map (·.2) = assign e X.env :: (assignEach es X.env).map (·.2) := by rfl) : PGs X (e :: es) (gCons t u) := by
  intro pins s σ H vs us Q I r h
  obtain ⟨v, vr, e1, h⟩ := h
  subst e1
  cases r with
  | cons r rr =>
    rw [hs]
    refine assignInOrder_cons (thn (h1 pins s σ H _ _ _ I r h) fun _ s1 ⟨σ1, H1, I1, q1⟩ => ?_)
    exact h2 pins s1 σ1 H1 _ _ Q I1 rr q1
def gTup (K : PySem.W.Frag) (n : Nat) (t : TGs) : TG := fun v σ H Q => ∃ a xs, v = .ref a ∧ SqT K H a xs ∧ xs.length = n ∧ t xs σ H Q
theorem pg_tup {es : List Expr} {k : Nat} {t : TGs} {n : Nat} (hc : X.calm = true) (h : PGs X es t)
    (hn : (assignEach es X.env).length = n := by rfl) (hst : (assignEach es X.env).findIdx? (·.1) = none := by rfl) : PG X (.Tuple es k pos) (gTup X.K n t) := by
  intro pins s σ H v u Q I r hw
  obtain ⟨a, xs, e1, hq, hl, hw⟩ := hw
  subst e1
  cases r
  obtain ⟨its, rv, ht, hz⟩ := I.tuple hq
  refine assign_Tuple_tuple (I.ok.hd hc) ht (by simp [hn, ← hl, rv.length]) hst fun h' hx => ?_
  have I1 : Inv X pins σ H { s with heap := h' } := I.kept (t' := s.toks) fun b o e => hx b o (Nat.ne_of_lt (Heap.lt_size e)) e
  exact h pins _ σ H xs _ Q I1 (by simpa using rv) hw
def gSub (to ti : TE) (t : TSet) : TG := fun v σ H Q => to σ H fun o H1 => ti σ H1 fun i H2 => t o i v H2 fun H3 => Q σ H3
theorem pg_sub {o i : Expr} {to ti : TE} {t : TSet} (ho : PE X o to) (hi : PE X i ti) (hs : PSet X t)
    (ha : ∀ v, assign (.Subscript o i pos) X.env v = (do
      let ov ← holding [v] (eval o X.env)
      let iv ← holding [v, ov] (eval i X.env)
      standAt pos
      holding [v, ov, iv] (setItem ov iv v)
      release [v, ov, iv] []) := by intro _; rfl) : PG X (.Subscript o i pos) (gSub to ti t) := by
  intro pins s σ H v u Q I r h
  rw [ha]
  refine wpAny_bind (wpAny_holding (thn (ho pins s σ H _ I h) fun ov s1 ⟨x, H1, I1, r1, q1⟩ => ?_))
  refine wpAny_bind (wpAny_holding (thn (hi pins s1 σ H1 _ I1 q1) fun iv s2 ⟨y, H2, I2, r2, q2⟩ => ?_))
  refine wpAny_bind (wpAny_standAt (wpAny_bind (wpAny_holding (thn (hs pins s2 σ H2 x y v ov iv u _ I2 r1 r2 r q2) fun _ s3 ⟨H3, I3, q3⟩ => ?_))))
  exact wpAny_release ⟨σ, H3, I3, q3⟩
def tAsg (te : TE) (g : TG) : TS := fun D σ H => te σ H fun x H1 => g x σ H1 D.nx
theorem ps_asg {tg e : Expr} {te : TE} {g : TG} (he : PE X e te) (hg : PG X tg g) (hs : swapsWithSole [tg] e pos.line X.env = pure false := by rfl) (hw : swappedStores [tg] e X.env = pure none := by rfl)
    (h1 : (assignEach [tg] X.env).map (·.2) = [assign tg X.env] := by rfl) : PS X (.Assign [tg] e pos) (tAsg te g) := by
  intro pins s σ H D I h
  refine wpAny_Assign_stores (thn (he pins s σ H _ I h) fun v s1 ⟨x, H1, I1, r1, q1⟩ => ?_) hs hw
  rw [h1]
  exact thn (hg pins s1 σ H1 x v _ I1 r1 q1) fun _ s2 q => q
theorem ps_set {i : Nat} {x : Str} {e : Expr} {te : TE} {pos' : Pos} (hN : X.N.Nodup) (hi : X.N[i]? = some x) (hx : Loc X.env.scope x) (he : PE X e te) (hs : swapsWith e (some (.Name x pos')) pos.line X.env = pure false := by rfl) (hf : X.fn x = true ∨ X.env.scope.names.lookup x = some .local := by first | exact .inl rfl | exact .inr rfl | assumption) :
    PS X (.Assign [.Name x pos'] e pos) (tAsg te (gName i)) := by
  intro pins s σ H D I h
  refine wpAny_Assign_Name (thn (he pins s σ H _ I h) fun v s1 ⟨y, H1, I1, r1, q1⟩ => ?_) hs
  exact store_ok I1 hN hi hx r1 (fun s2 I2 => ⟨_, H1, I2, q1⟩) hf
end

section
variable {X : Cx} {pos : Pos}
def tWhile (c : TT) (tb : TS) : TS := fun D σ H => ∃ W : Nat → St → Hp → Prop, (∃ m, W m σ H) ∧ ∀ m σ H, W m σ H →
  c σ H fun b H1 => if b = true then ∃ N : St → Hp → Prop, (∀ σ' H', N σ' H' → ∃ m', m' < m ∧ W m' σ' H') ∧ tb { D with nx := N, ct := N, bk := D.nx } σ H1 else D.nx σ H1
theorem ps_while {c : Expr} {body : List Stmt} {tc : TT} {tb : TS} (hp : PassesOwn (model X.prog X.w) X.A X.env X.xe) (hc : PT X c tc) (hb : PSs X body tb) : PS X (.While c body [] pos) (tWhile tc tb) := by
  intro pins s σ H D I h
  obtain ⟨W, ⟨m0, w0⟩, turn⟩ := h
  refine wpAny_While (codeAny_whileLoop (fun n s' => ∃ σ' H', Inv X pins σ' H' s' ∧ W n σ' H') ?_ m0 ⟨σ, H, I, w0⟩)
  rintro n s1 ⟨σ1, H1, I1, w1⟩
  refine wpAny_passesOwn hp (thn (hc pins s1 σ1 H1 _ I1 (turn n σ1 H1 w1)) fun b s2 ⟨H2, I2, q2⟩ => ?_)
  cases b with
  | true =>
    obtain ⟨N, hN, q2⟩ := q2
    rw [if_pos rfl]
    refine wpAny_passesOwn hp (thn (hb pins s2 σ1 H2 _ I2 q2) fun f s3 q3 => ?_)
    cases f with
    | next =>
      obtain ⟨σ3, H3, I3, n3⟩ := q3
      obtain ⟨m', hm, w3⟩ := hN σ3 H3 n3
      exact ⟨m', hm, σ3, H3, I3, w3⟩
    | cont =>
      obtain ⟨σ3, H3, I3, n3⟩ := q3
      obtain ⟨m', hm, w3⟩ := hN σ3 H3 n3
      exact ⟨m', hm, σ3, H3, I3, w3⟩
    | brk => exact q3
    | ret v => exact q3
  | false =>
    rw [if_neg Bool.false_ne_true]
    exact wpAny_execs_nil ⟨σ1, H2, I2, q2⟩
end

structure It where
  go : Nat → Hp → Prop
  yld : Nat → Hp → V → Hp → Prop
  stop : Nat → Hp → Prop
def FpOk (X : Cx) (pins : List (Addr × Obj)) (H : Hp) (b : Addr) : Prop :=
  H b = none ∧ b ≠ X.env.locals ∧ b ∉ X.fs ∧ (b ∈ X.ex ∨ X.s_0.heap.objs.size ≤ b) ∧ (∀ x c, X.env.cells.lookup x = some c → c ≠ b) ∧ ∀ p ∈ X.pn ++ pins, p.1 ≠ b
theorem Inv.fpOk {X : Cx} {pins : List (Addr × Obj)} {σ : St} {H H' : Hp} {s : Shared} {b : Addr} (I : Inv X pins σ H s) (hb : s.heap.objs.size ≤ b) (hn : H' b = none) : FpOk X pins H' b := by
  refine ⟨hn, Nat.ne_of_gt (Nat.lt_of_lt_of_le I.lt hb), I.nofs hb, .inr (Nat.le_trans I.sz hb), fun x c e z => ?_, fun p hp z => ?_⟩
  · obtain ⟨v, q⟩ := I.cell x c e
    exact absurd (Nat.lt_of_lt_of_le q.lt (by rw [z]; exact hb)) (Nat.lt_irrefl _)
  · exact absurd (Nat.lt_of_lt_of_le (Heap.lt_size (I.pin p hp).1) (by rw [z]; exact hb)) (Nat.lt_irrefl _)
structure Turn (P : Program) (w : World) (K : PySem.W.Frag) (tg : Expr) (J : It) (fp : List Addr) (it : Addr) (tn : Nat → Heap → Prop) : Prop where
  mem : it ∈ fp
  obj : ∀ i h, tn i h → ∀ b ∈ fp, ∃ o, h.get? b = some o ∧ ∀ v, o.data ≠ .cell v
  keep : ∀ i h h', tn i h → (∀ b ∈ fp, ∀ o, h.get? b = some o → h'.get? b = some o) → tn i h'
  item : ∀ (X : Cx), X.prog = P → X.w = w → X.K = K → X.calm = true → ∀ (i : Nat) (pins : List (Addr × Obj)) (s : Shared) (σ : St) (H : Hp) (E : Value → Shared → Prop), Inv X pins σ H s → (∀ b ∈ fp, FpOk X pins H b) → tn i s.heap → J.go i H →
    wpAny (model P w) X.A (pyNext (.ref it)) (fun r s1 => ∃ u, r = some u ∧
      wpAny (model P w) X.A (letOwnedTupleGo tg (.ref it) u) (fun _ s2 => ∃ x H', Inv X pins σ H' s2 ∧ RelV x u ∧ J.yld i H x H' ∧ tn (i + 1) s2.heap ∧ ∀ b ∈ fp, H' b = none) E s1) E s
  done : ∀ (X : Cx), X.prog = P → X.w = w → X.K = K → X.calm = true → ∀ (i : Nat) (pins : List (Addr × Obj)) (s : Shared) (σ : St) (H : Hp) (E : Value → Shared → Prop), Inv X pins σ H s → (∀ b ∈ fp, FpOk X pins H b) → tn i s.heap → J.stop i H →
    wpAny (model P w) X.A (pyNext (.ref it)) (fun r s1 => r = none ∧ Inv X pins σ H s1) E s
  self : ∀ (A : Around) (i : Nat) (s : Shared) (Q : Value → Shared → Prop) (E : Value → Shared → Prop), tn i s.heap → Q (.ref it) s → wpAny (model P w) A (pyIter (.ref it)) Q E s
abbrev TI := St → Hp → (It → Hp → Prop) → Prop
def PIE (X : Cx) (pins : List (Addr × Obj)) (σ : St) (tg : Expr) (R : It → Hp → Prop) (itv : Value) (s2 : Shared) : Prop :=
  ∃ (it : Addr) (fp : List Addr) (tn : Nat → Heap → Prop) (J : It) (H' : Hp), itv = .ref it ∧ Inv X pins σ H' s2 ∧ Turn X.prog X.w X.K tg J fp it tn ∧ tn 0 s2.heap ∧ (∀ b ∈ fp, FpOk X pins H' b) ∧ R J H'
def PI (X : Cx) (tg iter : Expr) (wi : TI) : Prop :=
  ∀ (pins : List (Addr × Obj)) (s : Shared) (σ : St) (H : Hp) (R : It → Hp → Prop), Inv X pins σ H s → wi σ H R →
    wpAny (model X.prog X.w) X.A (eval iter X.env) (fun v s1 => wpAny (model X.prog X.w) X.A (pyIter v) (PIE X pins σ tg R) X.xe s1) X.xe s

theorem go_of {M : Model} {A : Around} {E : Value → Shared → Prop} {s : Shared} {tg : Expr} {it : Addr} {u : Value} {o : Obj} {n : String} {vs : Array Value} {Q : Unit → Shared → Prop} (ho : s.heap.get? it = some o) (hc : o.cls = .type n) (hd : o.data = .fields vs)
    (hn : ["enumerate", "zip", "dict_itemiterator", "dict_reverseitemiterator", "odict_iterator", "itertools.zip_longest", "itertools.pairwise"].contains n = false) (hQ : Q () s) : wpAny M A (letOwnedTupleGo tg (.ref it) u) Q E s := by
  unfold letOwnedTupleGo
  cases tg <;> first
    | exact wpAny_pure hQ
    | (cases u <;> first
        | exact wpAny_pure hQ
        | (refine wpAny_bind (wpAny_load ho ?_)
           rw [hc, hd]
           show wpAny M A (if (["enumerate", "zip", "dict_itemiterator", "dict_reverseitemiterator", "odict_iterator", "itertools.zip_longest", "itertools.pairwise"].contains n && vs[0]? == some (rawInt _)) = true then _ else _) Q E s
           rw [if_neg (by intro h; rw [hn, Bool.false_and] at h; cases h)]
           exact wpAny_pure hQ))

def Itl (K : PySem.W.Frag) (a : Addr) : It :=
  ⟨fun i H => ∃ xs x, SqL K H a xs ∧ xs[i]? = some x, fun i H x H' => H' = H ∧ ∀ xs, SqL K H a xs → xs[i]? = some x, fun i H => ∃ xs, SqL K H a xs ∧ xs.length ≤ i⟩
def Itr (lo : Int) (n : Nat) : It := ⟨fun i _ => i < n, fun i H x H' => H' = H ∧ x = .int (lo + i), fun i _ => n ≤ i⟩
theorem turn_list {P : Program} {w : World} {K : PySem.W.Frag} {tg : Expr} (a it : Addr) : Turn P w K tg (Itl K a) [it] it (fun i h => h.IsListIter it a i) where
  mem := by simp
  obj := fun i h st b hb => by
    have e : b = it := by simpa using hb
    subst e
    obtain ⟨o, e, c, d⟩ := st
    exact ⟨o, e, fun v z => by rw [d] at z; cases z⟩
  keep := fun i h h' st k => st.at fun o e => k it (by simp) o e
  item := by
    intro X hP hw hK hc i pins s σ H E I hf st hg
    subst hP hw hK
    obtain ⟨xs, x, hq, hx⟩ := hg
    obtain ⟨its, rv, p, hz⟩ := I.list hq
    obtain ⟨u, hu, ru⟩ := rv.get hx
    obtain ⟨f0, f1, f2, f3, f4, f5⟩ := hf it (by simp)
    refine wpAny_pyNext_list_item st p.isList (x := u) (by simpa using hu) fun h' st' sb => ?_
    have I1 : Inv X pins σ H { s with heap := h' } := I.turned (t' := s.toks) (fun b o hb e => (sb.2 b hb).trans e) f0 f1 f3 f4 f5
    obtain ⟨o, e, c, d⟩ := id st'
    exact ⟨u, rfl, go_of (s := { s with heap := h' }) e c d (by decide) ⟨x, H, I1, ru, ⟨rfl, fun ys hy => by rw [I.list_inj hy hq]; exact hx⟩, st', fun b hb => (hf b hb).1⟩⟩
  done := by
    intro X hP hw hK hc i pins s σ H E I hf st hg
    subst hP hw hK
    obtain ⟨xs, hq, hx⟩ := hg
    obtain ⟨its, rv, p, hz⟩ := I.list hq
    obtain ⟨f0, f1, f2, f3, f4, f5⟩ := hf it (by simp)
    have hl := rv.length
    exact wpAny_pyNext_list_end (I.ok.hd hc) st p.isList (by simp; omega) fun h' eb => ⟨rfl, I.turned (t' := s.toks) (fun b o hb e => eb b o hb e) f0 f1 f3 f4 f5⟩
  self := fun _ _ _ _ _ st h => wpAny_pyIter_listiter st h
theorem turn_range {P : Program} {w : World} {K : PySem.W.Frag} {tg : Expr} (it : Addr) (lo : Int) (n : Nat) : Turn P w K tg (Itr lo n) [it] it (fun i h => IsRangeIter h it (lo + (i : Nat) * 1) ((n : Int) - (i : Nat)) 1) where
  mem := by simp
  obj := fun i h st b hb => by
    have e : b = it := by simpa using hb
    subst e
    exact ⟨_, st, fun v z => by
      have z' : Data.fields _ = Data.cell v := z
      cases z'⟩
  keep := fun i h h' st k => k it (by simp) _ st
  item := by
    intro X hP hw hK hc i pins s σ H E I hf st hg
    subst hP hw hK
    obtain ⟨f0, f1, f2, f3, f4, f5⟩ := hf it (by simp)
    have W := Walks.range (prog := X.prog) (w := X.w) (I.ok.hd hc) it lo 1 n
    refine W.item i s _ _ hg st fun v h' tk hv st' kk => ?_
    obtain ⟨t, rfl⟩ := hv
    have I1 : Inv X pins σ H { s with heap := h', toks := tk } := I.turned (fun b o hb e => kk b o (by simpa using hb) e) f0 f1 f3 f4 f5
    refine ⟨_, rfl, go_of (s := { s with heap := h', toks := tk }) (n := "range_iterator") st' rfl rfl (by decide) ⟨.int (lo + i), H, I1, ⟨t, ?_⟩, ⟨rfl, rfl⟩, st', fun b hb => (hf b hb).1⟩⟩
    rw [Int.mul_one]
  done := by
    intro X hP hw hK hc i pins s σ H E I hf st hg
    subst hP hw hK
    obtain ⟨f0, f1, f2, f3, f4, f5⟩ := hf it (by simp)
    exact wpAny_pyNext_range_end (I.ok.hd hc) st (by have : n ≤ i := hg; omega) fun h' eb => ⟨rfl, I.turned (t' := s.toks) (fun b o hb e => eb b o hb e) f0 f1 f3 f4 f5⟩
  self := fun _ _ _ _ _ st h => wpAny_pyIter_rangeiter st h
end L2

namespace L2
open PySem PySem.Spec PyProof.Rows
section
variable {X : Cx} {tg : Expr}
def iList (K : PySem.W.Frag) (tl : TE) : TI := fun σ H R => tl σ H fun x H1 => ∃ a, x = .ref a ∧ (∃ xs, SqL K H1 a xs) ∧ R (Itl K a) H1
theorem pi_list {l : Expr} {tl : TE} (hl : PE X l tl) : PI X tg l (iList X.K tl) := by
  intro pins s σ H R I h
  refine thn (hl pins s σ H _ I h) fun v s1 ⟨x, H1, I1, r1, q1⟩ => ?_
  obtain ⟨a, e, ⟨xs, hq⟩, q⟩ := q1
  subst e
  cases r1
  obtain ⟨its, rv, p, hz⟩ := I1.list hq
  refine wpAny_pyIter_list p.isList ?_
  refine ⟨s1.heap.objs.size, [s1.heap.objs.size], _, _, H1, rfl, I1.kept (t' := s1.toks) fun b o e => Heap.get?_push_of_some _ e, turn_list a _, ⟨_, Heap.get?_push_size _ rfl, rfl, rfl⟩, fun b hb => ?_, q⟩
  have e : b = s1.heap.objs.size := by simpa using hb
  subst e
  exact I1.fpOk (Nat.le_refl _) (I1.hok.fresh (Nat.le_refl _))
theorem range_it {pins : List (Addr × Obj)} {σ : St} {H : Hp} {s : Shared} {R : It → Hp → Prop} {E : Value → Shared → Prop} {lo hi : Int} {t u v : Tok} {tk : Nat} (I : Inv X pins σ H s) (h1 : -(2 ^ 62) ≤ lo) (h2 : lo < 2 ^ 62) (h3 : -(2 ^ 62) ≤ hi) (h4 : hi < 2 ^ 62)
    (q : R (Itr lo (hi - lo).toNat) H) : wpAny (model X.prog X.w) X.A (pyIter (.ref s.heap.objs.size)) (PIE X pins σ tg R) E { s with heap := s.heap.push { cls := .type "range", data := .fields #[.int lo t, .int hi u, .int 1 v] }, toks := tk } := by
  refine wpAny_pyIter_range (IsRange.new ..) (small_one h1 h2 h3 h4) ?_
  have I1 : Inv X pins σ H { s with heap := s.heap.push { cls := .type "range", data := .fields #[.int lo t, .int hi u, .int 1 v] }, toks := tk } := I.kept fun b o e => Heap.get?_push_of_some _ e
  refine ⟨(s.heap.push { cls := .type "range", data := .fields #[.int lo t, .int hi u, .int 1 v] }).objs.size, [(s.heap.push { cls := .type "range", data := .fields #[.int lo t, .int hi u, .int 1 v] }).objs.size], _, _, H, rfl,
    I1.kept (t' := tk) fun b o e => Heap.get?_push_of_some _ e, turn_range _ lo (hi - lo).toNat, ?_, fun b hb => ?_, q⟩
  · have e1 : lo + ((0 : Nat) : Int) * 1 = lo := by simp
    have e2 : (((hi - lo).toNat : Nat) : Int) - ((0 : Nat) : Int) = Builtin.Range.rangeSize lo hi 1 := by rw [rangeSize_one]; split <;> omega
    show IsRangeIter _ _ (lo + ((0 : Nat) : Int) * 1) ((((hi - lo).toNat : Nat) : Int) - ((0 : Nat) : Int)) 1
    rw [e1, e2]
    exact Heap.get?_push_size _ rfl
  · have e : b = (s.heap.push { cls := .type "range", data := .fields #[.int lo t, .int hi u, .int 1 v] }).objs.size := by simpa using hb
    subst e
    exact I1.fpOk (Nat.le_refl _) (I1.hok.fresh (Nat.le_refl _))
def iRng1 (ta : TA) : TI := fun σ H R => ta σ H fun vs H1 => ∃ j : Int, vs = [.int j] ∧ -(2 ^ 62) ≤ j ∧ j < 2 ^ 62 ∧ R (Itr 0 j.toNat) H1
def iRng2 (ta : TA) : TI := fun σ H R => ta σ H fun vs H1 => ∃ i j : Int, vs = [.int i, .int j] ∧ (-(2 ^ 62) ≤ i ∧ i < 2 ^ 62 ∧ -(2 ^ 62) ≤ j ∧ j < 2 ^ 62) ∧ R (Itr i (j - i).toNat) H1
theorem pi_range1 {a : Expr} {ta : TA} {p pos : Pos} (hg : Gl X "range") (hm : X.mg "range" = none) (ha : PA X [a] ta) (hs : starEach [a] X.env = [(false, eval a X.env)] := by rfl) : PI X tg (.Call (.Name "range" p) [a] [] pos) (iRng1 ta) := by
  intro pins s σ H R I h
  refine Call_ (ld_blt I hg hm boot_range (PyProof.Rows.callWith_type1 (thn (ha pos pins s σ H _ I h) fun us s1 ⟨vs, H1, I1, r1, q1⟩ => ?_) hs rfl))
  obtain ⟨j, e, q1, q2, q⟩ := q1
  subst e
  cases r1 with
  | cons r rr =>
    cases rr
    obtain ⟨t, rfl⟩ := r
    exact call_range_1 (range_it I1 (by omega) (by omega) q1 q2 (by simpa using q))
theorem pi_range2 {a b : Expr} {ta : TA} {p pos : Pos} (hg : Gl X "range") (hm : X.mg "range" = none) (ha : PA X [a, b] ta) (hs : starEach [a, b] X.env = [(false, eval a X.env), (false, eval b X.env)] := by rfl) (hs2 : starEach [b] X.env = [(false, eval b X.env)] := by rfl) :
    PI X tg (.Call (.Name "range" p) [a, b] [] pos) (iRng2 ta) := by
  intro pins s σ H R I h
  refine Call_ (ld_blt I hg hm boot_range (PyProof.Rows.callWith_type1 (thn (ha pos pins s σ H _ I h) fun us s1 ⟨vs, H1, I1, r1, q1⟩ => ?_) (by rw [hs, hs2]) (by rw [hs2]; rfl)))
  obtain ⟨i, j, e, ⟨q1, q2, q3, q4⟩, q⟩ := q1
  subst e
  cases r1 with
  | cons r rr =>
    cases rr with
    | cons r' rr =>
      cases rr
      obtain ⟨t, rfl⟩ := r
      obtain ⟨t', rfl⟩ := r'
      exact call_range_2 (range_it I1 q1 q2 q3 q4 q)

def tFor (wi : TI) (g : TG) (tb : TS) : TS := fun D σ H => wi σ H fun J H1 => ∃ W : Nat → Nat → St → Hp → Prop, (∃ m, W 0 m σ H1) ∧ ∀ i m σ H, W i m σ H →
  (J.stop i H ∧ D.nx σ H) ∨ (J.go i H ∧ ∃ N : St → Hp → Prop, (∀ σ' H', N σ' H' → ∃ m', m' < m ∧ W (i + 1) m' σ' H') ∧ ∀ x H', J.yld i H x H' → g x σ H' fun σ2 H2 => tb { D with nx := N, ct := N, bk := D.nx } σ2 H2)
def pinsAt (fp : List Addr) (h : Heap) : List (Addr × Obj) := fp.filterMap fun b => (h.get? b).map fun o => (b, o)
theorem mem_pinsAt {fp : List Addr} {h : Heap} {b : Addr} {o : Obj} (hb : b ∈ fp) (e : h.get? b = some o) : (b, o) ∈ pinsAt fp h := List.mem_filterMap.mpr ⟨b, hb, by rw [e]; rfl⟩
theorem of_pinsAt {fp : List Addr} {h : Heap} {p : Addr × Obj} (hp : p ∈ pinsAt fp h) : p.1 ∈ fp ∧ h.get? p.1 = some p.2 := by
  obtain ⟨b, hb, e⟩ := List.mem_filterMap.mp hp
  cases q : h.get? b with
  | none => rw [q] at e; cases e
  | some o =>
    rw [q] at e
    have e' : (b, o) = p := Option.some.inj e
    subst e'
    exact ⟨hb, q⟩
theorem Inv.pinned {pins : List (Addr × Obj)} {σ : St} {H : Hp} {s : Shared} {fp : List Addr} (I : Inv X pins σ H s) (hf : ∀ b ∈ fp, FpOk X pins H b) (ho : ∀ b ∈ fp, ∃ o, s.heap.get? b = some o ∧ ∀ v, o.data ≠ .cell v) : Inv X (pins ++ pinsAt fp s.heap) σ H s :=
  I.pins_of fun p hp => (List.mem_append.mp hp).elim (fun z => I.pin p (List.mem_append_right _ z)) fun z => by
    obtain ⟨hb, e⟩ := of_pinsAt z
    obtain ⟨f0, f1, f2, _⟩ := hf p.1 hb
    obtain ⟨o, e', d⟩ := ho p.1 hb
    rw [e] at e'; cases e'
    exact ⟨e, f0, f1, f2, d⟩
theorem Inv.unpinned {pins pl : List (Addr × Obj)} {σ : St} {H : Hp} {s : Shared} (I : Inv X (pins ++ pl) σ H s) : Inv X pins σ H s := I.pins_of fun p hp => I.pin p (List.mem_append_right _ (List.mem_append_left _ hp))
theorem ps_for {iter : Expr} {body : List Stmt} {wi : TI} {g : TG} {tb : TS} {pos : Pos} (hp : PassesOwn (model X.prog X.w) X.A X.env X.xe) (hc : X.calm = true) (hi : PI X tg iter wi) (hg : PG X tg g) (hb : PSs X body tb)
    (hs : ∀ x, foldedSetIterable iter X.env x = pure x := by intro _; rfl) : PS X (.For tg iter body [] pos) (tFor wi g tb) := by
  intro pins s σ H D I h
  refine wpAny_For (thn (hi pins s σ H _ I h) fun v s1 h1 => thn h1 fun itv s2 h2 => ?_) hs
  obtain ⟨it, fp, tn, J, H2, e, I2, T, st2, f2, W, ⟨m0, w0⟩, turn⟩ := h2
  subst e
  -- what stays true of the iterator's objects through the loop
  have stat : ∀ {H' : Hp}, (∀ b ∈ fp, H' b = none) → ∀ b ∈ fp, FpOk X pins H' b := fun hn b hb => ⟨hn b hb, (f2 b hb).2⟩
  refine codeAny_forLoop_any (fun n s' => ∃ i σ' H', Inv X pins σ' H' s' ∧ tn i s'.heap ∧ (∀ b ∈ fp, H' b = none) ∧ W i n σ' H') ?_ m0 ⟨0, σ, H2, I2, st2, fun b hb => (f2 b hb).1, w0⟩
  rintro n s3 ⟨i, σ3, H3, I3, st3, fr3, w3⟩
  rcases turn i n σ3 H3 w3 with ⟨stop, qn⟩ | ⟨go, N, hN, step⟩
  · refine wpAny_passesOwn hp (thn (T.done X rfl rfl rfl hc i pins s3 σ3 H3 X.xe I3 (stat fr3) st3 stop) fun r s4 ⟨hr, I4⟩ => ?_)
    subst hr
    exact wpAny_execs_nil ⟨σ3, H3, I4, qn⟩
  · refine wpAny_passesOwn hp (thn (T.item X rfl rfl rfl hc i pins s3 σ3 H3 X.xe I3 (stat fr3) st3 go) fun r s4 ⟨u, hr, h4⟩ => ?_)
    subst hr
    refine wpAny_passesOwn hp (thn h4 fun _ s5 ⟨x, H5, I5, r5, y5, st5, fr5⟩ => ?_)
    have I5' := I5.pinned (stat fr5) (T.obj _ _ st5)
    refine wpAny_passesOwn hp (thn (hg _ s5 σ3 H5 x u _ I5' r5 (step x H5 y5)) fun _ s6 ⟨σ6, H6, I6, q6⟩ => ?_)
    refine wpAny_passesOwn hp (thn (hb _ s6 σ6 H6 _ I6 q6) fun f s7 q7 => ?_)
    have again : ∀ {σ7 : St} {H7 : Hp}, Inv X (pins ++ pinsAt fp s5.heap) σ7 H7 s7 → N σ7 H7 → ∃ m, m < n ∧ ∃ i σ' H', Inv X pins σ' H' s7 ∧ tn i s7.heap ∧ (∀ b ∈ fp, H' b = none) ∧ W i m σ' H' := fun {σ7 H7} I7 n7 => by
      obtain ⟨m', hm, w7⟩ := hN σ7 H7 n7
      refine ⟨m', hm, i + 1, σ7, H7, I7.unpinned, T.keep _ _ _ st5 fun b hb o e => (I7.pin (b, o) (List.mem_append_right _ (List.mem_append_right _ (mem_pinsAt hb e)))).1, fun b hb => ?_, w7⟩
      obtain ⟨o, e, d⟩ := T.obj _ _ st5 b hb
      exact (I7.pin (b, o) (List.mem_append_right _ (List.mem_append_right _ (mem_pinsAt hb e)))).2.1
    cases f with
    | next => obtain ⟨σ7, H7, I7, n7⟩ := q7; exact again I7 n7
    | cont => obtain ⟨σ7, H7, I7, n7⟩ := q7; exact again I7 n7
    | brk => obtain ⟨σ7, H7, I7, q7⟩ := q7; exact ⟨σ7, H7, I7.unpinned, q7⟩
    | ret v => obtain ⟨x7, σ7, H7, I7, r7, q7⟩ := q7; exact ⟨x7, σ7, H7, I7.unpinned, r7, q7⟩
end

theorem for_list {K : PySem.W.Frag} {a : Addr} {xs : List V} {g : TG} {tb : TS} {D : Ends} {σ : St} {H : Hp} (Pv : Nat → St → Hp → Prop) (h0 : Pv 0 σ H) (hl : ∀ i σ H, i ≤ xs.length → Pv i σ H → SqL K H a xs)
    (hs : ∀ i x σ H, xs[i]? = some x → Pv i σ H → g x σ H fun σ2 H2 => tb { D with nx := Pv (i + 1), ct := Pv (i + 1), bk := D.nx } σ2 H2) (hd : ∀ σ H, Pv xs.length σ H → D.nx σ H) :
    ∃ W : Nat → Nat → St → Hp → Prop, (∃ m, W 0 m σ H) ∧ ∀ i m σ H, W i m σ H →
      ((Itl K a).stop i H ∧ D.nx σ H) ∨ ((Itl K a).go i H ∧ ∃ N : St → Hp → Prop, (∀ σ' H', N σ' H' → ∃ m', m' < m ∧ W (i + 1) m' σ' H') ∧ ∀ x H', (Itl K a).yld i H x H' → g x σ H' fun σ2 H2 => tb { D with nx := N, ct := N, bk := D.nx } σ2 H2) := by
  refine ⟨fun i m σ H => m = xs.length - i ∧ i ≤ xs.length ∧ Pv i σ H, ⟨xs.length, by simp, Nat.zero_le _, h0⟩, ?_⟩
  rintro i m σ H ⟨rfl, hi, p⟩
  have q := hl i σ H hi p
  by_cases hlt : i < xs.length
  · refine .inr ⟨⟨xs, xs[i], q, by simp [hlt]⟩, Pv (i + 1), fun σ' H' p' => ⟨xs.length - (i + 1), by omega, rfl, hlt, p'⟩, fun x H' y => ?_⟩
    obtain ⟨e, y⟩ := y
    subst e
    exact hs i x σ _ (y xs q) p
  · have e : i = xs.length := by omega
    subst e
    exact .inl ⟨⟨xs, q, Nat.le_refl _⟩, hd σ H p⟩
theorem for_range {lo : Int} {n : Nat} {g : TG} {tb : TS} {D : Ends} {σ : St} {H : Hp} (Pv : Nat → St → Hp → Prop) (h0 : Pv 0 σ H)
    (hs : ∀ i σ H, i < n → Pv i σ H → g (.int (lo + i)) σ H fun σ2 H2 => tb { D with nx := Pv (i + 1), ct := Pv (i + 1), bk := D.nx } σ2 H2) (hd : ∀ σ H, Pv n σ H → D.nx σ H) :
    ∃ W : Nat → Nat → St → Hp → Prop, (∃ m, W 0 m σ H) ∧ ∀ i m σ H, W i m σ H →
      ((Itr lo n).stop i H ∧ D.nx σ H) ∨ ((Itr lo n).go i H ∧ ∃ N : St → Hp → Prop, (∀ σ' H', N σ' H' → ∃ m', m' < m ∧ W (i + 1) m' σ' H') ∧ ∀ x H', (Itr lo n).yld i H x H' → g x σ H' fun σ2 H2 => tb { D with nx := N, ct := N, bk := D.nx } σ2 H2) := by
  refine ⟨fun i m σ H => m = n - i ∧ i ≤ n ∧ Pv i σ H, ⟨n, by simp, Nat.zero_le _, h0⟩, ?_⟩
  rintro i m σ H ⟨rfl, hi, p⟩
  by_cases hlt : i < n
  · refine .inr ⟨hlt, Pv (i + 1), fun σ' H' p' => ⟨n - (i + 1), by omega, rfl, hlt, p'⟩, fun x H' y => ?_⟩
    obtain ⟨e, y⟩ := y
    subst e y
    exact hs i σ _ hlt p
  · have e : i = n := by omega
    subst e
    exact .inl ⟨Nat.le_refl _, hd σ H p⟩
end L2

namespace L2
open PySem PySem.Spec PyProof.Rows

abbrev R2 := V → V → Hp → VK → Prop
def OpR (X : Cx) (f : Value → Value → Sem Value) (r : R2) : Prop :=
  ∀ (pins : List (Addr × Obj)) (s : Shared) (σ : St) (H : Hp) (x y : V) (v u : Value) (Q : VK), Inv X pins σ H s → RelV x v → RelV y u → r x y H Q →
    wpAny (model X.prog X.w) X.A (f v u) (EP X pins σ Q) X.xe s
def CallR (X : Cx) (f : Value) (r : List V → Hp → VK → Prop) : Prop :=
  ∀ (pins : List (Addr × Obj)) (s : Shared) (σ : St) (H : Hp) (xs : List V) (us : List Value) (Q : VK), Inv X pins σ H s → Vals xs us → r xs H Q →
    wpAny (model X.prog X.w) X.A (call f us) (EP X pins σ Q) X.xe s

def tOp (r : R2) (ta tb : TE) : TE := fun σ H Q => ta σ H fun x H1 => tb σ H1 fun y H2 => r x y H2 Q
def rI (C : Int → Int → Prop) (g : Int → Int → V) : R2 := fun x y H Q => ∃ i j, x = .int i ∧ y = .int j ∧ C i j ∧ Q (g i j) H
def rI0 (g : Int → Int → V) : R2 := fun x y H Q => ∃ i j, x = .int i ∧ y = .int j ∧ Q (g i j) H

section
variable {X : Cx} {a b c : Expr} {ta tb tc : TE} {pos : Pos}

theorem binT (ha : PE X a ta) (hb : PE X b tb) {pins : List (Addr × Obj)} {s : Shared} {σ : St} {H : Hp} {R : V → V → Hp → Prop} (I : Inv X pins σ H s)
    (h : ta σ H fun x H1 => tb σ H1 fun y H2 => R x y H2) {Q : Value → Shared → Prop} {f : Value → Value → Sem Value}
    (hf : ∀ v u s2 x y H2, Inv X pins σ H2 s2 → RelV x v → RelV y u → R x y H2 → wpAny (model X.prog X.w) X.A (f v u) Q X.xe s2) :
    wpAny (model X.prog X.w) X.A (eval a X.env) (fun v s₁ => wpAny (model X.prog X.w) X.A (eval b X.env) (fun u s₂ => wpAny (model X.prog X.w) X.A (f v u) Q X.xe s₂) X.xe s₁) X.xe s := by
  refine thn (ha pins s σ H _ I h) fun v s1 ⟨x, H1, I1, r1, q1⟩ => ?_
  refine thn (hb pins s1 σ H1 _ I1 q1) fun u s2 ⟨y, H2, I2, r2, q2⟩ => ?_
  exact hf v u s2 x y H2 I2 r1 r2 q2

theorem pe_op {op : Operator} {r : R2} (ho : OpR X (binaryOp op) r) (ha : PE X a ta) (hb : PE X b tb) : PE X (.BinOp a op b pos) (tOp r ta tb) := by
  intro pins s σ H Q I h
  exact wpAny_BinOp (binT ha hb I h fun v u s2 x y H2 I2 rx ry q => ho pins s2 σ H2 x y v u Q I2 rx ry q)

theorem opI {f : Value → Value → Sem Value} {C : Int → Int → Prop} {g : Int → Int → Int}
    (rule : ∀ (i j : Int) (t u : Tok) (s : Shared) (Q : Value → Shared → Prop) (E : Value → Shared → Prop), C i j → Q (.int (g i j) s.toks) { s with toks := s.toks + 1 } → wpAny (model X.prog X.w) X.A (f (.int i t) (.int j u)) Q E s) :
    OpR X f (rI C fun i j => .int (g i j)) := by
  intro pins s σ H x y v u Q I rx ry h
  obtain ⟨i, j, rfl, rfl, hc, q⟩ := h
  obtain ⟨t, rfl⟩ := rx
  obtain ⟨t', rfl⟩ := ry
  exact rule i j t t' s _ _ hc ⟨.int (g i j), H, I.tok _, ⟨_, rfl⟩, q⟩
theorem opI0 {f : Value → Value → Sem Value} {g : Int → Int → Int}
    (rule : ∀ (i j : Int) (t u : Tok) (s : Shared) (Q : Value → Shared → Prop) (E : Value → Shared → Prop), Q (.int (g i j) s.toks) { s with toks := s.toks + 1 } → wpAny (model X.prog X.w) X.A (f (.int i t) (.int j u)) Q E s) :
    OpR X f (rI0 fun i j => .int (g i j)) := by
  intro pins s σ H x y v u Q I rx ry h
  obtain ⟨i, j, rfl, rfl, q⟩ := h
  obtain ⟨t, rfl⟩ := rx
  obtain ⟨t', rfl⟩ := ry
  exact rule i j t t' s _ _ ⟨.int (g i j), H, I.tok _, ⟨_, rfl⟩, q⟩
theorem opB0 {f : Value → Value → Sem Value} {g : Int → Int → Bool}
    (rule : ∀ (i j : Int) (t u : Tok) (s : Shared) (Q : Value → Shared → Prop) (E : Value → Shared → Prop), Q (.bool (g i j)) s → wpAny (model X.prog X.w) X.A (f (.int i t) (.int j u)) Q E s) :
    OpR X f (rI0 fun i j => .bl (g i j)) := by
  intro pins s σ H x y v u Q I rx ry h
  obtain ⟨i, j, rfl, rfl, q⟩ := h
  obtain ⟨t, rfl⟩ := rx
  obtain ⟨t', rfl⟩ := ry
  exact rule i j t t' s _ _ ⟨.bl (g i j), H, I, rfl, q⟩

def CDiv (i j : Int) : Prop := 0 < j ∧ j < 1073741824
def CMul (i j : Int) : Prop := (-(2 ^ 64) < i ∧ i < 2 ^ 64) ∨ (-(2 ^ 64) < j ∧ j < 2 ^ 64)
theorem CMul.ok {i j : Int} (h : CMul i j) : IntMulOk i j := by
  rcases h with ⟨h1, h2⟩ | ⟨h1, h2⟩
  · exact .of_left (intBits_le_64 h1 h2)
  · exact .of_right (intBits_le_64 h1 h2)

theorem op_add : OpR X (binaryOp .Add) (rI0 fun i j => .int (i + j)) := opI0 fun _ _ _ _ _ _ _ q => add_int q
theorem op_sub : OpR X (binaryOp .Sub) (rI0 fun i j => .int (i - j)) := opI0 fun _ _ _ _ _ _ _ q => sub_int q
theorem op_mul : OpR X (binaryOp .Mult) (rI CMul fun i j => .int (i * j)) := opI fun _ _ _ _ _ _ _ hc q => mul_int q hc.ok
theorem op_fdiv : OpR X (binaryOp .FloorDiv) (rI CDiv fun i j => .int (i / j)) := opI fun i j _ _ _ _ _ hc q => by
  have h1 : (0 : Int) < j := hc.1
  have h2 : j < 1073741824 := hc.2
  exact floordiv_int (by omega) (by rw [Int.fdiv_eq_ediv_of_nonneg i (by omega)]; exact q) (.inl (PyProof.noPylong_small (by omega)))



end

def scal : V → V → Bool
  | .non, .non => true | .non, .int _ => true | .int _, .non => true | .non, .bl _ => true | .bl _, .non => true | .non, .str _ => true | .str _, .non => true
  | .int _, .int _ => true | .bl _, .bl _ => true | .str _, .str _ => true | .byt _, .byt _ => true
  | .int _, .str _ => true | .str _, .int _ => true | .bl _, .str _ => true | .str _, .bl _ => true
  | _, _ => false
def rEq : R2 := fun x y H Q => scal x y = true ∧ Q (.bl (decide (x = y))) H
def rNe : R2 := fun x y H Q => scal x y = true ∧ Q (.bl (!decide (x = y))) H

theorem dec_int {i j : Int} : decide (V.int i = V.int j) = (i == j) := by
  rw [Bool.eq_iff_iff]
  simp
theorem dec_bl {i j : Bool} : decide (V.bl i = V.bl j) = (i == j) := by
  rw [Bool.eq_iff_iff]
  simp
theorem dec_str {i j : Str} : decide (V.str i = V.str j) = (i == j) := by
  rw [Bool.eq_iff_iff]
  simp
theorem dec_byt {i j : Array UInt8} : decide (V.byt i = V.byt j) = (i.toList == j.toList) := by
  rw [Bool.eq_iff_iff]
  cases i
  cases j
  simp

section
variable {X : Cx} {a b c : Expr} {ta tb tc : TE} {pos : Pos}
theorem fin_bl {pins : List (Addr × Obj)} {σ : St} {H : Hp} {s : Shared} {Q : VK} {k k' : Bool} (I : Inv X pins σ H s) (q : Q (.bl k) H) (e : k = k') : EP X pins σ Q (.bool k') s := by
  subst e
  exact ⟨.bl k, H, I, rfl, q⟩
theorem op_eq : OpR X (compareOp .Eq) rEq := by
  intro pins s σ H x y v u Q I rx ry h
  obtain ⟨hs, q⟩ := h
  cases x with
  | non =>
    cases rx
    cases y with
    | non => cases ry; exact PySem.EqNone.eq_none_none (fin_bl I q (by simp))
    | bl j => cases ry; exact PySem.EqNone.eq_none_bool (fin_bl I q (by simp))
    | int j => obtain ⟨t', rfl⟩ := ry; exact PySem.EqNone.eq_none_int (fin_bl I q (by simp))
    | str j => obtain ⟨t', rfl⟩ := ry; exact PySem.EqNone.eq_none_str (fin_bl I q (by simp))
    | _ => exact absurd (show false = true from hs) Bool.false_ne_true
  | bl i =>
    cases rx
    cases y with
    | non => cases ry; exact PySem.EqNone.eq_bool_none (fin_bl I q (by simp))
    | bl j => cases ry; exact eq_bool (fin_bl I q dec_bl)
    | str j => obtain ⟨t', rfl⟩ := ry; exact PySem.EqMixed.eq_bool_str (fin_bl I q (by simp))
    | _ => exact absurd (show false = true from hs) Bool.false_ne_true
  | int i =>
    obtain ⟨t, rfl⟩ := rx
    cases y with
    | non => cases ry; exact PySem.EqNone.eq_int_none (fin_bl I q (by simp))
    | int j => obtain ⟨t', rfl⟩ := ry; exact eq_int (fin_bl I q dec_int)
    | str j => obtain ⟨t', rfl⟩ := ry; exact PySem.EqMixed.eq_int_str (fin_bl I q (by simp))
    | _ => exact absurd (show false = true from hs) Bool.false_ne_true
  | str i =>
    obtain ⟨t, rfl⟩ := rx
    cases y with
    | non => cases ry; exact PySem.EqNone.eq_str_none (fin_bl I q (by simp))
    | bl j => cases ry; exact PySem.EqMixed.eq_str_bool (fin_bl I q (by simp))
    | int j => obtain ⟨t', rfl⟩ := ry; exact PySem.EqMixed.eq_str_int (fin_bl I q (by simp))
    | str j => obtain ⟨t', rfl⟩ := ry; exact eq_str (fin_bl I q dec_str)
    | _ => exact absurd (show false = true from hs) Bool.false_ne_true
  | byt i =>
    obtain ⟨t, rfl⟩ := rx
    cases y with
    | byt j => obtain ⟨t', rfl⟩ := ry; exact PySem.W.eq_bytes (fin_bl I q dec_byt)
    | _ => exact absurd (show false = true from hs) Bool.false_ne_true
  | _ => cases y <;> exact absurd (show false = true from hs) Bool.false_ne_true
theorem op_ne : OpR X (compareOp .NotEq) rNe := by
  intro pins s σ H x y v u Q I rx ry h
  obtain ⟨hs, q⟩ := h
  cases x with
  | non =>
    cases rx
    cases y with
    | non => cases ry; exact PySem.EqNone.ne_none_none (fin_bl I q (by simp))
    | bl j => cases ry; exact PySem.EqNone.ne_none_bool (fin_bl I q (by simp))
    | int j => obtain ⟨t', rfl⟩ := ry; exact PySem.EqNone.ne_none_int (fin_bl I q (by simp))
    | str j => obtain ⟨t', rfl⟩ := ry; exact PySem.EqNone.ne_none_str (fin_bl I q (by simp))
    | _ => exact absurd (show false = true from hs) Bool.false_ne_true
  | bl i =>
    cases rx
    cases y with
    | non => cases ry; exact PySem.EqNone.ne_bool_none (fin_bl I q (by simp))
    | bl j => cases ry; exact ne_bool (fin_bl I q (congrArg not dec_bl))
    | str j => obtain ⟨t', rfl⟩ := ry; exact PySem.EqMixed.ne_bool_str (fin_bl I q (by simp))
    | _ => exact absurd (show false = true from hs) Bool.false_ne_true
  | int i =>
    obtain ⟨t, rfl⟩ := rx
    cases y with
    | non => cases ry; exact PySem.EqNone.ne_int_none (fin_bl I q (by simp))
    | int j => obtain ⟨t', rfl⟩ := ry; exact ne_int (fin_bl I q (congrArg not dec_int))
    | str j => obtain ⟨t', rfl⟩ := ry; exact PySem.EqMixed.ne_int_str (fin_bl I q (by simp))
    | _ => exact absurd (show false = true from hs) Bool.false_ne_true
  | str i =>
    obtain ⟨t, rfl⟩ := rx
    cases y with
    | non => cases ry; exact PySem.EqNone.ne_str_none (fin_bl I q (by simp))
    | bl j => cases ry; exact PySem.EqMixed.ne_str_bool (fin_bl I q (by simp))
    | int j => obtain ⟨t', rfl⟩ := ry; exact PySem.EqMixed.ne_str_int (fin_bl I q (by simp))
    | str j => obtain ⟨t', rfl⟩ := ry; exact ne_str (fin_bl I q (congrArg not dec_str))
    | _ => exact absurd (show false = true from hs) Bool.false_ne_true
  | byt i =>
    obtain ⟨t, rfl⟩ := rx
    cases y with
    | byt j => obtain ⟨t', rfl⟩ := ry; exact PySem.W.ne_bytes (fin_bl I q (congrArg not dec_byt))
    | _ => exact absurd (show false = true from hs) Bool.false_ne_true
  | _ => cases y <;> exact absurd (show false = true from hs) Bool.false_ne_true

theorem op_lt : OpR X (compareOp .Lt) (rI0 fun i j => .bl (decide (i < j))) := opB0 fun _ _ _ _ _ _ _ q => lt_int q
theorem op_le : OpR X (compareOp .LtE) (rI0 fun i j => .bl (decide (i ≤ j))) := opB0 fun _ _ _ _ _ _ _ q => le_int q
theorem op_gt : OpR X (compareOp .Gt) (rI0 fun i j => .bl (decide (j < i))) := opB0 fun _ _ _ _ _ _ _ q => gt_int q
theorem op_ge : OpR X (compareOp .GtE) (rI0 fun i j => .bl (decide (j ≤ i))) := opB0 fun _ _ _ _ _ _ _ q => ge_int q

theorem op_isN : OpR X (compareOp .Is) (fun x y H Q => y = .non ∧ Q (.bl (decide (x = .non))) H) := by
  intro pins s σ H x y v u Q I rx ry h
  obtain ⟨rfl, q⟩ := h
  cases ry
  refine is_none_gen (fin_bl I q ?_)
  cases x <;> first
    | (cases rx; rfl)
    | (obtain ⟨t, rfl⟩ := rx; rfl)
theorem op_notN : OpR X (compareOp .IsNot) (fun x y H Q => y = .non ∧ Q (.bl (!decide (x = .non))) H) := by
  intro pins s σ H x y v u Q I rx ry h
  obtain ⟨rfl, q⟩ := h
  cases ry
  refine isnot_none_gen (fin_bl I q ?_)
  cases x <;> first
    | (cases rx; rfl)
    | (obtain ⟨t, rfl⟩ := rx; rfl)


theorem OpR.or {f : Value → Value → Sem Value} {r r' : R2} (h : OpR X f r) (h' : OpR X f r') : OpR X f (fun x y H Q => r x y H Q ∨ r' x y H Q) := by
  intro pins s σ H x y v u Q I rx ry q
  rcases q with q | q
  · exact h pins s σ H x y v u Q I rx ry q
  · exact h' pins s σ H x y v u Q I rx ry q

theorem nomark (b : Expr) {op : CmpOp} (h : op ≠ .In := by decide) (h2 : op ≠ .NotIn := by decide) : behindInMarks op b = false := by
  have e1 : (op == CmpOp.In) = false := by cases op <;> first | rfl | exact absurd rfl h
  have e2 : (op == CmpOp.NotIn) = false := by cases op <;> first | rfl | exact absurd rfl h2
  cases b <;> simp [behindInMarks, e1, e2]
theorem pe_cmpR {op : CmpOp} {r : R2} (ho : OpR X (compareOp op) r) (ha : PE X a ta) (hb : PE X b tb) (hm : behindInMarks op b = false) : PE X (.Compare a [op] [b] pos) (tOp r ta tb) := by
  intro pins s σ H Q I h
  exact wpAny_Compare1 (binT ha hb I h fun v u s2 x y H2 I2 rx ry q => ho pins s2 σ H2 x y v u Q I2 rx ry q) hm
def tTest (t : TE) : TT := fun σ H Q => t σ H fun x H' => ∃ k, x = .bl k ∧ Q k H'
theorem pt_cmpR {op : CmpOp} {r : R2} (ho : OpR X (compareOp op) r) (ha : PE X a ta) (hb : PE X b tb) (hm : behindInMarks op b = false) : PT X (.Compare a [op] [b] pos) (tTest (tOp r ta tb)) := by
  intro pins s σ H Q I h
  refine wpAny_isTrue_Compare1 (thn (ha pins s σ H _ I h) fun v s1 ⟨x, H1, I1, r1, q1⟩ => thn (hb pins s1 σ H1 _ I1 q1) fun u s2 ⟨y, H2, I2, r2, q2⟩ =>
    thn (ho pins s2 σ H2 x y v u _ I2 r1 r2 q2) fun c s3 ⟨z, H3, I3, r3, k, e, q3⟩ => ?_) hm
  subst e
  cases r3
  exact wpAny_truthy_bool ⟨H3, I3, q3⟩
def tChain (r r' : R2) (ta tb tc : TE) : TE := fun σ H Q => ta σ H fun x H1 => tb σ H1 fun y H2 => r x y H2 fun z H3 => ∃ k, z = .bl k ∧
  (if k = true then tc σ H3 fun w' H4 => r' y w' H4 Q else Q (.bl false) H3)
theorem pt_chain {op op' : CmpOp} {r r' : R2} (ho : OpR X (compareOp op) r) (ho' : OpR X (compareOp op') r') (ha : PE X a ta) (hb : PE X b tb) (hc : PE X c tc)
    (hm : lastMarks [op, op'] [b, c] = false := by with_unfolding_all rfl) : PT X (.Compare a [op, op'] [b, c] pos) (tTest (tChain r r' ta tb tc)) := by
  intro pins s σ H Q I h
  refine isTrue_chain (thn (ha pins s σ H _ I h) fun v s1 ⟨x, H1, I1, r1, q1⟩ => test_link (thn (hb pins s1 σ H1 _ I1 q1) fun u s2 ⟨y, H2, I2, r2, q2⟩ =>
    thn (ho pins s2 σ H2 x y v u _ I2 r1 r2 q2) fun d s3 ⟨z, H3, I3, r3, k, e, q3⟩ => ?_)) hm
  subst e
  cases r3
  refine wpAny_truthy_bool ?_
  cases k with
  | false =>
    obtain ⟨k', e', q'⟩ := q3
    cases e'
    exact ite_ff ⟨H3, I3, q'⟩
  | true =>
    refine ite_tt (test_last (thn (hc pins s3 σ H3 _ I3 q3) fun w' s4 ⟨z', H4, I4, r4, q4⟩ => thn (ho' pins s4 σ H4 y z' u w' _ I4 r2 r4 q4) fun d' s5 ⟨z2, H5, I5, r5, k2, e2, q5⟩ => ?_))
    subst e2
    cases r5
    exact wpAny_truthy_bool ⟨H5, I5, q5⟩

theorem line63 : (sizeLine : Nat) < 2 ^ 63 := by rw [sizeLine_eq]; decide



theorem vals1 {x : V} {us : List Value} (r : Vals [x] us) : ∃ u, us = [u] ∧ RelV x u := by
  cases r with
  | cons r1 r2 => cases r2; exact ⟨_, rfl, r1⟩
theorem vals2 {x y : V} {us : List Value} (r : Vals [x, y] us) : ∃ u w', us = [u, w'] ∧ RelV x u ∧ RelV y w' := by
  cases r with
  | cons r1 r2 =>
    cases r2 with
    | cons r3 r4 => cases r4; exact ⟨_, _, rfl, r1, r3⟩
theorem call_abs : CallR X (.builtin "abs") (fun xs H Q => ∃ i, xs = [.int i] ∧ Q (.int (if i < 0 then -i else i)) H) := by
  intro pins s σ H xs us Q I r h
  obtain ⟨i, rfl, q⟩ := h
  obtain ⟨u, rfl, t, rfl⟩ := vals1 r
  exact call_abs_int fun u tk => ⟨.int (if i < 0 then -i else i), H, I.tok _, ⟨_, rfl⟩, q⟩
theorem call_min2 (hc : X.calm = true) : CallR X (.builtin "min") (fun xs H Q => ∃ i j, xs = [.int i, .int j] ∧ Q (.int (if j < i then j else i)) H) := by
  intro pins s σ H xs us Q I r h
  obtain ⟨i, j, rfl, q⟩ := h
  obtain ⟨u, w', rfl, ⟨t, rfl⟩, ⟨t', rfl⟩⟩ := vals2 r
  refine min_two_ints (I.ok.hd hc) fun h' tk k => ⟨_, H, I.kept k, ?_, q⟩
  by_cases hj : j < i
  · rw [if_pos hj, if_pos hj]; exact ⟨_, rfl⟩
  · rw [if_neg hj, if_neg hj]; exact ⟨_, rfl⟩
end
end L2

namespace L2
open PySem PySem.Spec PyProof.Rows

structure ObjM (h : Heap) (x dx C : Addr) (mA : Str → Option Value) : Prop where
  obj : h.get? x = some (PySem.W.instObj C dx)
  ns : h.Ns1 dx mA
  ne : dx ≠ x

theorem lookIn_ns {h : Heap} {dx : Addr} {mA : Str → Option Value} (n : h.Ns1 dx mA) : ∃ od, h.get? dx = some od ∧ ∀ name, PySem.W.lookIn name od = some (mA name) := by
  obtain ⟨o, es, ep, ho, hd, hk, _, hm⟩ := n
  refine ⟨o, ho, fun name => ?_⟩
  have e := hm name
  unfold nsFind findBy at e
  rw [← Array.find?_toList] at e
  unfold PySem.W.lookIn
  rw [hd]
  dsimp only
  split
  · rename_i y q
    rw [q] at e
    exact congrArg some e
  · rename_i q
    rw [q] at e
    have a : es.toList.any (·.refKey) = false := by
      rw [List.any_eq_false]
      intro y hy
      obtain ⟨z, t, hkey⟩ := hk y (Array.mem_toList_iff.mp hy)
      simp [DictEntry.refKey, hkey]
    have a' : ¬ es.toList.any (·.refKey) = true := by rw [a]; exact Bool.false_ne_true
    rw [if_neg a']
    exact congrArg some e

theorem ObjM.look {h : Heap} {x dx C : Addr} {mA : Str → Option Value} (I : ObjM h x dx C mA) : ∃ od, PySem.W.InstAt h x (PySem.W.instObj C dx) C (some od) ∧ ∀ name, PySem.W.lookIn name od = some (mA name) :=
  let ⟨od, ho, hl⟩ := lookIn_ns I.ns
  ⟨od, ⟨I.obj, rfl, rfl, ho⟩, hl⟩

section
variable {prog : Program} {w : World} {A : Around} {E : Value → Shared → Prop} {s : Shared} {K : PySem.W.Frag} {x dx C f : Addr} {mA : Str → Option Value} {name : Str} {v : Value}

theorem get_map {expr : Bool} {Q : Value → Shared → Prop} (X : K.In s.heap) (I : ObjM s.heap x dx C mA) (hg : PySem.W.plainGet K C name = true) (hh : PySem.W.hasDictIn K C = true)
    (ha : PySem.W.findIn K (.ref C) name = some none) (hv : mA name = some v) (hv' : PySem.W.handedIn v = true) (h : Q v { s with toks := s.toks + 1 }) :
    wpAny (model prog w) A (getAttr (.ref x) name expr) Q E s := by
  obtain ⟨od, J, hl⟩ := I.look
  exact PySem.W.get_value X J (PySem.W.plainGet_of hg).1 (PySem.W.findObj_own hh ha rfl (by rw [hl, hv])) hv' h


theorem get_meth {pl : Sem Bool} {Q : Value × List Value → Shared → Prop} (X : K.In s.heap) (I : ObjM s.heap x dx C mA) (hg : PySem.W.plainGet K C name = true)
    (hf : PySem.W.findIn K (.ref C) name = some (some (.ref f))) (ht : PySem.W.isFn K (.ref f) = true) (hv : mA name = none) (h : Q (.ref f, [.ref x]) s) :
    wpAny (model prog w) A (getMethod (.ref x) name pl) Q E s := by
  obtain ⟨od, J, hl⟩ := I.look
  exact PySem.W.method_fn X J (PySem.W.plainGet_of hg).1 (PySem.W.plainGet_of hg).2 hf (beq_iff_eq.mp ht) (by show (PySem.W.lookIn name od).map (·.isSome) = some false; rw [hl, hv]; rfl) h

theorem set_map {ns : List Str} {Q : Unit → Shared → Prop} (X : K.In s.heap) (I : ObjM s.heap x dx C mA)
    (hs : PySem.W.findIn K (.ref C) "__setattr__" = some (some (.builtin "object.__setattr__"))) (hp : PySem.W.plainOver K C = true) (ht : PySem.W.takerIn K C name = some none) (hh : PySem.W.hasDictIn K C = true)
    (hw : PySem.Within mA ns) (hsz : ns.length ≤ sizeLine)
    (h : ∀ h', ObjM h' x dx C (fun y => if y = name then some v else mA y) → Heap.SameBut dx s.heap h' → Q () { s with heap := h', toks := s.toks + 2 }) :
    wpAny (model prog w) A (setAttr (.ref x) name v) Q E s := by
  obtain ⟨od, J, hl⟩ := I.look
  refine PySem.W.set_plain X J hs (PySem.W.osa_open (s := { s with toks := s.toks + 1 }) (r := none) X J hp ht fun b => ?_)
  obtain ⟨cd, hc, hd'⟩ := PySem.W.any_some hh
  have hx : s.heap.get? x = some ⟨.ref C, some dx, .plain, #[]⟩ := I.obj
  refine wpAny_bind (wpAny_pure (wpAny_bind (wpAny_bind (wpAny_loadPart hx (wpAny_bind (PySem.W.Looks.here (s := { s with toks := s.toks + 1 }) (PySem.W.looks_clsIn X hc) ?_))))))
  rw [hd']
  refine wpAny_pure (a := some dx) (wpAny_bind (wpAny_pure (wpAny_bind ?_)))
  refine wpAny_nsSet1 (s := { s with toks := s.toks + 1 }) I.ns fun h' hn2 hs2 => ?_
  obtain ⟨oD, esD, epD, hoD, hdD, hcD⟩ := hn2.count (PySem.Within.cons name v hw)
  refine wpAny_bind (wpAny_lookBehind hoD (by rw [hdD]; exact pastItsLine_dict (Nat.le_trans hcD (by rw [List.length_cons]; omega))) ?_)
  exact wpAny_pure (h _ ⟨(hs2.2 _ (Ne.symm I.ne)).trans I.obj, hn2, I.ne⟩ hs2)

theorem make_map {R : Result → Shared → Prop} {vs : List Value} {kw : List (Str × Value)} (X : K.In s.heap) (hm : PySem.W.makesIn K C = true)
    (hi : PySem.W.findIn K (.ref C) "__init__" = some (some (.ref f))) (hf : PySem.W.typeIn K (.ref f) = some (.type "function"))
    (h : codeAny (model prog w) (A.under (.builtin "type.__call__" ⟨.ref C :: vs, kw⟩)) (.call (.ref f) ⟨.ref (s.heap.objs.size + 1) :: vs, kw⟩) (PySem.W.InitBack (s.heap.objs.size + 1) R)
      { s with heap := (s.heap.push PySem.W.emptyDict).push (PySem.W.instObj C s.heap.objs.size) }) :
    codeAny (model prog w) A (.call (.ref C) ⟨vs, kw⟩) R s := by
  obtain ⟨hh, g, d, t, os⟩ := s
  exact PySem.W.make_core (PySem.W.makes_of X hm) (PySem.W.looks_findIn X hi) (fun self => PySem.W.bind_fn X self hf) (.inl rfl) h
end

def putF (f : Str) (v : V) : List (Str × V) → List (Str × V)
  | [] => [(f, v)]
  | (g, x) :: r => if g = f then (g, v) :: r else (g, x) :: putF f v r
theorem lookup_putF (f g : Str) (v : V) : ∀ fs : List (Str × V), (putF f v fs).lookup g = if g = f then some v else fs.lookup g
  | [] => by
    show List.lookup g [(f, v)] = _
    by_cases h : g = f
    · have hb : (g == f) = true := beq_iff_eq.mpr h
      simp only [List.lookup, hb, if_pos h]
    · have hb : (g == f) = false := beq_eq_false_iff_ne.mpr h
      simp only [List.lookup, hb, if_neg h]
  | (k, x) :: r => by
    have ih := lookup_putF f g v r
    rw [show putF f v ((k, x) :: r) = (if k = f then (k, v) :: r else (k, x) :: putF f v r) from rfl]
    by_cases hk : k = f
    · rw [if_pos hk]
      by_cases h : g = k
      · have hb : (g == k) = true := beq_iff_eq.mpr h
        simp only [List.lookup, hb, if_pos (h.trans hk)]
      · have hb : (g == k) = false := beq_eq_false_iff_ne.mpr h
        simp only [List.lookup, hb, if_neg (fun e : g = f => h (e.trans hk.symm))]
    · rw [if_neg hk]
      by_cases h : g = k
      · have hb : (g == k) = true := beq_iff_eq.mpr h
        simp only [List.lookup, hb, if_neg (fun e : g = f => hk (h.symm.trans e))]
      · have hb : (g == k) = false := beq_eq_false_iff_ne.mpr h
        simp only [List.lookup, hb]
        exact ih
theorem keys_putF (f : Str) (v : V) : ∀ fs : List (Str × V), f ∈ (putF f v fs).map (·.1) ∧ ∀ g, g ∈ fs.map (·.1) → g ∈ (putF f v fs).map (·.1)
  | [] => ⟨by simp [putF], fun g h => by simp at h⟩
  | (k, x) :: r => by
    obtain ⟨i1, i2⟩ := keys_putF f v r
    rw [show putF f v ((k, x) :: r) = (if k = f then (k, v) :: r else (k, x) :: putF f v r) from rfl]
    by_cases hk : k = f
    · rw [if_pos hk]
      subst hk
      exact ⟨by simp, fun g h => by simpa using h⟩
    · rw [if_neg hk]
      refine ⟨?_, fun g h => ?_⟩
      · rw [List.map_cons]
        exact List.mem_cons_of_mem _ i1
      · rw [List.map_cons] at h ⊢
        rcases List.mem_cons.mp h with e | e
        · exact List.mem_cons.mpr (.inl e)
        · exact List.mem_cons_of_mem _ (i2 g e)
theorem length_putF (f : Str) (v : V) : ∀ fs : List (Str × V), (putF f v fs).length ≤ fs.length + 1
  | [] => by simp [putF]
  | (k, x) :: r => by
    have ih := length_putF f v r
    rw [show putF f v ((k, x) :: r) = (if k = f then (k, v) :: r else (k, x) :: putF f v r) from rfl]
    by_cases hk : k = f
    · rw [if_pos hk, List.length_cons, List.length_cons]; omega
    · rw [if_neg hk, List.length_cons, List.length_cons]; omega

theorem RelO.some_of {v : V} {o : Option Value} (r : RelO (some v) o) : ∃ u, o = some u ∧ RelV v u := by
  cases o with
  | none => exact (show False from r).elim
  | some u => exact ⟨u, rfl, r⟩
theorem RelO.none_of {o : Option Value} (r : RelO none o) : o = none := by
  cases o with
  | none => rfl
  | some u => exact (show False from r).elim
theorem handed_of {v : V} {u : Value} (r : RelV v u) : PySem.W.handedIn u = true := by
  cases v with
  | non => cases (show u = Value.none from r); rfl
  | bl b => cases (show u = Value.bool b from r); rfl
  | int i => obtain ⟨t, e⟩ := (show ∃ t, u = Value.int i t from r); cases e; rfl
  | str x => obtain ⟨t, e⟩ := (show ∃ t, u = Value.str x t from r); cases e; rfl
  | byt b => obtain ⟨t, e⟩ := (show ∃ t, u = Value.bytes b t from r); cases e; rfl
  | flt b => obtain ⟨t, e⟩ := (show ∃ t, u = Value.float b t from r); cases e; rfl
  | ref a => cases (show u = Value.ref a from r); rfl
  | ty n => cases (show u = Value.type n from r); rfl

section
variable {P : Program} {w : World} {H H' : Hp} {h h' : Heap} {a C dx : Addr} {fs fs' : List (Str × V)}
theorem ins_get (hok : HOk P w H h) (e : H a = some (.ins C dx fs)) : ∃ mA, ObjM h a dx C mA ∧ (∀ f, RelO (fs.lookup f) (mA f)) ∧ PySem.Within mA (fs.map (·.1)) ∧ fs.length ≤ 1000 ∧ H dx = some (.own a) := by
  obtain ⟨d, z, ne, ob, mA, n, r, q⟩ := (show ObjOk P w H h a (.ins C dx fs) from hok a _ e)
  exact ⟨mA, ⟨ob, n, ne⟩, r, q, z, d⟩
end

structure Cls (K : PySem.W.Frag) (C : Addr) : Prop where
  pg : PySem.W.plainGet K C Str.empty = true
  hd : PySem.W.hasDictIn K C = true
  po : PySem.W.plainOver K C = true
  sa : PySem.W.findIn K (.ref C) "__setattr__" = some (some (.builtin "object.__setattr__"))
theorem Cls.get {K : PySem.W.Frag} {C : Addr} (c : Cls K C) (f : Str) : PySem.W.plainGet K C f = true := c.pg
def NoAttr (K : PySem.W.Frag) (C : Addr) (f : Str) : Prop := PySem.W.findIn K (.ref C) f = some none
theorem NoAttr.taker {K : PySem.W.Frag} {C : Addr} {f : Str} (n : NoAttr K C f) : PySem.W.takerIn K C f = some none := by
  unfold PySem.W.takerIn
  rw [show PySem.W.findIn K (.ref C) f = some none from n]
  rfl
structure Meth (K : PySem.W.Frag) (C : Addr) (m : Str) (f : Addr) : Prop where
  at_ : PySem.W.findIn K (.ref C) m = some (some (.ref f))
  fn : PySem.W.isFn K (.ref f) = true
  kp : PySem.W.keepIn K (.ref f) = true

section
variable {X : Cx} {pins : List (Addr × Obj)} {σ : St} {H : Hp} {s : Shared} {a C dx : Addr} {fs : List (Str × V)} {f : Str} {v : V} {A : Around} {E : Value → Shared → Prop}

theorem getattr_ok {b : Bool} {Q : Value → Shared → Prop} (I : Inv X pins σ H s) (e : H a = some (.ins C dx fs)) (c : Cls X.K C) (n : NoAttr X.K C f) (l : fs.lookup f = some v)
    (h : ∀ u s', Inv X pins σ H s' → RelV v u → Q u s') : wpAny (model X.prog X.w) A (getAttr (.ref a) f b) Q E s := by
  obtain ⟨mA, O, r, _, _, _⟩ := ins_get I.hok e
  obtain ⟨u, hu, ru⟩ := RelO.some_of (v := v) (o := mA f) (by rw [← l]; exact r f)
  exact get_map I.kIn O (c.get f) c.hd n hu (handed_of ru) (h u _ (I.tok _) ru)


theorem getmeth_ok {m : Str} {g : Addr} {pl : Sem Bool} {Q : Value × List Value → Shared → Prop} (I : Inv X pins σ H s) (e : H a = some (.ins C dx fs)) (c : Cls X.K C) (k : Meth X.K C m g) (l : fs.lookup m = none)
    (h : Q (.ref g, [.ref a]) s) : wpAny (model X.prog X.w) A (getMethod (.ref a) m pl) Q E s := by
  obtain ⟨mA, O, r, _, _, _⟩ := ins_get I.hok e
  have hn : mA m = none := RelO.none_of (by rw [← l]; exact r m)
  exact get_meth I.kIn O (c.get m) k.at_ k.fn hn h

theorem setattr_ok {y : V} {u : Value} {Q : Unit → Shared → Prop} (I : Inv X pins σ H s) (e : H a = some (.ins C dx fs)) (c : Cls X.K C) (n : NoAttr X.K C f) (hl : fs.length < 1000) (ry : RelV y u)
    (h : ∀ s', Inv X pins σ (upd H a (.ins C dx (putF f y fs))) s' → Q () s') : wpAny (model X.prog X.w) A (setAttr (.ref a) f u) Q E s := by
  obtain ⟨mA, O, r, wi, _, ho⟩ := ins_get I.hok e
  have hz : (fs.map (·.1)).length ≤ sizeLine := by rw [List.length_map, sizeLine_eq]; omega
  refine set_map I.kIn O c.sa c.po n.taker c.hd wi hz fun h' O' sb => h _ ?_
  have hd : ∃ o, h'.get? dx = some o := let ⟨o, _, _, e', _⟩ := O'.ns; ⟨o, e'⟩
  refine I.write (x := a) (e := dx) (by rw [e]; exact True.intro) (.inr ho) (fun b q hb z => (sb.2 b hb).trans z) hd ?_
  refine ⟨by rw [upd_ne O.ne]; exact ho, ?_, O.ne, O'.obj, _, O'.ns, fun g => ?_, fun g hg => ?_⟩
  · have := length_putF f y fs; omega
  · show RelO ((putF f y fs).lookup g) (if g = f then some u else mA g)
    rw [lookup_putF]
    by_cases q : g = f
    · rw [if_pos q, if_pos q]; exact ry
    · rw [if_neg q, if_neg q]; exact r g
  · by_cases q : g = f
    · rw [q]; exact (keys_putF f y fs).1
    · refine (keys_putF f y fs).2 g (wi g fun z => hg ?_)
      show (if g = f then some u else mA g) = none
      rw [if_neg q]; exact z

theorem Inv.made (I : Inv X pins σ H s) : Inv X pins σ (upd (upd H s.heap.objs.size (.own (s.heap.objs.size + 1))) (s.heap.objs.size + 1) (.ins C s.heap.objs.size []))
    { s with heap := (s.heap.push PySem.W.emptyDict).push (PySem.W.instObj C s.heap.objs.size) } := by
  have e1 : (s.heap.push PySem.W.emptyDict).get? s.heap.objs.size = some PySem.W.emptyDict := Heap.get?_push_size s.heap rfl
  have e2 : ((s.heap.push PySem.W.emptyDict).push (PySem.W.instObj C s.heap.objs.size)).get? (s.heap.objs.size + 1) = some (PySem.W.instObj C s.heap.objs.size) := by
    have := Heap.get?_push_size (s.heap.push PySem.W.emptyDict) (o := PySem.W.instObj C s.heap.objs.size) rfl
    rwa [Heap.size_push] at this
  have e3 : (s.heap.push PySem.W.emptyDict).Ns s.heap.objs.size (fun _ => none) := ⟨PySem.W.emptyDict, #[], _, e1, rfl, (fun e he => absurd he (by simp)), fun _ => rfl⟩
  have I1 := I.laid (a := s.heap.objs.size) (o := .own (s.heap.objs.size + 1)) (h' := s.heap.push PySem.W.emptyDict) (t' := s.toks) (fun b u q => Heap.get?_push_of_some _ q) (Nat.le_refl _) ⟨_, e1⟩
  refine I1.laid (a := s.heap.objs.size + 1) (o := .ins C s.heap.objs.size []) (t' := s.toks) (fun b u q => Heap.get?_push_of_some _ q) (Nat.le_of_eq (Heap.size_push _ _)) ?_
  have ne : s.heap.objs.size ≠ s.heap.objs.size + 1 := Nat.ne_of_lt (Nat.lt_succ_self _)
  refine ⟨by rw [upd_ne ne, upd_same], Nat.zero_le _, ne, e2, fun _ => none, (Heap.Ns1.of_empty e3).at fun o q => Heap.get?_push_of_some _ q, fun _ => True.intro, fun y hy => absurd rfl hy⟩

theorem attr_of {prog : Program} {w : World} {env : Env} {e : Expr} {f : Str} {pos : Pos} {s : Shared} {Q : Value → Shared → Prop} (hb : attributeBase e f env (eval e env) = eval e env)
    (h : wpAny (model prog w) A (eval e env) (fun o s₁ => wpAny (model prog w) A (getAttr o f true) Q E s₁) E s) : wpAny (model prog w) A (eval (.Attribute e f pos) env) Q E s :=
  Attribute_any_ h (by rw [arm_eval_Attribute, hb])
end

def tFld (K : PySem.W.Frag) (ta : TE) (f : Str) : TE := fun σ H Q => ta σ H fun x H1 => ∃ a C dx fs v, x = .ref a ∧ H1 a = some (.ins C dx fs) ∧ Cls K C ∧ NoAttr K C f ∧ fs.lookup f = some v ∧ Q v H1
def sFld (K : PySem.W.Frag) (ta tv : TE) (f : Str) : TS := fun D σ H => tv σ H fun y H1 => ta σ H1 fun x H2 => ∃ a C dx fs, x = .ref a ∧ H2 a = some (.ins C dx fs) ∧ Cls K C ∧ NoAttr K C f ∧ fs.length < 1000 ∧
  D.nx σ (upd H2 a (.ins C dx (putF f y fs)))
def InOp (X : Cx) (op : Operator) (rd : V → V → Hp → VK → Prop) : Prop :=
  ∀ (pins : List (Addr × Obj)) (s : Shared) (σ : St) (H : Hp) (x y : V) (u v : Value) (Q : VK), Inv X pins σ H s → RelV x u → RelV y v → rd x y H Q → wpAny (model X.prog X.w) X.A (inplaceOp op u v) (EP X pins σ Q) X.xe s
def sFldAug (K : PySem.W.Frag) (ta tv : TE) (rd : V → V → Hp → VK → Prop) (f : Str) : TS := fun D σ H => ta σ H fun x H1 => ∃ a C dx fs v, x = .ref a ∧ H1 a = some (.ins C dx fs) ∧ Cls K C ∧ NoAttr K C f ∧ fs.lookup f = some v ∧
  tv σ H1 fun y H2 => rd v y H2 fun z H3 => ∃ dx' fs', H3 a = some (.ins C dx' fs') ∧ fs'.length < 1000 ∧ D.nx σ (upd H3 a (.ins C dx' (putF f z fs')))

section
variable {X : Cx} {o e value : Expr} {f : Str} {pos pos' tpos : Pos} {ta tv : TE}
theorem pe_fld (he : PE X e ta) (hb : attributeBase e f X.env (eval e X.env) = eval e X.env) : PE X (.Attribute e f pos) (tFld X.K ta f) := by
  intro pins s σ H Q I h
  refine attr_of hb (thn (he pins s σ H _ I h) fun u s1 ⟨x, H1, I1, rx, a, C, dx, fs, v, ex, ea, c, n, l, q⟩ => ?_)
  subst ex
  obtain rfl : u = Value.ref a := rx
  exact getattr_ok I1 ea c n l fun u' s2 I2 ru => ⟨v, H1, I2, ru, q⟩
theorem ps_fld (ha : PE X o ta) (hv : PE X value tv) (hs : swapsWith value (some (.Attribute o f pos')) pos.line X.env = pure false) : PS X (.Assign [.Attribute o f pos'] value pos) (sFld X.K ta tv f) := by
  intro pins s σ H D I h
  refine plainObj_wpAny_Assign_Attribute (thn (hv pins s σ H _ I h) fun u s1 ⟨y, H1, I1, ry, q⟩ => thn (ha pins s1 σ H1 _ I1 q) fun ov s2 ⟨x, H2, I2, rx, a, C, dx, fs, ex, ea, c, n, l, q2⟩ => ?_) hs
  subst ex
  obtain rfl : ov = Value.ref a := rx
  exact setattr_ok I2 ea c n l ry fun s3 I3 => ⟨σ, _, I3, q2⟩
theorem ps_fldaug {op : Operator} {rd : V → V → Hp → VK → Prop} (ha : PE X o ta) (hv : PE X value tv) (hop : InOp X op rd) : PS X (.AugAssign (.Attribute o f tpos) op value pos) (sFldAug X.K ta tv rd f) := by
  intro pins s σ H D I h
  refine wpAny_AugAssign_AttributeAny (thn (ha pins s σ H _ I h) fun ov s1 ⟨x, H1, I1, rx, a, C, dx, fs, v, ex, ea, c, n, l, q⟩ => ?_)
  subst ex
  obtain rfl : ov = Value.ref a := rx
  refine getattr_ok I1 ea c n l fun u s2 I2 ru => thn (hv pins s2 σ H1 _ I2 q) fun w3 s3 ⟨y, H2, I3, ry, q3⟩ => thn (hop pins s3 σ H2 v y u w3 _ I3 ru ry q3) fun w4 s4 ⟨z, H3, I4, rz, dx', fs', ea', l', q4⟩ => ?_
  exact setattr_ok I4 ea' c n l' rz fun s5 I5 => ⟨σ, _, I5, q4⟩
def rAdd : V → V → Hp → VK → Prop := fun x y H Q => ∃ i j, x = .int i ∧ y = .int j ∧ Q (.int (i + j)) H
def rSub : V → V → Hp → VK → Prop := fun x y H Q => ∃ i j, x = .int i ∧ y = .int j ∧ Q (.int (i - j)) H
theorem in_add : InOp X .Add rAdd := by
  rintro pins s σ H x y u v Q I rx ry ⟨i, j, rfl, rfl, q⟩
  obtain ⟨t, rfl⟩ := (show ∃ t, u = Value.int i t from rx)
  obtain ⟨t', rfl⟩ := (show ∃ t', v = Value.int j t' from ry)
  exact PyProof.Rows.iadd_int ⟨.int (i + j), H, I.tok _, ⟨_, rfl⟩, q⟩
theorem in_sub : InOp X .Sub rSub := by
  rintro pins s σ H x y u v Q I rx ry ⟨i, j, rfl, rfl, q⟩
  obtain ⟨t, rfl⟩ := (show ∃ t, u = Value.int i t from rx)
  obtain ⟨t', rfl⟩ := (show ∃ t', v = Value.int j t' from ry)
  exact PyProof.Rows.isub_int ⟨.int (i - j), H, I.tok _, ⟨_, rfl⟩, q⟩

end

section
variable {X : Cx} {pins : List (Addr × Obj)} {σ : St} {H : Hp} {s : Shared} {A : Around} {E : Value → Shared → Prop} {Q : Value → Shared → Prop} {c : Value} {b : Bool}
end
end L2

namespace L2
open PySem PySem.Spec PyProof.Rows

structure Room (k : Nat) (A : Around) : Prop where
  hd : A.handled = none
  dp : A.depth + 3 * k + 5 < recursionLimit
  un : A.units + 16 * k + 200 < cLine
theorem Room.mono {j k : Nat} {A : Around} (r : Room k A) (h : j ≤ k) : Room j A := ⟨r.hd, by have := r.dp; omega, by have := r.un; omega⟩
theorem Room.deeper {k : Nat} {A : Around} (r : Room (k + 1) A) (env : Env) : Room k (A.deeper env) :=
  ⟨r.hd, by have := r.dp; show A.depth + 1 + 3 * k + 5 < _; omega, by have := r.un; show A.units + 3 + 16 * k + 200 < _; omega⟩
theorem Room.in1 {k : Nat} {A : Around} (r : Room (k + 1) A) : Room k A.in1 :=
  ⟨r.hd, by have := r.dp; show A.depth + 3 * k + 5 < _; omega, by have := r.un; show A.units + 1 + 16 * k + 200 < _; omega⟩
theorem make_depth {A : Around} {C : Addr} {us : List Value} {kw : List (Str × Value)} : (A.under (.builtin "type.__call__" ⟨.ref C :: us, kw⟩)).depth = A.depth + 1 := by
  first | rfl | simp [Around.under, Code.weight, Code.isCreation, Code.isGuard, Code.isCaller, Code.frames, Code.isFrame, guardIds]
theorem make_units {A : Around} {C : Addr} {us : List Value} {kw : List (Str × Value)} : (A.under (.builtin "type.__call__" ⟨.ref C :: us, kw⟩)).units = A.units + 1 := by
  first | rfl | simp [Around.under, Code.cUnits, Code.frames, Code.isFrame]
theorem Room.make {k : Nat} {A : Around} (r : Room (k + 1) A) (C : Addr) (us : List Value) (kw : List (Str × Value)) : Room k (A.under (.builtin "type.__call__" ⟨.ref C :: us, kw⟩)) :=
  ⟨r.hd, by have := r.dp; rw [make_depth]; omega, by have := r.un; rw [make_units]; omega⟩
theorem Room.depth {k : Nat} {A : Around} (r : Room k A) : A.depth < recursionLimit := by have := r.dp; omega
theorem Room.units {k : Nat} {A : Around} (r : Room k A) : A.units + 64 < cLine := by have := r.un; omega

def tNil : TA := fun _ H Q => Q [] H
def tCons (ta : TE) (tr : TA) : TA := fun σ H Q => ta σ H fun x H1 => tr σ H1 fun xs H2 => Q (x :: xs) H2
section
variable {X : Cx} {e : Expr} {es : List Expr} {te : TE} {t : TA} {pos : Pos}
theorem pa_nil : PA X [] tNil := fun _ _ _ _ H Q I h => Calls.spliced_nil ⟨[], H, I, .nil, h⟩
theorem pa_cons (ha : PE X e te) (hr : PA X es t) (hs : starEach (e :: es) X.env = (false, eval e X.env) :: starEach es X.env := by rfl) : PA X (e :: es) (tCons te t) := by
  intro pos pins s σ H Q I h
  rw [hs]
  show wpAny _ _ (spliced ((false, eval e X.env) :: backTo pos (starEach es X.env))) _ _ s
  refine Calls.spliced_cons (thn (ha pins s σ H _ I h) fun u s1 ⟨x, H1, I1, r1, q1⟩ => ?_)
  exact thn (hr pos pins s1 σ H1 _ I1 q1) fun us s2 ⟨xs, H2, I2, r2, q2⟩ => ⟨x :: xs, H2, I2, .cons r1 r2, q2⟩

def tTup (t : TA) : TE := fun σ H Q => t σ H fun xs H1 => xs.length ≤ sizeLine ∧ ∀ p, H1 p = none → Q (.ref p) (upd H1 p (.tup xs))
def tLst (t : TA) : TE := fun σ H Q => t σ H fun xs H1 => xs.length ≤ sizeLine ∧ ∀ p, H1 p = none → Q (.ref p) (upd H1 p (.lst xs))
theorem pe_tup {x1} (h : PA X es t) : PE X (.Tuple es x1 pos) (tTup t) := by
  intro pins s σ H Q I hq
  refine wpAny_Tuple_spliced (thn (h pos pins s σ H _ I hq) fun us s1 ⟨xs, H1, I1, r, z, q⟩ => ⟨by rw [← r.length]; exact z, ?_⟩)
  have hf : H1 s1.heap.objs.size = none := I1.hok.fresh (Nat.le_refl _)
  refine ⟨.ref s1.heap.objs.size, upd H1 s1.heap.objs.size (.tup xs), I1.laid (t' := s1.toks) (fun b u e => Heap.get?_push_of_some _ e) (Nat.le_refl _) ?_, rfl, q _ hf⟩
  exact ⟨z, us, r, ⟨_, Heap.get?_push_size _ rfl, rfl, _, rfl⟩⟩
theorem pe_lst (h : PA X es t) : PE X (.List es pos) (tLst t) := by
  intro pins s σ H Q I hq
  refine wpAny_List_spliced (thn (h pos pins s σ H _ I hq) fun us s1 ⟨xs, H1, I1, r, z, q⟩ => ⟨by rw [← r.length]; exact z, ?_⟩)
  have hf : H1 s1.heap.objs.size = none := I1.hok.fresh (Nat.le_refl _)
  refine ⟨.ref s1.heap.objs.size, upd H1 s1.heap.objs.size (.lst xs), I1.laid (t' := s1.toks) (fun b u e => Heap.get?_push_of_some _ e) (Nat.le_refl _) ?_, rfl, q _ hf⟩
  exact ⟨z, us, 0, r, Heap.get?_push_size _ rfl⟩
end

abbrev Sp := List V → Hp → VK → XK → Prop
abbrev CXT := List Env → Hp → Shared → XK → Value → Shared → Prop

structure Env0 (P : Program) (w : World) (K : PySem.W.Frag) (mg : Str → Option Value) (base : Heap) (A : Around) (outer : List Env) (s : Shared) (H : Hp) : Prop where
  frames : A.frames = some outer
  mod : Mod K mg base
  bs : ∀ b o, base.get? b = some o → s.heap.get? b = some o ∧ H b = none
  bsz : base.objs.size ≤ s.heap.objs.size
  funs : s.heap.FunFrames base outer
  frf : ∀ b ∈ frs outer, H b = none
  hok : HOk P w H s.heap
  bare : AllBare s.gens
def CE (outer : List Env) (P : Program) (w : World) (H : Hp) (s : Shared) (Q : VK) (u : Value) (s' : Shared) : Prop :=
  ∃ v H', s'.os = s.os ∧ AllBare s'.gens ∧ Un (frs outer) [] H H' s.heap s'.heap ∧ HOk P w H' s'.heap ∧ RelV v u ∧ Q v H'
def CR (CX : CXT) (outer : List Env) (P : Program) (w : World) (H : Hp) (s : Shared) (Q : VK) (E : XK) (r : Result) (s' : Shared) : Prop :=
  match r with
  | .ok (.ret u) => CE outer P w H s Q u s'
  | .ok _ => False
  | .error e => CX outer H s E e s'
structure FnOk (P : Program) (w : World) (K : PySem.W.Frag) (mg : Str → Option Value) (base : Heap) (CX : CXT) (k : Nat) (f : Addr) (fd : FuncData) (ps : List Str) (sp : Sp) : Prop where
  len : ∀ vs H Q E, sp vs H Q E → vs.length = ps.length
  run : ∀ (A : Around) (outer : List Env) (s : Shared) (H : Hp) (args : Args) (us : List Value) (vs : List V) (Q : VK) (E : XK), Room k A → Env0 P w K mg base A outer s H → BindsTo s fd args (ps.zip us) → Vals vs us → sp vs H Q E →
    codeAny (model P w) A (.call (.ref f) args) (CR CX outer P w H s Q E) s
theorem FnOk.mono {P : Program} {w : World} {K : PySem.W.Frag} {mg : Str → Option Value} {base : Heap} {CX : CXT} {j k : Nat} {f : Addr} {fd : FuncData} {ps : List Str} {sp : Sp} (F : FnOk P w K mg base CX j f fd ps sp) (h : j ≤ k) :
    FnOk P w K mg base CX k f fd ps sp := ⟨F.len, fun A outer s H args us vs Q E hr => F.run A outer s H args us vs Q E (hr.mono h)⟩
theorem FnOk.imp {P : Program} {w : World} {K : PySem.W.Frag} {mg : Str → Option Value} {base : Heap} {CX : CXT} {k : Nat} {f : Addr} {fd : FuncData} {ps : List Str} {sp sp' : Sp} (F : FnOk P w K mg base CX k f fd ps sp)
    (h : ∀ vs H Q E, sp' vs H Q E → sp vs H Q E) : FnOk P w K mg base CX k f fd ps sp' :=
  ⟨fun vs H Q E q => F.len vs H Q E (h _ _ _ _ q), fun A outer s H args us vs Q E hr he hb hv hs => F.run A outer s H args us vs Q E hr he hb hv (h _ _ _ _ hs)⟩

theorem Env0.make {P : Program} {w : World} {K : PySem.W.Frag} {mg : Str → Option Value} {base : Heap} {A : Around} {outer : List Env} {s : Shared} {H : Hp} (e : Env0 P w K mg base A outer s H) (C : Addr) (us : List Value) (kw : List (Str × Value)) :
    Env0 P w K mg base (A.under (.builtin "type.__call__" ⟨.ref C :: us, kw⟩)) outer s H := ⟨by first | exact e.frames | (simpa [Around.under, Code.envs, Code.isFrame, pushEnvs] using e.frames), e.mod, e.bs, e.bsz, e.funs, e.frf, e.hok, e.bare⟩
theorem Env0.in1 {P : Program} {w : World} {K : PySem.W.Frag} {mg : Str → Option Value} {base : Heap} {A : Around} {outer : List Env} {s : Shared} {H : Hp} (e : Env0 P w K mg base A outer s H) :
    Env0 P w K mg base A.in1 outer s H := ⟨e.frames, e.mod, e.bs, e.bsz, e.funs, e.frf, e.hok, e.bare⟩

section
variable {X : Cx} {pins : List (Addr × Obj)} {σ : St} {H : Hp} {s s' : Shared}
theorem Inv.env0 (I : Inv X pins σ H s) : Env0 X.prog X.w X.K X.mg X.base X.A X.stack s H :=
  ⟨I.ok.frames, I.ok.mod, I.bs, Nat.le_trans I.ok.bsz I.sz, I.stack, I.stkFree, I.hok, I.bare⟩
theorem Inv.after {Q : VK} {u : Value} (I : Inv X pins σ H s) (h : CE X.stack X.prog X.w H s Q u s') : EP X pins σ Q u s' := by
  obtain ⟨v, H', os, bare, un, hok, r, q⟩ := h
  obtain ⟨hh, g, d, t, os'⟩ := s'
  obtain rfl : os' = s.os := os
  exact ⟨v, H', I.call (h' := hh) (g' := g) (d' := d) (t' := t) (ch := []) un hok bare (fun b z => absurd z (by simp)), r, q⟩
end

def tCall (sp : Sp) (dvs : List V) (E : XK) (t : TA) : TE := fun σ H Q => t σ H fun vs H1 => sp (vs ++ dvs) H1 Q E
def tMeth (C : Addr) (m : Str) (sp : Sp) (dvs : List V) (E : XK) (ta : TE) (t : TA) : TE := fun σ H Q => ta σ H fun x H1 => ∃ a dx fs, x = .ref a ∧ H1 a = some (.ins C dx fs) ∧ fs.lookup m = none ∧
  t σ H1 fun vs H2 => sp (x :: (vs ++ dvs)) H2 Q E
def tMake (C : Addr) (sp : Sp) (dvs : List V) (E : XK) (t : TA) : TE := fun σ H Q => t σ H fun vs H1 => ∀ x dx, H1 x = none → H1 dx = none → dx ≠ x →
  sp (.ref x :: (vs ++ dvs)) (upd (upd H1 dx (.own x)) x (.ins C dx [])) (fun v H2 => v = .non ∧ Q (.ref x) H2) E

def Binds (K : PySem.W.Frag) (fd : FuncData) (ps : List Str) (ds : List Value) : Prop :=
  ∀ (s : Shared) (us : List Value), K.In s.heap → (us ++ ds).length = ps.length → BindsTo s fd ⟨us, []⟩ (ps.zip (us ++ ds))
theorem Binds.all {K : PySem.W.Frag} {fd : FuncData} {ps : List Str} (h : ∀ us : List Value, us.length = ps.length → bindArgs fd ⟨us, []⟩ = pure (ps.zip us)) : Binds K fd ps [] := fun s us _ hl => by
  rw [List.append_nil] at hl ⊢
  exact .of_eq (h us hl)

def Passes (CX : CXT) (X : Cx) (E : XK) : Prop := ∀ (pins : List (Addr × Obj)) (σ : St) (H : Hp) (s : Shared) (e : Value) (s' : Shared), Inv X pins σ H s → CX X.stack H s E e s' → X.xe e s'

section
variable {X : Cx} {CX : CXT} {k : Nat} {f C : Addr} {fd : FuncData} {ps : List Str} {sp : Sp} {dvs : List V} {ds : List Value} {E : XK} {x m : Str} {p pos apos : Pos} {e o : Expr} {es : List Expr} {ta : TE} {t : TA}

theorem run_fn {pins : List (Addr × Obj)} {σ : St} {H : Hp} {s : Shared} {Q : VK} {us : List Value} {vs : List V} (F : FnOk X.prog X.w X.K X.mg X.base CX k f fd ps sp) (hr : Room k X.A) (hb : Binds X.K fd ps ds) (hd : Vals dvs ds) (hx : Passes CX X E)
    (I : Inv X pins σ H s) (r : Vals vs us) (h : sp (vs ++ dvs) H Q E) : wpAny (model X.prog X.w) X.A (call (.ref f) us) (EP X pins σ Q) X.xe s := by
  have r2 : Vals (vs ++ dvs) (us ++ ds) := r.append hd
  have hl : (us ++ ds).length = ps.length := by rw [← r2.length]; exact F.len _ _ _ _ h
  refine wpAny_call (codeAny_mono (F.run X.A X.stack s H ⟨us, []⟩ (us ++ ds) (vs ++ dvs) Q E hr I.env0 (hb s us I.kIn hl) r2 h) fun r s' hq => ?_)
  cases r with
  | error e => exact hx pins σ H s e s' I hq
  | ok fl =>
    cases fl with
    | ret u => exact I.after hq
    | next => exact False.elim hq
    | brk => exact False.elim hq
    | cont => exact False.elim hq

theorem pe_call (F : FnOk X.prog X.w X.K X.mg X.base CX k f fd ps sp) (hr : Room k X.A) (hg : Gl X x) (hm : X.mg x = some (.ref f)) (hk : PySem.W.keepIn X.K (.ref f) = true) (hb : Binds X.K fd ps ds) (hd : Vals dvs ds) (hx : Passes CX X E)
    (ha : PA X (e :: es) t) (hdb : (x == ("__debug__" : Str)) = false := by decide) (he : starEach (e :: es) X.env = (false, eval e X.env) :: starEach es X.env := by rfl) (hpl : (backTo pos (starEach es X.env)).any (·.1) = false := by rfl) :
    PE X (.Call (.Name x p) (e :: es) [] pos) (tCall sp dvs E t) := by
  intro pins s σ H Q I h
  refine wpAny_Call_Name_kw (ld_glob I hg hm ?_ hdb)
  refine PySem.W.callWith_K (h₀ := X.base) I.ok.mod.kin hk (thn (ha pos pins s σ H _ I h) fun us s1 ⟨vs, H1, I1, r, q⟩ => ⟨I1.kIn, ?_⟩) he hpl
  exact run_fn F hr hb hd hx I1 r q
theorem pe_call0 (F : FnOk X.prog X.w X.K X.mg X.base CX k f fd ps sp) (hr : Room k X.A) (hg : Gl X x) (hm : X.mg x = some (.ref f)) (hk : PySem.W.keepIn X.K (.ref f) = true) (hb : Binds X.K fd ps ds) (hd : Vals dvs ds) (hx : Passes CX X E)
    (hdb : (x == ("__debug__" : Str)) = false := by decide) : PE X (.Call (.Name x p) [] [] pos) (tCall sp dvs E tNil) := by
  intro pins s σ H Q I h
  refine wpAny_Call_Name_kw (ld_glob I hg hm ?_ hdb)
  exact PySem.W.callWith_K0 I.kIn hk (run_fn (us := []) F hr hb hd hx I .nil h)

theorem pe_meth {pl : Sem Bool} (he : PE X o ta) (c : Cls X.K C) (hm : Meth X.K C m f) (F : FnOk X.prog X.w X.K X.mg X.base CX k f fd ps sp) (hr : Room k X.A) (hb : Binds X.K fd ps ds) (hd : Vals dvs ds) (hx : Passes CX X E) (ha : PA X (e :: es) t)
    (hst : starEach (e :: es) X.env = (false, eval e X.env) :: starEach es X.env := by rfl) (hpl : (backTo pos (starEach es X.env)).any (·.1) = false := by rfl)
    (ht : eval (.Call (.Attribute o m apos) (e :: es) [] pos) X.env = (do
      let ov ← eval o X.env
      standAt apos.atName
      let (f, first) ← holding [ov] (getMethod ov m pl)
      callWith pos f first (backTo pos (starEach (e :: es) X.env)) (backToKw pos (keywordEach [] X.env))) := by rfl) :
    PE X (.Call (.Attribute o m apos) (e :: es) [] pos) (tMeth C m sp dvs E ta t) := by
  intro pins s σ H Q I h
  refine PySem.W.methodCall_KW (pl := pl) (thn (he pins s σ H _ I h) fun u s1 ⟨x, H1, I1, rx, a, dx, fs, ex, ea, l, q⟩ => ?_) ht
  subst ex
  obtain rfl : u = Value.ref a := rx
  refine getmeth_ok I1 ea c hm l ?_
  refine PySem.W.callWith_K (first := [.ref a]) (h₀ := X.base) I.ok.mod.kin hm.kp (thn (ha pos pins s1 σ H1 _ I1 q) fun us s2 ⟨vs, H2, I2, r, q2⟩ => ⟨I2.kIn, ?_⟩) hst hpl
  exact run_fn (us := .ref a :: us) (vs := .ref a :: vs) F hr hb hd hx I2 (.cons rfl r) q2
theorem pe_meth0 {pl : Sem Bool} (he : PE X o ta) (c : Cls X.K C) (hm : Meth X.K C m f) (F : FnOk X.prog X.w X.K X.mg X.base CX k f fd ps sp) (hr : Room k X.A) (hb : Binds X.K fd ps ds) (hd : Vals dvs ds) (hx : Passes CX X E)
    (ht : eval (.Call (.Attribute o m apos) [] [] pos) X.env = (do
      let ov ← eval o X.env
      standAt apos.atName
      let (f, first) ← holding [ov] (getMethod ov m pl)
      callWith pos f first (backTo pos (starEach [] X.env)) (backToKw pos (keywordEach [] X.env))) := by rfl) :
    PE X (.Call (.Attribute o m apos) [] [] pos) (tMeth C m sp dvs E ta tNil) := by
  intro pins s σ H Q I h
  refine PySem.W.methodCall_KW (pl := pl) (thn (he pins s σ H _ I h) fun u s1 ⟨x, H1, I1, rx, a, dx, fs, ex, ea, l, q⟩ => ?_) ht
  subst ex
  obtain rfl : u = Value.ref a := rx
  refine getmeth_ok I1 ea c hm l ?_
  exact PySem.W.callWith_K0 (first := [.ref a]) I1.kIn hm.kp (run_fn (us := [.ref a]) (vs := [.ref a]) F hr hb hd hx I1 (.cons rfl .nil) q)

structure Mk (K : PySem.W.Frag) (C f : Addr) : Prop where
  makes : PySem.W.makesIn K C = true
  init : PySem.W.findIn K (.ref C) "__init__" = some (some (.ref f))
  fn : PySem.W.isFn K (.ref f) = true
  kp : PySem.W.keepIn K (.ref C) = true

theorem run_make {pins : List (Addr × Obj)} {σ : St} {H : Hp} {s : Shared} {Q : VK} {us : List Value} {vs : List V} (M : Mk X.K C f) (F : FnOk X.prog X.w X.K X.mg X.base CX k f fd ps sp) (hr : Room (k + 1) X.A) (hb : Binds X.K fd ps ds) (hd : Vals dvs ds)
    (hx : Passes CX X E) (I : Inv X pins σ H s) (r : Vals vs us)
    (h : ∀ x dx, H x = none → H dx = none → dx ≠ x → sp (.ref x :: (vs ++ dvs)) (upd (upd H dx (.own x)) x (.ins C dx [])) (fun v H2 => v = .non ∧ Q (.ref x) H2) E) :
    wpAny (model X.prog X.w) X.A (call (.ref C) us) (EP X pins σ Q) X.xe s := by
  have hq := h (s.heap.objs.size + 1) s.heap.objs.size (I.hok.fresh (Nat.le_succ _)) (I.hok.fresh (Nat.le_refl _)) (Nat.ne_of_lt (Nat.lt_succ_self _))
  have I2 := Inv.made (C := C) I
  have r2 : Vals (V.ref (s.heap.objs.size + 1) :: (vs ++ dvs)) (Value.ref (s.heap.objs.size + 1) :: (us ++ ds)) := .cons rfl (r.append hd)
  have hl : (Value.ref (s.heap.objs.size + 1) :: us ++ ds).length = ps.length := by
    have e := r2.length
    rw [F.len _ _ _ _ hq] at e
    exact e.symm
  refine wpAny_call (make_map (f := f) I.kIn M.makes M.init (beq_iff_eq.mp M.fn) (codeAny_mono (F.run _ X.stack _ _ ⟨Value.ref (s.heap.objs.size + 1) :: us, []⟩ (Value.ref (s.heap.objs.size + 1) :: (us ++ ds)) _ _ E (hr.make C us [])
    (I2.env0.make C us []) (hb _ (Value.ref (s.heap.objs.size + 1) :: us) I2.kIn hl) r2 hq) fun r s' hq' => ?_))
  cases r with
  | error e => exact hx pins σ _ _ e s' I2 hq'
  | ok fl =>
    cases fl with
    | ret u =>
      obtain ⟨v, H', I3, rv, ev, q3⟩ := I2.after hq'
      subst ev
      exact ⟨rv, ⟨V.ref (s.heap.objs.size + 1), H', I3, rfl, q3⟩⟩
    | next => exact False.elim hq'
    | brk => exact False.elim hq'
    | cont => exact False.elim hq'
theorem pe_make (M : Mk X.K C f) (F : FnOk X.prog X.w X.K X.mg X.base CX k f fd ps sp) (hr : Room (k + 1) X.A) (hg : Gl X x) (hm : X.mg x = some (.ref C)) (hb : Binds X.K fd ps ds) (hd : Vals dvs ds) (hx : Passes CX X E)
    (ha : PA X (e :: es) t) (hdb : (x == ("__debug__" : Str)) = false := by decide) (he : starEach (e :: es) X.env = (false, eval e X.env) :: starEach es X.env := by rfl) (hpl : (backTo pos (starEach es X.env)).any (·.1) = false := by rfl) :
    PE X (.Call (.Name x p) (e :: es) [] pos) (tMake C sp dvs E t) := by
  intro pins s σ H Q I h
  refine wpAny_Call_Name_kw (ld_glob I hg hm ?_ hdb)
  refine PySem.W.callWith_K (h₀ := X.base) I.ok.mod.kin M.kp (thn (ha pos pins s σ H _ I h) fun us s1 ⟨vs, H1, I1, r, q⟩ => ⟨I1.kIn, ?_⟩) he hpl
  exact run_make M F hr hb hd hx I1 r q
theorem pe_make0 (M : Mk X.K C f) (F : FnOk X.prog X.w X.K X.mg X.base CX k f fd ps sp) (hr : Room (k + 1) X.A) (hg : Gl X x) (hm : X.mg x = some (.ref C)) (hb : Binds X.K fd ps ds) (hd : Vals dvs ds) (hx : Passes CX X E)
    (hdb : (x == ("__debug__" : Str)) = false := by decide) : PE X (.Call (.Name x p) [] [] pos) (tMake C sp dvs E tNil) := by
  intro pins s σ H Q I h
  refine wpAny_Call_Name_kw (ld_glob I hg hm ?_ hdb)
  exact PySem.W.callWith_K0 I.kIn M.kp (run_make (us := []) M F hr hb hd hx I .nil h)
end

def PK (X : Cx) (kws : List Keyword) (t : TA) : Prop :=
  ∀ (pos : Pos) (pins : List (Addr × Obj)) (s : Shared) (σ : St) (H : Hp) (Q : List V → Hp → Prop), Inv X pins σ H s → t σ H Q → wpAny (model X.prog X.w) X.A (evalAll ((backToKw pos (keywordEach kws X.env)).map (·.2))) (AP X pins σ Q) X.xe s
section
variable {X : Cx} {CX : CXT} {k : Nat} {f C : Addr} {fd : FuncData} {ps ks : List Str} {sp : Sp} {E : XK} {x m : Str} {p pos apos kpos : Pos} {e o : Expr} {es : List Expr} {kws : List Keyword} {te ta : TE} {t tk : TA} {nm : Option Str}
theorem pk_nil : PK X [] tNil := fun _ _ _ _ H Q I h => wpAny_evalAll_nil ⟨[], H, I, .nil, h⟩
theorem pk_cons (ha : PE X e te) (hr : PK X kws t) : PK X (⟨nm, e, kpos⟩ :: kws) (tCons te t) := by
  intro pos pins s σ H Q I h
  show wpAny _ _ (evalAll ((do let v ← eval e X.env; standAt pos; pure v) :: (backToKw pos (keywordEach kws X.env)).map (·.2))) _ _ s
  refine wpAny_evalAll_cons (wpAny_bind (thn (ha pins s σ H _ I h) fun u s1 ⟨x, H1, I1, r1, q1⟩ => wpAny_bind (wpAny_standAt (wpAny_pure ?_))))
  exact thn (hr pos pins s1 σ H1 _ I1 q1) fun us s2 ⟨xs, H2, I2, r2, q2⟩ => ⟨x :: xs, H2, I2, .cons r1 r2, q2⟩

variable {g : List Value → List Value → List Value} {gV : List V → List V → List V}
end

structure FnScope (N P : List Str) (sc : Scope) : Prop where
  kind : sc.kind = .function
  co : sc.isCoroutine = false
  gen : sc.isGenerator = false
  nd : N.Nodup
  pre : N.take P.length = P
  par : ∀ x ∈ P, sc.names.lookup x = some .local ∨ sc.names.lookup x = some .cell
  nofree : ∀ y ∈ sc.names, y.2 ≠ .free

theorem bindL_out {kindOf : Str → Option NameKind} {x : Str} : ∀ {binds : List (Str × Value)} {m : Str → Option Value}, (∀ v, (x, v) ∉ binds) → bindL kindOf binds m x = m x
  | [], _, _ => rfl
  | (n, v) :: r, m, h => by
    unfold bindL
    rw [bindL_out fun w hw => h w (List.mem_cons_of_mem _ hw)]
    split
    · have : x ≠ n := by rintro rfl; exact h v List.mem_cons_self
      simp [this]
    · rfl
theorem bindC_out {kindOf : Str → Option NameKind} {x : Str} : ∀ {binds : List (Str × Value)} {m : Str → Option Value}, (∀ v, (x, v) ∉ binds) → bindC kindOf binds m x = m x
  | [], _, _ => rfl
  | (n, v) :: r, m, h => by
    unfold bindC
    rw [bindC_out fun w hw => h w (List.mem_cons_of_mem _ hw)]
    split
    · rfl
    · have : x ≠ n := by rintro rfl; exact h v List.mem_cons_self
      simp [this]
theorem bindL_get {kindOf : Str → Option NameKind} {x : Str} {v : Value} : ∀ {P : List Str} {vs : List Value} {i : Nat} {m : Str → Option Value}, P.Nodup → P[i]? = some x → vs[i]? = some v → kindOf x = some .local →
    bindL kindOf (P.zip vs) m x = some v
  | [], _, _, _, _, h, _, _ => by simp at h
  | _ :: _, [], _, _, _, _, h, _ => by simp at h
  | p :: P, w :: vs, 0, m, nd, h1, h2, hk => by
    simp at h1 h2; subst h1; subst h2
    show bindL kindOf ((p, w) :: P.zip vs) m p = _
    unfold bindL
    rw [bindL_out fun v hv => (List.nodup_cons.mp nd).1 (List.of_mem_zip hv).1, if_pos hk]
    simp
  | p :: P, w :: vs, i + 1, m, nd, h1, h2, hk => by
    show bindL kindOf ((p, w) :: P.zip vs) m x = _
    unfold bindL
    exact bindL_get (i := i) (List.nodup_cons.mp nd).2 (by simpa using h1) (by simpa using h2) hk
theorem bindC_get {kindOf : Str → Option NameKind} {x : Str} {v : Value} : ∀ {P : List Str} {vs : List Value} {i : Nat} {m : Str → Option Value}, P.Nodup → P[i]? = some x → vs[i]? = some v → kindOf x ≠ some .local →
    bindC kindOf (P.zip vs) m x = some v
  | [], _, _, _, _, h, _, _ => by simp at h
  | _ :: _, [], _, _, _, _, h, _ => by simp at h
  | p :: P, w :: vs, 0, m, nd, h1, h2, hk => by
    simp at h1 h2; subst h1; subst h2
    show bindC kindOf ((p, w) :: P.zip vs) m p = _
    unfold bindC
    rw [bindC_out fun v hv => (List.nodup_cons.mp nd).1 (List.of_mem_zip hv).1, if_neg hk]
    simp
  | p :: P, w :: vs, i + 1, m, nd, h1, h2, hk => by
    show bindC kindOf ((p, w) :: P.zip vs) m x = _
    unfold bindC
    exact bindC_get (i := i) (List.nodup_cons.mp nd).2 (by simpa using h1) (by simpa using h2) hk

def start (N : List Str) (vs : List V) : St := vs.map some ++ List.replicate (N.length - vs.length) none

def cxOf (CX : CXT) (P : Program) (w : World) (K : PySem.W.Frag) (mg : Str → Option Value) (base : Heap) (N : List Str) (qual : Str) (scope : Scope) (f : Addr) (cd : Value) (A : Around) (outer : List Env) (s : Shared) (H : Hp) (E : XK) : Cx where
  prog := P
  w := w
  K := K
  mg := mg
  base := base
  A := A.deeper (envOfC qual scope s.heap.objs.size f cd)
  N := N
  s_0 := s
  H_0 := H
  env := envOfC qual scope s.heap.objs.size f cd
  outer := outer
  stack := envOfC qual scope s.heap.objs.size f cd :: outer
  ex := []
  calm := true
  fn := fun _ => true
  pn := []
  xe := fun e s' => wpAny (model P w) (A.deeper (envOfC qual scope s.heap.objs.size f cd)) (leaving (envOfC qual scope s.heap.objs.size f cd) e) (fun _ s'' => CX outer H s E e s'') (fun e' s'' => CX outer H s E e' s'') s'

theorem cell_has {sc : Scope} {n : Nat} {x : Str} (h : sc.names.lookup x = some .cell) : ∃ c, (cellsFrom n sc.names []).lookup x = some c := by
  have q := PySem.W.cellsFrom_some sc.names n [] (.inl h)
  exact Option.isSome_iff_exists.mp q

theorem inv_start {CX : CXT} {P : Program} {w : World} {K : PySem.W.Frag} {mg : Str → Option Value} {base : Heap} {N ps : List Str} {qual : Str} {scope : Scope} {f : Addr} {cd : Value} {A : Around} {outer : List Env} {s s1 : Shared} {H : Hp} {E : XK} {us : List Value} {vs : List V}
    (S : FnScope N ps scope) (hd : A.handled = none) (e0 : Env0 P w K mg base A outer s H) (hl : vs.length = ps.length) (r : Vals vs us)
    (x : InCallC s s.heap.objs.size (bindL (envOfC qual scope s.heap.objs.size f cd).kindOf (ps.zip us) fun _ => none) (cellsFrom (s.heap.objs.size + 1) scope.names []) (bindC (envOfC qual scope s.heap.objs.size f cd).kindOf (ps.zip us) fun _ => none) s1) :
    Inv (cxOf CX P w K mg base N qual scope f cd A outer s H E) [] (start N vs) H s1 := by
  have hpl : ps.length ≤ N.length := by have := congrArg List.length S.pre; rw [List.length_take] at this; omega
  obtain ⟨h1, tk, rfl, hk⟩ := x.done
  have noA : ∀ b : Addr, b ∉ (cxOf CX P w K mg base N qual scope f cd A outer s H E).ex := fun b z => absurd (show b ∈ ([] : List Addr) from z) (by simp)
  refine ⟨⟨e0.mod, S.kind, rfl, rfl, Nat.le_refl _, fun y z c h1 h2 => ?_, fun y hy => ?_, fun y c _ h => ?_, fun _ => hd, Around.frames_deeper e0.frames, .inr ⟨rfl, rfl⟩, fun b z => absurd z (noA b), e0.bs, e0.bsz, fun b _ _ => noA b, fun b z => absurd z (noA b), e0.funs, e0.frf⟩,
    rfl, e0.bare, Un.kept hk, ⟨_, x.toInCall.ns, fun i y v h1 h2 h3 => ?_⟩, fun y c h => ⟨_, x.cell y c h⟩, e0.hok.fresh (Nat.le_refl _), fun y c h => ?_, fun p hp => absurd (show p ∈ ([] : List (Addr × Obj)) from hp) (by simp), e0.hok.kept hk, ?_⟩
  · exact name_of_addr x.apart (PySem.mem_of_lookup h1) (PySem.mem_of_lookup h2)
  · have hy : scope.names.lookup y = some .cell ∨ scope.names.lookup y = some .free := hy
    rcases hy with hy | hy
    · exact cell_has hy
    · exact absurd rfl (S.nofree _ (PySem.mem_of_lookup hy))
  · exact Nat.le_of_lt (x.above y c (PySem.mem_of_lookup h))
  · have hi : i < vs.length := by
      unfold start at h2
      by_cases hi : i < vs.length
      · exact hi
      · rw [List.getElem?_append_right (by simpa using hi)] at h2
        rw [List.getElem?_replicate] at h2
        split at h2 <;> cases h2
    have ha : vs[i]? = some v := by
      unfold start at h2
      rw [List.getElem?_append_left (by simpa using hi), List.getElem?_map] at h2
      cases e : vs[i]? with
      | none => rw [e] at h2; cases h2
      | some a => rw [e] at h2; cases h2; rfl
    obtain ⟨u, hu, rv⟩ := r.get ha
    have hp : ps[i]? = some y := by
      rw [← S.pre, List.getElem?_take_of_lt (by omega)]; exact h1
    have ndP : ps.Nodup := by rw [← S.pre]; exact S.nd.sublist (List.take_sublist _ _)
    refine ⟨u, rv, ?_⟩
    rcases S.par y (List.mem_of_getElem? hp) with k | k
    · exact .inl ⟨k, bindL_get ndP hp hu k⟩
    · obtain ⟨c, e⟩ := cell_has (n := s.heap.objs.size + 1) k
      refine .inr ⟨.inl k, c, e, ?_⟩
      have q := x.cell y c e
      rw [bindC_get ndP hp hu (by show scope.names.lookup y ≠ _; rw [k]; decide)] at q
      exact q
  · exact e0.hok.fresh (Nat.le_of_lt (x.above y c (PySem.mem_of_lookup h)))
  · unfold start
    show _ = N.length
    rw [List.length_append, List.length_map, List.length_replicate]
    omega

theorem fn_of {CX : CXT} {P : Program} {w : World} {K : PySem.W.Frag} {mg : Str → Option Value} {base : Heap} {k : Nat} {f : Addr} {name qual : Str} {params : Arguments} {body : List Stmt} {scope : Scope} {dV kV doc pm cdv ct oc : Value} {an od : Option Addr}
    {osl : Array (Option Value)} {N ps : List Str} {sp : Sp} (lk : K.lookup f = some ⟨oc, od, .func (PySem.W.fnOf name qual params body scope dV kV doc pm an cdv ct), osl⟩) (hcd : PySem.W.codeIn K cdv qual = true) (S : FnScope N ps scope)
    (len : ∀ vs H Q E, sp vs H Q E → vs.length = ps.length)
    (hbody : ∀ (A : Around) (outer : List Env) (s : Shared) (H : Hp) (vs : List V) (Q : VK) (E : XK), Room k (A.deeper (envOfC qual scope s.heap.objs.size f cdv)) → sp vs H Q E →
      ∃ t, PSs (cxOf CX P w K mg base N qual scope f cdv A outer s H E) body t ∧ t { nx := fun _ H' => Q .non H', rt := Q } (start N vs) H) :
    FnOk P w K mg base CX (k + 1) f (PySem.W.fnOf name qual params body scope dV kV doc pm an cdv ct) ps sp := by
  refine ⟨len, fun A outer s H args us vs Q E hr e0 hb r hsp => ?_⟩
  have hl := len _ _ _ _ hsp
  have KX : K.In s.heap := e0.mod.kin.keeps fun b o e => (e0.bs b o e).1
  have lim : s.heap.NoLimit := e0.mod.nolimit.keeps fun b o e => (e0.bs b o e).1
  have hkind : ∀ y ∈ ps.zip us, scope.names.lookup y.1 = some .local ∨ (scope.names.lookup y.1 = some .cell ∧ ((cellsFrom (s.heap.objs.size + 1) scope.names []).lookup y.1).isSome = true) := fun ⟨n, v⟩ hy => by
    rcases S.par n (List.of_mem_zip hy).1 with q | q
    · exact .inl q
    · exact .inr ⟨q, PySem.W.cellsFrom_some _ _ _ (.inl q)⟩
  refine codeAny_call_function hr.depth (KX _ _ lk) rfl S.co S.gen rfl (PySem.W.codeRec_of KX hcd) (hb _ _ _ _ ?_)
  refine wpAny_newFunctionEnv_cells S.kind hkind fun env he s1 x => ?_
  subst he
  refine ⟨lim.keeps x.toInCall.keep, codeAny_func ?_⟩
  obtain ⟨t, ht, hq⟩ := hbody A outer s H vs Q E (hr.deeper _) hsp
  have I : Inv (cxOf CX P w K mg base N qual scope f cdv A outer s H E) [] (start N vs) H s1 := inv_start S hr.hd e0 hl r x
  refine wpAny_mono (ht [] s1 (start N vs) H _ I hq) (fun fl s' hs => ?_) fun e s' hs => hs
  have fin : ∀ {σ' : St} {H' : Hp} {v : V} {u : Value}, Inv (cxOf CX P w K mg base N qual scope f cdv A outer s H E) [] σ' H' s' → RelV v u → Q v H' → CE outer P w H s Q u s' :=
    fun {σ' H' v u} J rv q => ⟨v, H', J.os, J.bare, J.base, J.hok, rv, q⟩
  cases fl with
  | ret u =>
    obtain ⟨v, σ', H', J, rv, q⟩ := hs
    exact fin J rv q
  | next =>
    obtain ⟨σ', H', J, q⟩ := hs
    exact fin (v := V.non) (u := Value.none) J rfl q
  | brk =>
    obtain ⟨_, _, _, q⟩ := hs
    exact False.elim q
  | cont =>
    obtain ⟨_, _, _, q⟩ := hs
    exact False.elim q
end L2

namespace L2
open PySem PySem.Spec PyProof.Rows
section
variable {X : Cx} {x : Str} {p pos : Pos} {e : Expr} {es : List Expr} {t : TA} {id T : String} {r : List V → Hp → VK → Prop}

def tCB (r : List V → Hp → VK → Prop) (t : TA) : TE := fun σ H Q => t σ H fun vs H1 => r vs H1 Q
theorem pe_callB (hc : CallR X (.builtin id) r) (hg : Gl X x) (hm : X.mg x = none) (hv : bootBuiltins x = some (.builtin id)) (ha : PA X (e :: es) t) (hn : x ≠ "__name__" := by decide) (hdb : (x == ("__debug__" : Str)) = false := by decide)
    (he : starEach (e :: es) X.env = (false, eval e X.env) :: starEach es X.env := by rfl) (hpl : (backTo pos (starEach es X.env)).any (·.1) = false := by rfl) : PE X (.Call (.Name x p) (e :: es) [] pos) (tCB r t) := by
  intro pins s σ H Q I h
  refine wpAny_Call_Name_kw (ld_blt I hg hm hv ?_ hn hdb)
  exact PyProof.Rows.callWith_builtin1 (thn (ha pos pins s σ H _ I h) fun us s1 ⟨vs, H1, I1, r1, q1⟩ => hc pins s1 σ H1 vs us Q I1 r1 q1) he hpl
theorem pe_callTy (hc : CallR X (.type T) r) (hg : Gl X x) (hm : X.mg x = none) (hv : bootBuiltins x = some (.type T)) (ha : PA X (e :: es) t) (hn : x ≠ "__name__" := by decide) (hdb : (x == ("__debug__" : Str)) = false := by decide)
    (he : starEach (e :: es) X.env = (false, eval e X.env) :: starEach es X.env := by rfl) (hpl : (backTo pos (starEach es X.env)).any (·.1) = false := by rfl) : PE X (.Call (.Name x p) (e :: es) [] pos) (tCB r t) := by
  intro pins s σ H Q I h
  refine wpAny_Call_Name_kw (ld_blt I hg hm hv ?_ hn hdb)
  exact PyProof.Rows.callWith_type1 (thn (ha pos pins s σ H _ I h) fun us s1 ⟨vs, H1, I1, r1, q1⟩ => hc pins s1 σ H1 vs us Q I1 r1 q1) he hpl
end
end L2

namespace HT
open PySem PyProof.Rows


theorem eqAt_int (A : Around) (s : Shared) (a : Int) (t : Tok) (c : Int) (u : Tok) : ∃ e, SeqAt.EqAt A s (.int a t) (.int c u) e ∧ (e = true ↔ a = c) :=
  ⟨(a == c), SeqAt.EqAt.int_int a t c u, by simp⟩
theorem rcLt_int (A : Around) (s : Shared) (a : Int) (t : Tok) (c : Int) (u : Tok) (prog : Program) (w : World) (E : Value → Shared → Prop) (Q : Value → Shared → Prop) (h : Q (.bool (decide (a < c))) s) :
    wpAny (model prog w) A (richCompare .Lt (.int a t) (.int c u)) Q E s :=
  (PyProof.Rows.lt_int h : wpAny (model prog w) A (compareOp .Lt (.int a t) (.int c u)) Q E s)

section
open PySem.SeqAt
open PySem.AutoSeq1 (wpAny_loadPart')
open PySem.MeetsSeq PySem.MeetsSeq2 PySem.MeetsSeq3

end

section
variable {prog : Program} {w : World} {A : Around} {E : Value → Shared → Prop} {s : Shared}



def sIx (n d : Nat) : Option Int → Nat
  | none => d
  | some v => if v < 0 then (v + (n : Int)).toNat else min v.toNat n
theorem sIx_nat (n d k : Nat) : sIx n d (some (k : Int)) = min k n := by
  show (if (k : Int) < 0 then ((k : Int) + (n : Int)).toNat else min (k : Int).toNat n) = min k n
  rw [if_neg (by omega), Int.toNat_natCast]

end
end HT

namespace L2
open PySem PySem.Spec PyProof.Rows

abbrev TO := St → Hp → (Option Int → Hp → Prop) → Prop
def PO (X : Cx) (e : Option Expr) (t : TO) : Prop :=
  ∀ (pins : List (Addr × Obj)) (s : Shared) (σ : St) (H : Hp) (Q : Option Int → Hp → Prop), Inv X pins σ H s → t σ H Q →
    wpAny (model X.prog X.w) X.A (evalPart e X.env) (fun u s' => ∃ o H', Inv X pins σ H' s' ∧ IsPart u o ∧ Q o H') X.xe s
def tPart (t : TE) : TO := fun σ H Q => t σ H fun x H1 => ∃ i, x = .int i ∧ Q (some i) H1


section
variable {X : Cx} {e : Expr} {te : TE} {lo hi : Option Expr} {tl th : TO} {pos p2 : Pos}

theorem po_some (h : PE X e te) : PO X (some e) (tPart te) := by
  intro pins s σ H Q I hw
  rw [evalPart_some]
  refine thn (h pins s σ H _ I hw) fun u s1 ⟨x, H1, I1, r1, q1⟩ => ?_
  obtain ⟨i, rfl, q⟩ := q1
  obtain ⟨t, rfl⟩ := r1
  exact ⟨some i, H1, I1, .int i t, q⟩

def SlR (X : Cx) (r : V → Option Int → Option Int → Hp → VK → Prop) : Prop :=
  ∀ (pins : List (Addr × Obj)) (s : Shared) (σ : St) (H : Hp) (x : V) (v vl vu : Value) (lo hi : Option Int) (sl : Addr) (Q : VK), Inv X pins σ H s → RelV x v → s.heap.IsSliceOf sl vl vu .none → IsPart vl lo → IsPart vu hi → r x lo hi H Q →
    ∃ T id, typeLookup (.type T) "__getitem__" = pure (some (.builtin id)) ∧ s.TypeIs v T ∧ wpAny (model X.prog X.w) X.A (getItem v (.ref sl)) (EP X pins σ Q) X.xe s
theorem SlR.or {r r' : V → Option Int → Option Int → Hp → VK → Prop} (h : SlR X r) (h' : SlR X r') : SlR X (fun x lo hi H Q => r x lo hi H Q ∨ r' x lo hi H Q) := by
  intro pins s σ H x v vl vu lo hi sl Q I rx hs pl pu q
  rcases q with q | q
  · exact h pins s σ H x v vl vu lo hi sl Q I rx hs pl pu q
  · exact h' pins s σ H x v vl vu lo hi sl Q I rx hs pl pu q
def tSl (r : V → Option Int → Option Int → Hp → VK → Prop) (te : TE) (tl th : TO) : TE := fun σ H Q => te σ H fun x H1 => tl σ H1 fun l H2 => th σ H2 fun u H3 => r x l u H3 Q
theorem pe_slice {r : V → Option Int → Option Int → Hp → VK → Prop} (hr : SlR X r) (he : PE X e te) (hl : PO X lo tl) (hu : PO X hi th) : PE X (.Subscript e (.Slice lo hi none p2) pos) (tSl r te tl th) := by
  intro pins s σ H Q I h
  refine Subscript_ (thn (he pins s σ H _ I h) fun v s1 ⟨x, H1, I1, r1, q1⟩ => ?_)
  refine wpAny_Slice (thn (hl pins s1 σ H1 _ I1 q1) fun vl s2 ⟨l, H2, I2, pl, q2⟩ => thn (hu pins s2 σ H2 _ I2 q2) fun vu s3 ⟨u, H3, I3, pu, q3⟩ => ?_)
  rw [evalPart_none]
  refine wpAny_pure ?_
  have I4 : Inv X pins σ H3 { s3 with heap := s3.heap.push { cls := .type "slice", data := .fields #[vl, vu, .none] } } := I3.kept (t' := s3.toks) fun b ob q => Heap.get?_push_of_some _ q
  obtain ⟨T, id, hT, ht, hg⟩ := hr pins { s3 with heap := s3.heap.push { cls := .type "slice", data := .fields #[vl, vu, .none] } } σ H3 x v vl vu l u s3.heap.objs.size Q I4 r1 (Heap.IsSliceOf.new ..) pl pu q3
  show wpAny (model X.prog X.w) X.A (subscriptTail e (.Slice lo hi none p2) v (.ref s3.heap.objs.size)) (EP X pins σ Q) X.xe { s3 with heap := s3.heap.push { cls := .type "slice", data := .fields #[vl, vu, .none] } }
  exact tail_any (ops := [.ref s3.heap.objs.size, v]) ht hT hg (by with_unfolding_all rfl)

def cutV (xs : List V) (lo hi : Option Int) : List V := (xs.drop (HT.sIx xs.length 0 lo)).take (HT.sIx xs.length xs.length hi - HT.sIx xs.length 0 lo)
theorem cutV_length (xs : List V) (lo hi : Option Int) : (cutV xs lo hi).length ≤ xs.length := by
  unfold cutV
  rw [List.length_take, List.length_drop]
  omega

end
end L2

namespace L2
open PySem PySem.Spec PyProof.Rows

def ixN (n : Nat) (i : Int) : Option Nat := if 0 ≤ i then (if i < n then some i.toNat else none) else if -(n : Int) ≤ i then some (i + n).toNat else none
def atI {α : Type} (xs : List α) (i : Int) : Option α := (ixN xs.length i).bind fun j => xs[j]?
theorem ixN_seq {n : Nat} {i : Int} {j : Nat} (h : ixN n i = some j) : seqIndex? i n = some j ∧ j < n ∧ -(n : Int) ≤ i ∧ i < n := by
  unfold ixN at h
  by_cases h0 : 0 ≤ i
  · rw [if_pos h0] at h
    by_cases h1 : i < n
    · rw [if_pos h1] at h
      have e : i.toNat = j := Option.some.inj h
      exact ⟨by rw [seqIndex_of h0 h1, e], by omega, by omega, h1⟩
    · rw [if_neg h1] at h; cases h
  · rw [if_neg h0] at h
    by_cases h1 : -(n : Int) ≤ i
    · rw [if_pos h1] at h
      have e : (i + n).toNat = j := Option.some.inj h
      exact ⟨by rw [seqIndex_neg (by omega) h1, e], by omega, h1, by omega⟩
    · rw [if_neg h1] at h; cases h
theorem atI_get {α : Type} {xs : List α} {i : Int} {v : α} (h : atI xs i = some v) : ∃ j, seqIndex? i xs.length = some j ∧ xs[j]? = some v ∧ j < xs.length ∧ -(xs.length : Int) ≤ i ∧ i < xs.length := by
  unfold atI at h
  cases e : ixN xs.length i with
  | none => rw [e] at h; cases h
  | some j =>
    rw [e] at h
    obtain ⟨h1, h2, h3, h4⟩ := ixN_seq e
    exact ⟨j, h1, h, h2, h3, h4⟩
theorem atI_nat {α : Type} {xs : List α} {j : Nat} {v : α} (h : xs[j]? = some v) : atI xs (j : Int) = some v := by
  have hj : j < xs.length := (List.getElem?_eq_some_iff.mp h).1
  have e : ixN xs.length (j : Int) = some j := by
    unfold ixN
    rw [if_pos (by omega), if_pos (by omega)]; simp
  unfold atI; rw [e]; exact h

def PlainIx (b : Expr) : Prop := ∀ o i, subscripted b false o i = operate [o, i] (getItem o i)
def IxR (X : Cx) (r : R2) : Prop :=
  ∀ (value slice : Expr) (pins : List (Addr × Obj)) (s : Shared) (σ : St) (H : Hp) (x y : V) (v u : Value) (Q : VK), Inv X pins σ H s → RelV x v → RelV y u → r x y H Q →
    subscripted slice false v u = operate [v, u] (getItem v u) → wpAny (model X.prog X.w) X.A (subscriptTail value slice v u) (EP X pins σ Q) X.xe s
def MtR (X : Cx) (id : String) (r : V → List V → Hp → VK → Prop) : Prop :=
  ∀ (pins : List (Addr × Obj)) (s : Shared) (σ : St) (H : Hp) (x : V) (xs : List V) (v : Value) (us : List Value) (Q : VK), Inv X pins σ H s → RelV x v → Vals xs us → r x xs H Q →
    wpAny (model X.prog X.w) X.A (call (.builtin id) (v :: us)) (EP X pins σ Q) X.xe s
section
variable {X : Cx} {a b : Expr} {ta tb : TE} {pos : Pos}
theorem IxR.or {r r' : R2} (h : IxR X r) (h' : IxR X r') : IxR X (fun x y H Q => r x y H Q ∨ r' x y H Q) := by
  intro value slice pins s σ H x y v u Q I rx ry q hs
  rcases q with q | q
  · exact h value slice pins s σ H x y v u Q I rx ry q hs
  · exact h' value slice pins s σ H x y v u Q I rx ry q hs
theorem MtR.or {id : String} {r r' : V → List V → Hp → VK → Prop} (h : MtR X id r) (h' : MtR X id r') : MtR X id (fun x xs H Q => r x xs H Q ∨ r' x xs H Q) := by
  intro pins s σ H x xs v us Q I rx rs q
  rcases q with q | q
  · exact h pins s σ H x xs v us Q I rx rs q
  · exact h' pins s σ H x xs v us Q I rx rs q
theorem pe_ix {r : R2} (hr : IxR X r) (ha : PE X a ta) (hb : PE X b tb) (hs : PlainIx b) : PE X (.Subscript a b pos) (tOp r ta tb) := by
  intro pins s σ H Q I h
  exact Subscript_ (binT ha hb I h fun v u s2 x y H2 I2 rx ry q => hr a b pins s2 σ H2 x y v u Q I2 rx ry q (hs _ _))

def rIxL (K : PySem.W.Frag) : R2 := fun x y H Q => ∃ p xs i v, x = .ref p ∧ y = .int i ∧ SqL K H p xs ∧ atI xs i = some v ∧ Q v H
def rIxT (K : PySem.W.Frag) : R2 := fun x y H Q => ∃ p xs i v, x = .ref p ∧ y = .int i ∧ SqT K H p xs ∧ atI xs i = some v ∧ Q v H
theorem ix_list : IxR X (rIxL X.K) := by
  intro value slice pins s σ H x y v u Q I rx ry h hs
  obtain ⟨p, xs, i, z, rfl, rfl, hq, he, q⟩ := h
  cases rx
  obtain ⟨t, rfl⟩ := ry
  obtain ⟨its, r, pl, hz⟩ := I.list hq
  obtain ⟨j, h1, h2, h3, h4, h5⟩ := atI_get he
  obtain ⟨w, ew, rw'⟩ := r.get h2
  have hl := r.length
  have hn := line63
  have fin : EP X pins σ Q w s := ⟨z, H, I, rw', q⟩
  by_cases h0 : 0 ≤ i
  · have hj : i.toNat = j := by
      rw [seqIndex_of h0 h5] at h1
      exact Option.some.inj h1
    exact item_listR pl.isList h0 (by omega) (by rw [hj]; simpa using ew) fin hs
  · have hj : (i + (its.toArray.size : Int)).toNat = j := by
      rw [seqIndex_neg (by omega) h4] at h1
      rw [List.size_toArray, ← hl]
      exact Option.some.inj h1
    exact subscriptTail_builtinR (x := w) pl.isList.typeIs slot_list_getitem.lookup
      (wpAny_getItem_list_neg (Q := fun r s' => r = w ∧ EP X pins σ Q r s') pl.isList (by omega) (by rw [List.size_toArray] <;> omega) (by omega) (by rw [hj]; simpa using ew) ⟨rfl, fin⟩) hs
theorem ix_tup : IxR X (rIxT X.K) := by
  intro value slice pins s σ H x y v u Q I rx ry h hs
  obtain ⟨p, xs, i, z, rfl, rfl, hq, he, q⟩ := h
  cases rx
  obtain ⟨t, rfl⟩ := ry
  obtain ⟨its, r, pl, hz⟩ := I.tuple hq
  obtain ⟨j, h1, h2, h3, h4, h5⟩ := atI_get he
  obtain ⟨w, ew, rw'⟩ := r.get h2
  have hl := r.length
  have hn := line63
  have fin : EP X pins σ Q w s := ⟨z, H, I, rw', q⟩
  exact subscriptTail_builtinR (x := w) pl.typeIs slot_tuple_getitem.lookup
    (getItem_tuple (j := j) (Q := fun r s' => r = w ∧ EP X pins σ Q r s') pl (by omega) (by omega) (by rw [List.size_toArray, ← hl]; exact h1) (by simpa using ew) ⟨rfl, fin⟩) hs

theorem mapSeq_set (its : List Value) (n j : Nat) (u : Value) : Obj.mapSeq (·.setIfInBounds j u) { cls := .type "list", data := .seq its.toArray n } = { cls := .type "list", data := .seq (its.set j u).toArray n } := by
  simp [Obj.mapSeq]
theorem Inv.lst {pins : List (Addr × Obj)} {σ : St} {H : Hp} {s : Shared} {p : Addr} {xs : List V} (I : Inv X pins σ H s) (h : H p = some (.lst xs)) :
    ∃ (its : List Value) (n : Nat), Vals xs its ∧ s.heap.get? p = some { cls := .type "list", data := .seq its.toArray n } ∧ xs.length ≤ sizeLine := by
  obtain ⟨z, its, n, r, e⟩ := I.hok p _ h
  exact ⟨its, n, r, e, z⟩
theorem Inv.lstUpd {pins : List (Addr × Obj)} {σ : St} {H : Hp} {s : Shared} {p : Addr} {xs ys : List V} {its its' : List Value} {n n' : Nat} {f : Obj → Obj} (I : Inv X pins σ H s) (h : H p = some (.lst xs))
    (ho : s.heap.get? p = some { cls := .type "list", data := .seq its.toArray n }) (hf : f { cls := .type "list", data := .seq its.toArray n } = { cls := .type "list", data := .seq its'.toArray n' }) (r : Vals ys its') (hz : ys.length ≤ sizeLine) (t : Nat) :
    Inv X pins σ (upd H p (.lst ys)) { s with heap := s.heap.update p f, toks := t } := by
  have e : (s.heap.update p f).get? p = some { cls := .type "list", data := .seq its'.toArray n' } := by
    rw [Heap.get?_update_self f ho (by rw [hf] <;> rfl), hf]
  refine I.write (x := p) (e := p) (by rw [h]; trivial) (.inl rfl) (fun b u hb q => (Heap.get?_update_other _ _ (Ne.symm hb)).trans q) ⟨_, e⟩ ?_
  exact ⟨hz, its', n', r, e⟩
def rSetL : V → V → V → Hp → (Hp → Prop) → Prop := fun o i v H Q => ∃ p xs k j, o = .ref p ∧ i = .int k ∧ H p = some (.lst xs) ∧ ixN xs.length k = some j ∧ Q (upd H p (.lst (xs.set j v)))
theorem set_list : PSet X rSetL := by
  intro pins s σ H o i v ov iv u Q I ro ri rv h
  obtain ⟨p, xs, k, j, rfl, rfl, hp, hj, q⟩ := h
  cases ro
  obtain ⟨t, rfl⟩ := ri
  obtain ⟨its, n, r, ho, hz⟩ := I.lst hp
  obtain ⟨h1, h2, h3, h4⟩ := ixN_seq hj
  have hl := r.length
  have hn := line63
  have I' : Inv X pins σ (upd H p (.lst (xs.set j v))) { s with heap := s.heap.update p (Obj.mapSeq (·.setIfInBounds j u)) } :=
    I.lstUpd hp ho (mapSeq_set its n j u) (r.set rv j) (by rw [List.length_set]; exact hz) s.toks
  by_cases h0 : 0 ≤ k
  · have hk : k.toNat = j := by
      rw [seqIndex_of h0 h4] at h1
      exact Option.some.inj h1
    exact PySem.W.ki_setAt ho h0 (by omega) (by rw [List.size_toArray, ← hl]; exact h4) (by rw [hk]; exact ⟨_, I', q⟩)
  · have hk : (k + (its.toArray.size : Int)).toNat = j := by
      rw [seqIndex_neg (by omega) h3] at h1
      rw [List.size_toArray, ← hl]
      exact Option.some.inj h1
    exact PySem.W.ki_setBack ho (by omega) (by rw [List.size_toArray, ← hl]; exact h3) (by omega) (by rw [hk]; exact ⟨_, I', q⟩)

theorem slice_bounds (lo hi : Option Int) (n : Nat) : (sliceBounds lo hi none n).1 = ((HT.sIx n 0 lo : Nat) : Int) ∧ (sliceBounds lo hi none n).2.1 = ((HT.sIx n n hi : Nat) : Int) ∧ (sliceBounds lo hi none n).2.2 = 1 := by
  refine ⟨?_, ?_, rfl⟩
  · cases lo with
    | none => simp [sliceBounds, HT.sIx]
    | some i =>
      simp only [sliceBounds, HT.sIx, Option.getD_none, show (1 : Int) > 0 by decide, if_true]
      by_cases h : i < 0
      · simp only [h, if_true] <;> omega
      · simp only [h, if_false] <;> omega
  · cases hi with
    | none => simp [sliceBounds, HT.sIx]
    | some i =>
      simp only [sliceBounds, HT.sIx, Option.getD_none, show (1 : Int) > 0 by decide, if_true]
      by_cases h : i < 0
      · simp only [h, if_true] <;> omega
      · simp only [h, if_false] <;> omega
theorem slicePick_cut (its : List Value) (lo hi : Option Int) : slicePick its.toArray lo hi none = ((its.drop (HT.sIx its.length 0 lo)).take (HT.sIx its.length its.length hi - HT.sIx its.length 0 lo)).toArray := by
  obtain ⟨h1, h2, h3⟩ := slice_bounds lo hi its.toArray.size
  unfold slicePick
  rw [h1, h2, h3]
  simp only [sliceRange_one, pick_run, List.size_toArray] <;> rfl
def rSlL (K : PySem.W.Frag) : V → Option Int → Option Int → Hp → VK → Prop := fun x lo hi H Q => ∃ a xs, x = .ref a ∧ SqL K H a xs ∧ ∀ p, H p = none → Q (.ref p) (upd H p (.lst (cutV xs lo hi)))
theorem sl_list : SlR X (rSlL X.K) := by
  intro pins s σ H x v vl vu lo hi sl Q I rx hs pl pu h
  obtain ⟨a, xs, rfl, hx, q⟩ := h
  cases rx
  obtain ⟨its, r, ht, hz⟩ := I.list hx
  have hlen := r.length
  refine ⟨"list", _, slot_list_getitem.lookup, ht.isList.typeIs, ?_⟩
  refine wpAny_getItem_list_slice ht.isList hs pl pu .none (by simp) ?_ (by rw [List.size_toArray] <;> omega)
  rw [slicePick_cut, ← hlen]
  refine ⟨.ref s.heap.objs.size, _, I.laid (t' := s.toks) (o := .lst (cutV xs lo hi)) (fun b ob q => Heap.get?_push_of_some _ q) (Nat.le_refl _) ?_, rfl, q _ (I.hok.fresh (Nat.le_refl _))⟩
  exact ⟨Nat.le_trans (cutV_length xs lo hi) hz, _, 0, (r.drop (HT.sIx xs.length 0 lo)).take (HT.sIx xs.length xs.length hi - HT.sIx xs.length 0 lo), Heap.get?_push_size _ rfl⟩

def flatV : V → Bool
  | .non => true
  | .bl _ => true
  | .int _ => true
  | .str _ => true
  | _ => false
def eqV : V → V → Bool
  | .non, .non => true
  | .bl a, .bl b => a == b
  | .bl a, .int b => (if a then 1 else 0) == b
  | .int a, .bl b => a == (if b then 1 else 0)
  | .int a, .int b => a == b
  | .str a, .str b => a == b
  | _, _ => false
theorem eqAt_V {A : Around} {s : Shared} {y x : V} {u v : Value} (ry : RelV y u) (rx : RelV x v) (fy : flatV y = true) (fx : flatV x = true) : SeqAt.EqAt A s u v (eqV y x) := by
  cases y with
  | non =>
    cases ry
    cases x with
    | non => cases rx; exact SeqAt.EqAt.same _
    | bl b => cases rx; exact SeqAt.EqAt.none_bool b
    | int b => obtain ⟨t, rfl⟩ := rx; exact SeqAt.EqAt.none_int b t
    | str b => obtain ⟨t, rfl⟩ := rx; exact SeqAt.EqAt.none_str b t
    | _ => exact absurd (show false = true from fx) Bool.false_ne_true
  | bl a =>
    cases ry
    cases x with
    | non => cases rx; exact SeqAt.EqAt.bool_none a
    | bl b => cases rx; exact SeqAt.EqAt.bool_bool a b
    | int b => obtain ⟨t, rfl⟩ := rx; exact SeqAt.EqAt.bool_int a b t
    | str b => obtain ⟨t, rfl⟩ := rx; exact SeqAt.EqAt.bool_str a b t
    | _ => exact absurd (show false = true from fx) Bool.false_ne_true
  | int a =>
    obtain ⟨t', rfl⟩ := ry
    cases x with
    | non => cases rx; exact SeqAt.EqAt.int_none a t'
    | bl b => cases rx; exact SeqAt.EqAt.int_bool a t' b
    | int b => obtain ⟨t, rfl⟩ := rx; exact SeqAt.EqAt.int_int a t' b t
    | str b => obtain ⟨t, rfl⟩ := rx; exact SeqAt.EqAt.int_str a t' b t
    | _ => exact absurd (show false = true from fx) Bool.false_ne_true
  | str a =>
    obtain ⟨t', rfl⟩ := ry
    cases x with
    | non => cases rx; exact SeqAt.EqAt.str_none a t'
    | bl b => cases rx; exact SeqAt.EqAt.str_bool a t' b
    | int b => obtain ⟨t, rfl⟩ := rx; exact SeqAt.EqAt.str_int a t' b t
    | str b => obtain ⟨t, rfl⟩ := rx; exact SeqAt.EqAt.str_str a t' b t
    | _ => exact absurd (show false = true from fx) Bool.false_ne_true
  | _ => exact absurd (show false = true from fy) Bool.false_ne_true
def eqU (x : V) (u : Value) : Bool := match u with
  | .none => eqV .non x
  | .bool b => eqV (.bl b) x
  | .int i _ => eqV (.int i) x
  | .str z _ => eqV (.str z) x
  | _ => false
theorem eqU_of {x y : V} {u : Value} (r : RelV y u) (f : flatV y = true) : eqU x u = eqV y x := by
  cases y with
  | non => cases r; rfl
  | bl b => cases r; rfl
  | int i => obtain ⟨t, rfl⟩ := r; rfl
  | str z => obtain ⟨t, rfl⟩ := r; rfl
  | _ => exact absurd (show false = true from f) Bool.false_ne_true
theorem any_eqU {x : V} : ∀ {xs : List V} {us : List Value}, Vals xs us → xs.all flatV = true → us.any (eqU x) = xs.any fun y => eqV y x
  | _, _, .nil, _ => rfl
  | y :: xs, u :: us, .cons r t, f => by
    rw [List.all_cons, Bool.and_eq_true] at f
    rw [List.any_cons, List.any_cons, eqU_of r f.1, any_eqU t f.2]
theorem mem_eqAt {A : Around} {s : Shared} {x : V} {v : Value} (rx : RelV x v) (fx : flatV x = true) : ∀ {xs : List V} {us : List Value}, Vals xs us → xs.all flatV = true → ∀ u ∈ us, SeqAt.EqAt A s u v (eqU x u)
  | _, _, .nil, _ => fun u hu => by cases hu
  | y :: xs, u :: us, .cons r t, f => fun u' hu => by
    rw [List.all_cons, Bool.and_eq_true] at f
    rcases List.mem_cons.mp hu with rfl | hu
    · rw [eqU_of r f.1]; exact eqAt_V r rx f.1 fx
    · exact mem_eqAt rx fx t f.2 u' hu
def inV (x : V) (xs : List V) : Bool := xs.any fun y => eqV y x
def rIn (K : PySem.W.Frag) (neg : Bool) : R2 := fun x y H Q => ∃ p xs, y = .ref p ∧ (SqL K H p xs ∨ SqT K H p xs) ∧ flatV x = true ∧ xs.all flatV = true ∧ Q (.bl (if neg then !inV x xs else inV x xs)) H
theorem op_in_seq : OpR X (compareOp .In) (rIn X.K false) := by
  intro pins s σ H x y v u Q I rx ry h
  obtain ⟨p, xs, rfl, hq, fx, fs, q⟩ := h
  cases ry
  rcases hq with hq | hq
  · obtain ⟨its, r, pl, hz⟩ := I.list hq
    refine SeqAt.in_listAt (eqU x) pl.isList (fun w hw => mem_eqAt rx fx r fs w (by simpa using hw)) ⟨.bl _, H, I, rfl, ?_⟩
    rw [show its.toArray.any (eqU x) = its.any (eqU x) by simp, any_eqU r fs]
    exact q
  · obtain ⟨its, r, pl, hz⟩ := I.tuple hq
    refine SeqAt.in_tupleAt (eqU x) pl (fun w hw => mem_eqAt rx fx r fs w (by simpa using hw)) ⟨.bl _, H, I, rfl, ?_⟩
    rw [show its.toArray.any (eqU x) = its.any (eqU x) by simp, any_eqU r fs]
    exact q
theorem op_notIn_seq : OpR X (compareOp .NotIn) (rIn X.K true) := by
  intro pins s σ H x y v u Q I rx ry h
  obtain ⟨p, xs, rfl, hq, fx, fs, q⟩ := h
  cases ry
  rcases hq with hq | hq
  · obtain ⟨its, r, pl, hz⟩ := I.list hq
    refine SeqAt.notIn_listAt (eqU x) pl.isList (fun w hw => mem_eqAt rx fx r fs w (by simpa using hw)) ⟨.bl _, H, I, rfl, ?_⟩
    rw [show its.toArray.any (eqU x) = its.any (eqU x) by simp, any_eqU r fs]
    exact q
  · obtain ⟨its, r, pl, hz⟩ := I.tuple hq
    refine SeqAt.notIn_tupleAt (eqU x) pl (fun w hw => mem_eqAt rx fx r fs w (by simpa using hw)) ⟨.bl _, H, I, rfl, ?_⟩
    rw [show its.toArray.any (eqU x) = its.any (eqU x) by simp, any_eqU r fs]
    exact q

theorem call_len_seq : CallR X (.builtin "len") (fun xs H Q => ∃ p ys, xs = [.ref p] ∧ (SqL X.K H p ys ∨ SqT X.K H p ys) ∧ Q (.int ys.length) H) := by
  intro pins s σ H xs us Q I r h
  obtain ⟨p, ys, rfl, hq, q⟩ := h
  obtain ⟨u, rfl, rx⟩ := vals1 r
  cases rx
  have hn := line63
  rcases hq with hq | hq
  · obtain ⟨its, r', pl, hz⟩ := I.list hq
    have hlen := r'.length
    exact Calls.call_len_list pl.isList (by simp only [List.size_toArray] <;> omega) ⟨.int ys.length, H, I.tok _, ⟨s.toks + 1, by rw [List.size_toArray, hlen]⟩, q⟩
  · obtain ⟨its, r', pl, hz⟩ := I.tuple hq
    have hlen := r'.length
    exact len_tuple pl (by simp only [List.size_toArray] <;> omega) ⟨.int ys.length, H, I.tok _, ⟨s.toks + 1, by rw [List.size_toArray, hlen]⟩, q⟩
theorem CallR.or {f : Value} {r r' : List V → Hp → VK → Prop} (h : CallR X f r) (h' : CallR X f r') : CallR X f (fun xs H Q => r xs H Q ∨ r' xs H Q) := by
  intro pins s σ H xs us Q I rs q
  rcases q with q | q
  · exact h pins s σ H xs us Q I rs q
  · exact h' pins s σ H xs us Q I rs q
theorem call_list_of : CallR X (.type "list") (fun xs H Q => ∃ p ys, xs = [.ref p] ∧ (SqL X.K H p ys ∨ SqT X.K H p ys) ∧ ∀ l, H l = none → Q (.ref l) (upd H l (.lst ys))) := by
  intro pins s σ H xs us Q I r h
  obtain ⟨p, ys, rfl, hq, q⟩ := h
  obtain ⟨u, rfl, rx⟩ := vals1 r
  cases rx
  have fin : ∀ (its : List Value), Vals ys its → ys.length ≤ sizeLine → ∀ (h' : Heap) (c' : Nat), (∀ b o', s.heap.get? b = some o' → h'.get? b = some o') →
      h'.get? s.heap.objs.size = some { cls := .type "list", dict := none, data := .seq its.toArray c', slots := #[] } → EP X pins σ Q (.ref s.heap.objs.size) { s with heap := h' } := fun its r' hz h' c' kp e =>
    ⟨.ref s.heap.objs.size, _, I.laid (t' := s.toks) kp (Nat.le_refl _) (show ObjOk X.prog X.w _ h' _ (.lst ys) from ⟨hz, its, c', r', e⟩), rfl, q _ (I.hok.fresh (Nat.le_refl _))⟩
  rcases hq with hq | hq
  · obtain ⟨its, r', pl, hz⟩ := I.list hq
    have hlen := r'.length
    obtain ⟨o, ho, hc, n, hd⟩ := pl.isList
    exact call_list_seq p (.inl rfl) ho hc hd (fun h' c' kp e => fin its r' hz h' c' kp e) (by simp only [List.size_toArray] <;> omega)
  · obtain ⟨its, r', pl, hz⟩ := I.tuple hq
    have hlen := r'.length
    obtain ⟨o, ho, hc, n, hd⟩ := pl
    exact call_list_seq p (.inr rfl) ho hc hd (fun h' c' kp e => fin its r' hz h' c' kp e) (by simp only [List.size_toArray] <;> omega)

def tyV (K : PySem.W.Frag) (T : String) (x : V) (H : Hp) : Prop := match x with
  | .str _ => T = "str"
  | .int _ => T = "int"
  | .ref p => (T = "list" ∧ ∃ xs, SqL K H p xs) ∨ (T = "tuple" ∧ ∃ o, K.lookup p = some o ∧ o.cls = .type "tuple" ∧ o.dict = none) ∨
      (T = "dict" ∧ ((∃ kvs, H p = some (.dK kvs)) ∨ ∃ kvs, H p = some (.dT kvs))) ∨ (T = "set" ∧ ∃ S n, H p = some (.set S n))
  | _ => False
theorem tyV_is {pins : List (Addr × Obj)} {σ : St} {H : Hp} {s : Shared} {T : String} {x : V} {v : Value} (I : Inv X pins σ H s) (r : RelV x v) (ty : tyV X.K T x H) :
    s.TypeIs v T ∧ ∀ a, v = .ref a → ∃ ob, s.heap.get? a = some ob ∧ ob.dict = none := by
  cases x with
  | str z =>
    obtain ⟨t, rfl⟩ := r
    cases (show T = "str" from ty)
    exact ⟨typeIs_str s z t, fun _ e => nomatch e⟩
  | int i =>
    obtain ⟨t, rfl⟩ := r
    cases (show T = "int" from ty)
    exact ⟨typeIs_int s i t, fun _ e => nomatch e⟩
  | ref p =>
    cases r
    rcases ty with ⟨rfl, xs, hq⟩ | ⟨rfl, o, hk, hc, hd⟩ | ⟨rfl, hk⟩ | ⟨rfl, S, n, hk⟩
    · obtain ⟨its, _, pl, _⟩ := I.list hq
      refine ⟨pl.isList.typeIs, fun a e => ?_⟩
      cases e
      obtain ⟨o, n, e, c, hd, _⟩ := pl
      exact ⟨o, e, hd⟩
    · refine ⟨⟨o, I.kIn p o hk, hc⟩, fun a e => ?_⟩
      cases e
      exact ⟨o, I.kIn _ o hk, hd⟩
    · have z : ∃ o, s.heap.get? p = some o ∧ o.ExactDict := by
        rcases hk with ⟨kvs, hk⟩ | ⟨kvs, hk⟩
        · obtain ⟨_, _, _, _, o, _, _, e, ex, _⟩ := I.hok p _ hk
          exact ⟨o, e, ex⟩
        · obtain ⟨_, _, _, _, o, _, _, e, ex, _⟩ := I.hok p _ hk
          exact ⟨o, e, ex⟩
      obtain ⟨o, e, ex⟩ := z
      refine ⟨⟨o, e, ex.1⟩, fun a e2 => ?_⟩
      cases e2
      exact ⟨o, e, ex.2.1⟩
    · obtain ⟨o, _, _, _, e, ex, _⟩ := I.hok p _ hk
      refine ⟨⟨o, e, ex.1⟩, fun a e2 => ?_⟩
      cases e2
      exact ⟨o, e, ex.2.1⟩
  | _ => exact False.elim ty
def tBM (K : PySem.W.Frag) (T : String) (r : V → List V → Hp → VK → Prop) (to : TE) (t : TA) : TE := fun σ H Q => to σ H fun x H1 => tyV K T x H1 ∧ t σ H1 fun xs H2 => r x xs H2 Q
variable {o e : Expr} {es : List Expr} {to : TE} {t : TA} {name : Str} {apos cpos : Pos} {T id : String} {r : V → List V → Hp → VK → Prop}
theorem pe_bm (pa : PlainAttrs T) (slot : Slot T name id) (hty : typeOf (.builtin id) = pure (.type "method_descriptor")) (hm : MtR X id r) (ho : PE X o to) (ha : PA X (e :: es) t)
    (hbase : attributeBase o name X.env (eval o X.env) = eval o X.env := by rfl)
    (hfew : ((backTo cpos (starEach (e :: es) X.env)).all (fun x => !x.1) && (backToKw cpos (keywordEach [] X.env)).all (fun x => x.1.isSome)
      && decide ((e :: es).length + ([] : List Keyword).length + (if ([] : List Keyword).isEmpty then 0 else 1) < 30)) = true := by rfl)
    (hline : (apos.endLine == cpos.line) = true := by rfl) (hs : starEach (e :: es) X.env = (false, eval e X.env) :: starEach es X.env := by rfl) (hplain : (backTo cpos (starEach es X.env)).any (·.1) = false := by rfl) :
    PE X (.Call (.Attribute o name apos) (e :: es) [] cpos) (tBM X.K T r to t) := by
  intro pins s σ H Q I h
  refine wpAny_Call_method_late hbase hfew hline rfl (thn (ho pins s σ H _ I h) fun v s1 ⟨x, H1, I1, r1, ty, q1⟩ => ?_)
  obtain ⟨h1, h2⟩ := tyV_is I1 r1 ty
  refine ⟨T, id, pa, slot, hty, h1, h2, ?_⟩
  have hA := ha cpos pins s1 σ H1 _ I1 q1
  rw [hs] at hA ⊢
  refine Calls.callWith_builtin (by show (false || (backTo cpos (starEach es X.env)).any (·.1)) = false; rw [hplain] <;> rfl) (Calls.evalArgs_plain ?_)
  exact thn hA fun us s2 ⟨vs, H2, I2, r2, q2⟩ => hm pins s2 σ H2 x vs v us Q I2 r1 r2 q2
end
end L2

namespace L2
open PySem PySem.Spec PyProof.Rows

def MtM (X : Cx) (id : String) (r : V → List V → Hp → VK → Prop) : Prop :=
  ∀ (pins : List (Addr × Obj)) (s : Shared) (σ : St) (H : Hp) (x : V) (xs : List V) (v : Value) (us : List Value) (Q : VK), Inv X pins σ H s → RelV x v → Vals xs us → r x xs H Q →
    wpAny (model X.prog X.w) X.A (call (.builtin id) (v :: us)) (EP X pins σ Q) X.xe s

theorem Vals.one : ∀ {x : V} {us : List Value}, Vals [x] us → ∃ u, us = [u] ∧ RelV x u
  | _, _, .cons r .nil => ⟨_, rfl, r⟩
theorem Vals.two : ∀ {x y : V} {us : List Value}, Vals [x, y] us → ∃ u v, us = [u, v] ∧ RelV x u ∧ RelV y v
  | _, _, _, .cons r (.cons q .nil) => ⟨_, _, rfl, r, q⟩
theorem Vals.zero : ∀ {us : List Value}, Vals [] us → us = []
  | _, .nil => rfl

section
variable {X : Cx} {pins : List (Addr × Obj)} {σ : St} {H : Hp} {s : Shared} {l b : Addr} {xs ys zs : List V}

theorem Inv.lset {its its' : List Value} {n : Nat} {f : Array Value → Array Value} {t' : Nat} (I : Inv X pins σ H s) (hH : H l = some (.lst xs))
    (e : s.heap.get? l = some { cls := .type "list", data := .seq its.toArray n }) (hf : f its.toArray = its'.toArray) (hv : Vals ys its') (hz : ys.length ≤ sizeLine) :
    Inv X pins σ (upd H l (.lst ys)) { s with heap := s.heap.update l (Obj.mapSeq f), toks := t' } := by
  have q := PySem.IsL.update e f
  rw [hf] at q
  refine I.write (x := l) (e := l) (by rw [hH]; exact trivial) (.inl rfl) (fun b' u hb hu => (Heap.get?_update_other s.heap (Obj.mapSeq f) (Ne.symm hb)).trans hu) ⟨_, q⟩ ?_
  exact ⟨hz, its', _, hv, q⟩
theorem Inv.lnew {its : List Value} {t' : Nat} (I : Inv X pins σ H s) (hv : Vals ys its) (hz : ys.length ≤ sizeLine) :
    Inv X pins σ (upd H s.heap.objs.size (.lst ys)) { s with heap := s.heap.push { cls := .type "list", data := .seq its.toArray }, toks := t' } :=
  I.laid (fun _ _ q => Heap.get?_push_of_some _ q) (Nat.le_refl _) ⟨hz, its, 0, hv, Heap.get?_push_size _ rfl⟩
theorem Inv.fresh (I : Inv X pins σ H s) : H s.heap.objs.size = none := I.hok.fresh (Nat.le_refl _)
theorem Inv.lstM (I : Inv X pins σ H s) (hH : H l = some (.lst xs)) : xs.length ≤ sizeLine ∧ ∃ (its : List Value) (n : Nat), Vals xs its ∧ xs.length = its.length ∧ s.heap.get? l = some { cls := .type "list", data := .seq its.toArray n } := by
  obtain ⟨z, its, n, r, e⟩ := I.hok l _ hH
  exact ⟨z, its, n, r, r.length, e⟩

theorem notLongL {n : Nat} (h : n ≤ sizeLine) : Builtin.List.listTooLong n = false := by
  unfold Builtin.List.listTooLong
  exact decide_eq_false (by omega)
end

section
variable {X : Cx}

def rAppend : V → List V → Hp → VK → Prop := fun x vs H Q => ∃ l xs y, x = .ref l ∧ vs = [y] ∧ H l = some (.lst xs) ∧ xs.length < sizeLine ∧ Q .non (upd H l (.lst (xs ++ [y])))
theorem mt_append : MtM X "list.append" rAppend := by
  intro pins s σ H x vs v us Q I rx rv h
  obtain ⟨l, xs, y, rfl, rfl, hH, hz, q⟩ := h
  cases rx
  obtain ⟨u, rfl, ru⟩ := rv.one
  obtain ⟨z, its, n, r, hl, e⟩ := I.lstM hH
  refine call_meets F.slot_list_append ⟨_, e, rfl⟩ F.entry_list_append (F.args_list_append_2 _ _) (PySem.list_append l its.toArray n u (by rw [List.size_toArray]; omega)) ⟨e, ?_⟩
  refine ⟨.non, _, I.lset (its' := its ++ [u]) hH e (by simp) (r.append (.cons ru .nil)) ?_, rfl, q⟩
  rw [List.length_append, List.length_singleton]
  omega

def rExtend : V → List V → Hp → VK → Prop := fun x vs H Q => ∃ l b xs zs, x = .ref l ∧ vs = [.ref b] ∧ H l = some (.lst xs) ∧ H b = some (.lst zs) ∧ xs.length + zs.length ≤ sizeLine ∧ Q .non (upd H l (.lst (xs ++ zs)))
theorem mt_extend : MtM X "list.extend" rExtend := by
  intro pins s σ H x vs v us Q I rx rv h
  obtain ⟨l, b, xs, zs, rfl, rfl, hH, hB, hz, q⟩ := h
  cases rx
  obtain ⟨u, rfl, ru⟩ := rv.one
  cases ru
  obtain ⟨z, its, n, r, hl, e⟩ := I.lstM hH
  obtain ⟨z2, its2, n2, r2, hl2, e2⟩ := I.lstM hB
  have hsz : its.toArray.size + its2.toArray.size ≤ sizeLine := by rw [List.size_toArray, List.size_toArray]; omega
  have hlong : ¬ (!its.toArray.isEmpty && Builtin.List.listTooLong (its.toArray.size + its2.toArray.size)) = true := by
    rw [notLongL hsz, Bool.and_false]
    exact Bool.false_ne_true
  refine call_meets F.slot_list_extend ⟨_, e, rfl⟩ F.entry_list_extend (F.args_list_extend_2 _ _)
    (AutoSeq1.list_extend_list_list_0 l its.toArray n b its2.toArray n2 hlong (by rw [List.size_toArray]; omega) (by omega)) ⟨e, e2, ?_⟩
  refine ⟨.non, _, I.lset (its' := its ++ its2) hH e (by simp) (r.append r2) ?_, rfl, q⟩
  rw [List.length_append]
  omega





def rCat : R2 := fun x y H Q => ∃ l b xs zs, x = .ref l ∧ y = .ref b ∧ H l = some (.lst xs) ∧ H b = some (.lst zs) ∧ xs.length + zs.length ≤ sizeLine ∧ ∀ p, H p = none → Q (.ref p) (upd H p (.lst (xs ++ zs)))
theorem op_cat : OpR X (binaryOp .Add) rCat := by
  intro pins s σ H x y v u Q I rx ry h
  obtain ⟨l, b, xs, zs, rfl, rfl, hH, hB, hz, q⟩ := h
  cases rx
  cases ry
  obtain ⟨z, its, n, r, hl, e⟩ := I.lstM hH
  obtain ⟨z2, its2, n2, r2, hl2, e2⟩ := I.lstM hB
  refine PySem.P.add_list e e2 ?_ (by rw [List.size_toArray, List.size_toArray]; omega)
  have ea : its.toArray ++ its2.toArray = (its ++ its2).toArray := by simp
  rw [ea]
  exact ⟨.ref _, _, I.lnew (t' := s.toks) (r.append r2) (by rw [List.length_append]; omega), rfl, q _ I.fresh⟩

end

section
variable {prog : Program} {w : World} {A : Around} {E : Value → Shared → Prop} {s : Shared}
end

section
variable {X : Cx}
end
end L2

namespace L2
open PySem PySem.Spec PyProof.Rows

theorem Vals.ints : ∀ {ns : List Int} {us : List Value}, Vals (ns.map V.int) us → IntsAre us ns
  | [], us, h => by
    rw [List.map_nil] at h
    cases h
    exact IntsAre.nil
  | n :: ns, us, h => by
    rw [List.map_cons] at h
    cases h with
    | cons r t =>
      obtain ⟨k, rfl⟩ := r
      exact IntsAre.cons n k (Vals.ints t)
theorem vals_of_ints : ∀ {us : List Value} {ns : List Int}, IntsAre us ns → Vals (ns.map V.int) us
  | _, _, .nil => by rw [List.map_nil]; exact Paired.nil
  | _, _, .cons n t h => by rw [List.map_cons]; exact Paired.cons (show RelV (V.int n) (Value.int n t) from ⟨t, rfl⟩) (vals_of_ints h)
theorem Vals.strs : ∀ {xs : List Str} {us : List Value}, Vals (xs.map V.str) us → StrsAre us xs
  | [], us, h => by
    rw [List.map_nil] at h
    cases h
    exact StrsAre.nil
  | x :: xs, us, h => by
    rw [List.map_cons] at h
    cases h with
    | cons r t =>
      obtain ⟨k, rfl⟩ := r
      exact StrsAre.cons x k (Vals.strs t)
theorem Vals.ref1 {a : Addr} {us : List Value} (r : Vals [V.ref a] us) : us = [Value.ref a] := by
  cases r with
  | cons r t =>
    cases t
    cases r
    rfl
theorem Vals.int2 {i j : Int} {us : List Value} (r : Vals [V.int i, V.int j] us) : ∃ t u, us = [Value.int i t, Value.int j u] := by
  cases r with
  | cons r t =>
    cases t with
    | cons r2 t2 =>
      cases t2
      obtain ⟨t, rfl⟩ := r
      obtain ⟨u, rfl⟩ := r2
      exact ⟨t, u, rfl⟩

section
variable {prog : Program} {w : World} {A : Around} {E : Value → Shared → Prop} {s : Shared} {l : Addr} {its : List Value} {ns : List Int} {Q : Value → Shared → Prop}
theorem sum_raw (hh : A.handled = none) (hl : s.heap.IsList l its.toArray) (hi : IntsAre its ns)
    (h : ∀ h' tk t', (∀ b o, s.heap.get? b = some o → h'.get? b = some o) → Q (.int ns.sum t') { s with heap := h', toks := tk }) : wpAny (model prog w) A (call (.builtin "sum") [.ref l]) Q E s := by
  obtain ⟨xs, e⟩ := hi.allInts.items
  have hn : numsOf (intItems xs).toList = ns := by rw [← e]; exact hi.numsOf
  rw [nums_intItems] at hn
  rw [e] at hl
  refine PySem.sum_intListG hh hl fun h' tk t' hk => ?_
  have := h h' tk t' hk
  rw [preSum_eq, List.take_of_length_le (by simp), hn]; exact this
theorem min_raw (hh : A.handled = none) (hl : s.heap.IsList l its.toArray) (hi : IntsAre its ns) (hne : 0 < ns.length)
    (h : ∀ h' tk M t', (∀ b o, s.heap.get? b = some o → h'.get? b = some o) → M ∈ ns → (∀ a, a ∈ ns → M ≤ a) → Q (.int M t') { s with heap := h', toks := tk }) : wpAny (model prog w) A (call (.builtin "min") [.ref l]) Q E s := by
  obtain ⟨xs, e⟩ := hi.allInts.items
  have hn : numsOf (intItems xs).toList = ns := by rw [← e]; exact hi.numsOf
  rw [nums_intItems] at hn
  subst hn
  rw [e] at hl
  have hsz : 0 < xs.size := by simpa using hne
  refine PySem.min_intList hh hl hsz fun v h' tk hv hk => ?_
  obtain ⟨t, rfl⟩ := intItems_at hv
  obtain ⟨h1, h2⟩ := argBest_lt (numAt xs) (xs.size - 1)
  refine h h' tk _ t hk ?_ fun a ha => ?_
  · rw [numAt_eq]; exact PySem.getD_mem (by rw [List.length_map, Array.length_toList]; omega)
  · obtain ⟨j, hj, rfl⟩ := mem_getD ha
    rw [List.length_map, Array.length_toList] at hj
    rw [← numAt_eq]; exact h2 j (by omega)
end

section
variable {X : Cx}
def rSum (K : PySem.W.Frag) : List V → Hp → VK → Prop := fun vs H Q => ∃ (a : Addr) (ns : List Int), vs = [V.ref a] ∧ SqL K H a (ns.map V.int) ∧ Q (.int ns.sum) H
def rMin (K : PySem.W.Frag) : List V → Hp → VK → Prop := fun vs H Q => ∃ (a : Addr) (ns : List Int), vs = [V.ref a] ∧ SqL K H a (ns.map V.int) ∧ 0 < ns.length ∧ ∀ m, m ∈ ns → (∀ y, y ∈ ns → m ≤ y) → Q (.int m) H
theorem cr_sum (hc : X.calm = true) : CallR X (.builtin "sum") (rSum X.K) := by
  intro pins s σ H vs us Q I r h
  obtain ⟨a, ns, rfl, hs, q⟩ := h
  obtain ⟨its, rv, hl, _⟩ := I.list hs
  rw [Vals.ref1 r]
  exact sum_raw (I.ok.hd hc) hl.isList rv.ints fun h' tk t' hk => ⟨.int _, H, I.kept hk, ⟨_, rfl⟩, q⟩
theorem cr_min (hc : X.calm = true) : CallR X (.builtin "min") (rMin X.K) := by
  intro pins s σ H vs us Q I r h
  obtain ⟨a, ns, rfl, hs, hne, q⟩ := h
  obtain ⟨its, rv, hl, _⟩ := I.list hs
  rw [Vals.ref1 r]
  exact min_raw (I.ok.hd hc) hl.isList rv.ints hne fun h' tk m t' hk h1 h2 => ⟨.int _, H, I.kept hk, ⟨_, rfl⟩, q m h1 h2⟩

def rSorted (K : PySem.W.Frag) : List V → Hp → VK → Prop := fun vs H Q => ∃ (a : Addr) (ns : List Int), vs = [V.ref a] ∧ SqL K H a (ns.map V.int) ∧ ns.length < 64 ∧
  ∀ (ns' : List Int) (p : Addr), ns'.Perm ns → ns'.Pairwise (· ≤ ·) → H p = none → Q (.ref p) (upd H p (.lst (ns'.map V.int)))
theorem small64 {n : Nat} (h : n < 64) : n ≤ sizeLine := by rw [sizeLine_eq]; omega
theorem cr_sorted : CallR X (.builtin "sorted") (rSorted X.K) := by
  intro pins s σ H vs us Q I r h
  obtain ⟨a, ns, rfl, hs, h64, q⟩ := h
  obtain ⟨its, rv, hl, _⟩ := I.list hs
  rw [Vals.ref1 r]
  have hi := rv.ints
  refine PyProof.Rows.sorted_ints hl.isList hi (by rw [hi.length]; exact h64) fun out ns' h1 h2 h3 => ?_
  obtain ⟨ep, he'⟩ := PyProof.Rows.sortedAll_at s.heap its out
  have hlen : (ns'.map V.int).length ≤ sizeLine := by rw [List.length_map, h2.length_eq]; exact small64 h64
  exact ⟨.ref _, upd H (s.heap.objs.size + 1) (.lst (ns'.map V.int)), I.laid (t' := s.toks) (fun _ _ => PyProof.Rows.sortedAll_old) (Nat.le_succ _) ⟨hlen, out.toList, ep, vals_of_ints h1, he'⟩, rfl, q ns' _ h2 h3 (I.hok.fresh (Nat.le_succ _))⟩
end

section
variable {X : Cx}
end

section
variable {X : Cx}
end

section
variable {X : Cx}
end

mutual
inductive Dp (K : PySem.W.Frag) (H : Hp) : V → PyData → Prop
  | non : Dp K H .non .none
  | bl (b : Bool) : Dp K H (.bl b) (.bool b)
  | int (i : Int) : Dp K H (.int i) (.int i)
  | str (x : Str) : Dp K H (.str x) (.str x)
  | lst {a : Addr} {xs : List V} {ds : List PyData} : SqL K H a xs → DpAll K H xs ds → Dp K H (.ref a) (.list ds)
  | tup {a : Addr} {xs : List V} {ds : List PyData} : SqT K H a xs → DpAll K H xs ds → Dp K H (.ref a) (.tuple ds)
inductive DpAll (K : PySem.W.Frag) (H : Hp) : List V → List PyData → Prop
  | nil : DpAll K H [] []
  | cons {v : V} {vs : List V} {d : PyData} {ds : List PyData} : Dp K H v d → DpAll K H vs ds → DpAll K H (v :: vs) (d :: ds)
end
section
variable {X : Cx} {pins : List (Addr × Obj)} {σ : St} {H : Hp} {s : Shared}
mutual
theorem Dp.reads (I : Inv X pins σ H s) : ∀ (d : PyData) (v : V) (u : Value), Dp X.K H v d → RelV v u → ∃ as, Reads s.heap u d as
  | .none, _, _, h, r => by
    cases h
    cases r
    exact ⟨_, Reads.none⟩
  | .bool b, _, _, h, r => by
    cases h
    cases r
    exact ⟨_, Reads.bool b⟩
  | .int i, _, _, h, r => by
    cases h
    obtain ⟨t, rfl⟩ := r
    exact ⟨_, Reads.int i t⟩
  | .str x, _, _, h, r => by
    cases h
    obtain ⟨t, rfl⟩ := r
    exact ⟨_, Reads.str x t⟩
  | .list ds, _, _, h, r => by
    cases h with
    | lst hs ha =>
      cases r
      obtain ⟨its, rv, ⟨o, n, ho, hc, _, hd⟩, _⟩ := I.list hs
      obtain ⟨as, hr⟩ := Dp.readsAll I ds _ its ha rv
      exact ⟨_, Reads.list ho hc hd hr⟩
  | .tuple ds, _, _, h, r => by
    cases h with
    | tup hs ha =>
      cases r
      obtain ⟨its, rv, ⟨o, ho, hc, n, hd⟩, _⟩ := I.tuple hs
      obtain ⟨as, hr⟩ := Dp.readsAll I ds _ its ha rv
      exact ⟨_, Reads.tuple ho hc hd hr⟩
  | .dict _, _, _, h, _ => by cases h
theorem Dp.readsAll (I : Inv X pins σ H s) : ∀ (ds : List PyData) (vs : List V) (us : List Value), DpAll X.K H vs ds → Vals vs us → ∃ as, ReadsAll s.heap us ds as
  | [], _, _, h, r => by
    cases h
    cases r
    exact ⟨_, ReadsAll.nil⟩
  | d :: ds, _, _, h, r => by
    cases h with
    | cons h1 h2 =>
      cases r with
      | cons r1 r2 =>
        obtain ⟨as, q1⟩ := Dp.reads I d _ _ h1 r1
        obtain ⟨bs, q2⟩ := Dp.readsAll I ds _ _ h2 r2
        exact ⟨_, ReadsAll.cons q1 q2⟩
end
end
section
variable {X : Cx}
end
end L2

namespace L2
open PySem PySem.Spec PyProof.Rows
abbrev CellAt (h : Heap) (c : Addr) (v : Option Value) : Prop := h.IsCell c v
def relS (scope sc : Scope) : Scope :=
  { scope with names := scope.names.map fun (n, k) => if (k == .free && sc.kind == .function && sc.names.lookup n == some .cell) then (n, .cell) else (n, k) }

def cloFrom (cells : List (Str × Addr)) : List (Str × NameKind) → List (Str × Addr) → List (Str × Addr)
  | [], acc => acc
  | (n, k) :: r, acc => if k == .free then cloFrom cells r ((n, (cells.lookup n).getD 0) :: acc) else cloFrom cells r acc

theorem closure_loop (env : Env) (f : Str × NameKind → List (Str × Addr) → Sem (ForInStep (List (Str × Addr))))
    (hf : ∀ n k c, f (n, k) c = if k == .free then (do let a ← cellOf env n; pure (.yield ((n, a) :: c))) else pure (.yield c)) :
    ∀ (names : List (Str × NameKind)) (acc : List (Str × Addr)), (∀ y ∈ names, y.2 = .free → ∃ c, env.cells.lookup y.1 = some c) → forIn names acc f = pure (cloFrom env.cells names acc)
  | [], acc, _ => by rw [List.forIn_nil]; rfl
  | (n, k) :: r, acc, h => by
    rw [List.forIn_cons, hf]
    have ih := fun acc => closure_loop env f hf r acc fun y hy => h y (List.mem_cons_of_mem _ hy)
    unfold cloFrom
    by_cases hk : (k == NameKind.free) = true
    · rw [if_pos hk, if_pos hk]
      obtain ⟨c, hc⟩ := h (n, k) List.mem_cons_self (by simpa using hk)
      have e : cellOf env n = pure c := by unfold cellOf; rw [hc]
      rw [e]
      have e2 : (env.cells.lookup n).getD 0 = c := by rw [hc]; rfl
      rw [e2]
      exact ih _
    · rw [if_neg hk, if_neg hk]
      exact ih _
theorem closure_ok {scope : Scope} {env : Env} (h : ∀ y ∈ scope.names, y.2 = .free → ∃ c, env.cells.lookup y.1 = some c) : closureFor scope env = pure (cloFrom env.cells scope.names []) := by
  simp only [closureFor]
  rw [closure_loop env _ (fun n k c => rfl) scope.names [] h]
  rfl

theorem mem_lookup {α : Type} : ∀ {l : List (Str × α)} {n : Str} {c : α}, (n, c) ∈ l → ∃ c', l.lookup n = some c'
  | (k, v) :: r, n, c, h => by
    rw [List.lookup_cons]
    cases hb : n == k with
    | true => exact ⟨_, rfl⟩
    | false =>
      rcases List.mem_cons.mp h with e | h
      · cases e; simp at hb
      · exact mem_lookup h

theorem cloFrom_mem {cells : List (Str × Addr)} : ∀ {names : List (Str × NameKind)} {acc : List (Str × Addr)} {n : Str} {c : Addr}, (n, c) ∈ cloFrom cells names acc → (n, c) ∈ acc ∨ ((n, .free) ∈ names ∧ c = (cells.lookup n).getD 0)
  | [], _, _, _, h => .inl h
  | (m, k) :: r, acc, n, c, h => by
    unfold cloFrom at h
    split at h
    · rename_i hk
      have hk : k = .free := by simpa using hk
      rcases cloFrom_mem h with h | ⟨h1, h2⟩
      · rcases List.mem_cons.mp h with e | h
        · cases e; exact .inr ⟨hk ▸ List.mem_cons_self, rfl⟩
        · exact .inl h
      · exact .inr ⟨List.mem_cons_of_mem _ h1, h2⟩
    · rcases cloFrom_mem h with h | ⟨h1, h2⟩
      · exact .inl h
      · exact .inr ⟨List.mem_cons_of_mem _ h1, h2⟩
theorem cloFrom_acc {cells : List (Str × Addr)} : ∀ {names : List (Str × NameKind)} {acc : List (Str × Addr)} {p : Str × Addr}, p ∈ acc → p ∈ cloFrom cells names acc
  | [], _, _, h => h
  | (m, k) :: r, acc, p, h => by
    unfold cloFrom
    split
    · exact cloFrom_acc (List.mem_cons_of_mem _ h)
    · exact cloFrom_acc h
theorem cloFrom_has {cells : List (Str × Addr)} : ∀ {names : List (Str × NameKind)} {acc : List (Str × Addr)} {n : Str}, (n, .free) ∈ names → (n, (cells.lookup n).getD 0) ∈ cloFrom cells names acc
  | (m, k) :: r, acc, n, h => by
    unfold cloFrom
    rcases List.mem_cons.mp h with e | h
    · cases e
      exact cloFrom_acc List.mem_cons_self
    · split
      · exact cloFrom_has h
      · exact cloFrom_has h

theorem cells_mem : ∀ {names : List (Str × NameKind)} {h : Heap} {acc : List (Str × Addr)} {x : Str} {c : Addr}, (x, c) ∈ cellsFrom h.objs.size names acc →
    (x, c) ∈ acc ∨ ((x, .cell) ∈ names ∧ h.objs.size ≤ c ∧ CellAt (pushCells h names) c none)
  | [], _, _, _, _, h => .inl h
  | (n, k) :: r, h, acc, x, c, hm => by
    unfold cellsFrom at hm
    unfold pushCells
    split at hm
    · rename_i hk
      rw [if_pos hk]
      have hk : k = .cell := by simpa using hk
      rw [← Heap.size_push h { cls := .type "cell", data := .cell none }] at hm
      rcases cells_mem hm with hm | ⟨h1, h2, h3⟩
      · rcases List.mem_cons.mp hm with e | hm
        · cases e
          exact .inr ⟨hk ▸ List.mem_cons_self, Nat.le_refl _, _, pushCells_keeps r _ _ _ (Heap.get?_push_size _ rfl), rfl⟩
        · exact .inl hm
      · rw [Heap.size_push] at h2
        exact .inr ⟨List.mem_cons_of_mem _ h1, Nat.le_of_succ_le h2, h3⟩
    · rename_i hk
      rw [if_neg hk]
      rcases cells_mem hm with hm | ⟨h1, h2, h3⟩
      · exact .inl hm
      · exact .inr ⟨List.mem_cons_of_mem _ h1, h2, h3⟩
theorem cells_acc : ∀ {names : List (Str × NameKind)} {n : Nat} {acc : List (Str × Addr)} {p : Str × Addr}, p ∈ acc → p ∈ cellsFrom n names acc
  | [], _, _, _, h => h
  | (m, k) :: r, n, acc, p, h => by
    unfold cellsFrom
    split
    · exact cells_acc (List.mem_cons_of_mem _ h)
    · exact cells_acc h
theorem cells_has : ∀ {names : List (Str × NameKind)} {n : Nat} {acc : List (Str × Addr)} {x : Str}, (x, .cell) ∈ names → ∃ c, (x, c) ∈ cellsFrom n names acc
  | (m, k) :: r, n, acc, x, h => by
    unfold cellsFrom
    rcases List.mem_cons.mp h with e | h
    · cases e
      exact ⟨n, cells_acc List.mem_cons_self⟩
    · split
      · exact cells_has h
      · exact cells_has h
theorem cells_inj : ∀ {names : List (Str × NameKind)} {h : Heap} {acc : List (Str × Addr)} {x y : Str} {c : Addr}, (∀ p ∈ acc, p.2 < h.objs.size) → (∀ x y c, (x, c) ∈ acc → (y, c) ∈ acc → x = y) →
    (x, c) ∈ cellsFrom h.objs.size names acc → (y, c) ∈ cellsFrom h.objs.size names acc → x = y
  | [], _, _, _, _, _, _, hi, h1, h2 => hi _ _ _ h1 h2
  | (n, k) :: r, h, acc, x, y, c, hl, hi, h1, h2 => by
    unfold cellsFrom at h1 h2
    split at h1
    · rename_i hk
      rw [if_pos hk] at h2
      rw [← Heap.size_push h { cls := .type "cell", data := .cell none }] at h1 h2
      refine cells_inj (h := h.push _) (fun p hp => ?_) (fun x y c a b => ?_) h1 h2
      · rw [Heap.size_push]
        rcases List.mem_cons.mp hp with rfl | hp
        · exact Nat.lt_succ_self _
        · exact Nat.lt_succ_of_lt (hl p hp)
      · rcases List.mem_cons.mp a with e | a <;> rcases List.mem_cons.mp b with e' | b
        · cases e; cases e'; rfl
        · cases e; exact absurd (hl _ b) (Nat.lt_irrefl _)
        · cases e'; exact absurd (hl _ a) (Nat.lt_irrefl _)
        · exact hi _ _ _ a b
    · rename_i hk
      rw [if_neg hk] at h2
      exact cells_inj hl hi h1 h2

theorem newEnv_comp {M : Model} {A : Around} {E : Value → Shared → Prop} {s : Shared} {scope : Scope} {globals : Addr} {closure : List (Str × Addr)} {qual : Str} {func : Option Addr} {code : Value} {around : Env} {builtins : Addr} {Q : Env → Shared → Prop}
    (h : Q (newEnv scope s.heap.objs.size globals (cellsFrom (s.heap.objs.size + 1) scope.names closure) qual func code (some around) builtins)
      { s with heap := pushCells (s.heap.push { cls := .type "dict", data := .dict #[] }) scope.names }) :
    wpAny M A (newFunctionEnv scope globals closure [] qual func code (some around) builtins) Q E s := by
  simp only [newFunctionEnv, Option.isSome_some, if_true]
  refine wpAny_bind (wpAny_alloc ?_)
  refine wpAny_bind (wpAny_layCells _ (fun n k c => rfl) scope.names closure _ _ ?_)
  rw [show ({ s with heap := s.heap.push { cls := .type "dict", data := .dict #[] } } : Shared).heap.objs.size = s.heap.objs.size + 1 from Heap.size_push ..]
  rw [List.forIn_nil]
  exact wpAny_bind (wpAny_pure (wpAny_pure h))

theorem lookup_relS {sc : Scope} : ∀ {names : List (Str × NameKind)} {x : Str} {k : NameKind},
    (names.map fun (n, k) => if (k == NameKind.free && sc.kind == .function && sc.names.lookup n == some .cell) then (n, NameKind.cell) else (n, k)).lookup x = some k →
    ∃ k', names.lookup x = some k' ∧ (k = k' ∨ (k' = .free ∧ k = .cell))
  | [], _, _, h => by simp at h
  | (n, k₀) :: r, x, k, h => by
    have ih := @lookup_relS sc r x k
    have h' : List.lookup x ((if (k₀ == NameKind.free && sc.kind == .function && sc.names.lookup n == some .cell) = true then (n, NameKind.cell) else (n, k₀)) :: (r.map _)) = some k := h
    cases hx : x == n with
    | true =>
      simp only [List.lookup_cons, hx]
      by_cases hc : (k₀ == NameKind.free && sc.kind == .function && sc.names.lookup n == some .cell) = true
      · rw [if_pos hc] at h'
        simp only [List.lookup_cons, hx] at h'
        cases h'
        simp only [Bool.and_eq_true, beq_iff_eq] at hc
        exact ⟨k₀, rfl, .inr ⟨hc.1.1, rfl⟩⟩
      · rw [if_neg hc] at h'
        simp only [List.lookup_cons, hx] at h'
        cases h'
        exact ⟨_, rfl, .inl rfl⟩
    | false =>
      simp only [List.lookup_cons, hx]
      by_cases hc : (k₀ == NameKind.free && sc.kind == .function && sc.names.lookup n == some .cell) = true
      · rw [if_pos hc] at h'
        simp only [List.lookup_cons, hx] at h'
        exact ih h'
      · rw [if_neg hc] at h'
        simp only [List.lookup_cons, hx] at h'
        exact ih h'



structure BlkOk (N : List Str) (sc scope : Scope) (own : List (Str × Nat)) : Prop where
  kind : scope.kind = .function
  uniq : ∀ y ∈ scope.names, scope.names.lookup y.1 = some y.2
  ix : ∀ p ∈ own, N[p.2]? = some p.1
  free : ∀ y ∈ scope.names, y.2 = .free → sc.names.lookup y.1 = some .cell ∨ sc.names.lookup y.1 = some .free
  own : ∀ y ∈ scope.names, y.2 = .local ∨ y.2 = .cell → y.1 ∈ own.map (·.1) ∨ y.1 ∉ N
def wipe (σ : St) : List Nat → St
  | [] => σ
  | v :: vs => (wipe σ vs).set v none
theorem wipe_length (σ : St) : ∀ vs : List Nat, (wipe σ vs).length = σ.length
  | [] => rfl
  | v :: vs => by unfold wipe; rw [List.length_set, wipe_length σ vs]
theorem wipe_some {σ : St} {i : Nat} {x : V} : ∀ {vs : List Nat}, (wipe σ vs)[i]? = some (some x) → σ[i]? = some (some x) ∧ i ∉ vs
  | [], h => ⟨h, by simp⟩
  | v :: vs, h => by
    unfold wipe at h
    by_cases hi : v = i
    · subst hi
      by_cases hv : v < (wipe σ vs).length
      · rw [List.getElem?_set_self hv] at h; cases h
      · rw [List.getElem?_eq_none (by simpa using hv)] at h; cases h
    · rw [List.getElem?_set_ne hi] at h
      obtain ⟨h1, h2⟩ := wipe_some h
      exact ⟨h1, by simp only [List.mem_cons, not_or]; exact ⟨fun e => hi e.symm, h2⟩⟩

abbrev Cx.blk (X : Cx) (s : Shared) (H : Hp) (scope : Scope) (cenv : Env) (fp : List Addr) : Cx := { X with s_0 := s, H_0 := H, env := cenv, outer := X.stack, ex := fp, fn := fun x => scope.names.lookup x == some .cell, pn := [], xe := fun _ _ => False }
section
variable {X : Cx} {pins : List (Addr × Obj)} {σ : St} {H : Hp} {s : Shared}
theorem block_start {scope : Scope} {own : List (Str × Nat)} {fp : List Addr} (I : Inv X pins σ H s) (ok : BlkOk X.N X.env.scope scope own) (hN : X.N.Nodup) (hfp : ∀ b ∈ fp, FpOk X pins H b ∧ b < s.heap.objs.size) :
    Inv (X.blk s H scope (compEnvC scope (cellsFrom (s.heap.objs.size + 1) scope.names (cloFrom X.env.cells scope.names [])) s.heap.objs.size X.env) fp) [] (wipe σ (own.map (·.2))) H { s with heap := pushCells (s.heap.push { cls := .type "dict", data := .dict #[] }) scope.names } := by
  have hfree : ∀ y ∈ scope.names, y.2 = .free → ∃ c, X.env.cells.lookup y.1 = some c := fun y hy e => by
    rcases ok.free y hy e with k | k
    · exact I.ok.has _ (.inl k)
    · exact I.ok.has _ (.inr k)
  generalize hcenv : compEnvC scope (cellsFrom (s.heap.objs.size + 1) scope.names (cloFrom X.env.cells scope.names [])) s.heap.objs.size X.env = cenv
  have kp : ∀ b o, s.heap.get? b = some o → (pushCells (s.heap.push { cls := .type "dict", data := .dict #[] }) scope.names).get? b = some o := fun b o e => pushCells_keeps _ _ _ _ (Heap.get?_push_of_some _ e)
  have hL : cenv.locals = s.heap.objs.size := by rw [← hcenv]; rfl
  have hcl : cenv.cells = cellsFrom (s.heap.objs.size + 1) scope.names (cloFrom X.env.cells scope.names []) := by rw [← hcenv]; rfl
  have hsc : cenv.scope = relS scope X.env.scope := by rw [← hcenv]; rfl
  rw [← Heap.size_push s.heap { cls := .type "dict", data := .dict #[] }] at hcl
  have cm : ∀ {y c}, (y, c) ∈ cloFrom X.env.cells scope.names [] → X.env.cells.lookup y = some c ∧ c < s.heap.objs.size := fun {y c} hm => by
    rcases cloFrom_mem hm with hm | ⟨h1, rfl⟩
    · cases hm
    · obtain ⟨c, hc⟩ := hfree _ h1 rfl
      rw [hc]
      obtain ⟨w, z⟩ := I.cell _ _ hc
      exact ⟨rfl, z.lt⟩
  have mem : ∀ {y c}, cenv.cells.lookup y = some c → (X.env.cells.lookup y = some c ∧ c < s.heap.objs.size) ∨ (s.heap.objs.size + 1 ≤ c ∧ CellAt (pushCells (s.heap.push { cls := .type "dict", data := .dict #[] }) scope.names) c none) := fun {y c} e => by
    rw [hcl] at e
    rcases cells_mem (PySem.mem_of_lookup e) with hm | ⟨_, h2, h3⟩
    · exact .inl (cm hm)
    · rw [Heap.size_push] at h2; exact .inr ⟨h2, h3⟩
  have look : ∀ {y}, scope.names.lookup y = some .free → ∃ c, cenv.cells.lookup y = some c ∧ X.env.cells.lookup y = some c := fun {y} hl => by
    have hy : (y, NameKind.free) ∈ scope.names := PySem.mem_of_lookup hl
    obtain ⟨c', e'⟩ := mem_lookup (cells_acc (names := scope.names) (n := (s.heap.push { cls := .type "dict", data := .dict #[] }).objs.size) (cloFrom_has (cells := X.env.cells) (acc := []) hy))
    rw [← hcl] at e'
    refine ⟨c', e', ?_⟩
    rw [hcl] at e'
    rcases cells_mem (PySem.mem_of_lookup e') with hm | ⟨h1, _, _⟩
    · exact (cm hm).1
    · have := ok.uniq _ h1
      rw [hl] at this; cases this
  have okB : (X.blk s H scope cenv fp).Ok := by
    refine ⟨I.ok.mod, by show cenv.scope.kind = _; rw [hsc]; exact ok.kind, by show cenv.globals = _; rw [← hcenv]; exact I.ok.glob, by show cenv.builtins = _; rw [← hcenv]; exact I.ok.blt, by show s.heap.objs.size ≤ cenv.locals; rw [hL]; exact Nat.le_refl _,
      fun y z c e1 e2 => ?_, fun y hy => ?_, fun y c z e => ?_, I.ok.hd, I.ok.frames, .inl rfl, fun b hb => ⟨?_, fun y c e z => ?_⟩, I.bs, Nat.le_trans I.ok.bsz I.sz, fun b o e hb => ?_, fun b hb z => ?_, I.stack, I.stkFree⟩
    · have e1 : cenv.cells.lookup y = some c := e1
      have e2 : cenv.cells.lookup z = some c := e2
      rw [hcl] at e1 e2
      refine cells_inj (fun p hp => ?_) (fun y z c a b => I.ok.inj y z c (cm a).1 (cm b).1) (PySem.mem_of_lookup e1) (PySem.mem_of_lookup e2)
      rw [Heap.size_push]
      exact Nat.lt_succ_of_lt (cm (y := p.1) (c := p.2) hp).2
    · show ∃ c, cenv.cells.lookup y = some c
      have key : ∀ k, cenv.kindOf y = some k → (k = .cell ∨ k = .free) → ∃ c, cenv.cells.lookup y = some c := fun k hk hk' => by
        unfold Env.kindOf at hk
        rw [hsc] at hk
        obtain ⟨k', e, r⟩ := lookup_relS hk
        have : k' = .cell ∨ k' = .free := by
          rcases r with rfl | ⟨rfl, _⟩
          · exact hk'
          · exact .inr rfl
        rcases this with rfl | rfl
        · obtain ⟨c, hm⟩ := cells_has (n := (s.heap.push { cls := .type "dict", data := .dict #[] }).objs.size) (acc := cloFrom X.env.cells scope.names []) (PySem.mem_of_lookup e)
          obtain ⟨c', e'⟩ := mem_lookup hm
          exact ⟨c', by rw [hcl]; exact e'⟩
        · obtain ⟨c, h1, _⟩ := look e
          exact ⟨c, h1⟩
      rcases hy with hy | hy
      · exact key _ hy (.inl rfl)
      · exact key _ hy (.inr rfl)
    · have z : (scope.names.lookup y == some NameKind.cell) = true := z
      have z : scope.names.lookup y = some .cell := by simpa using z
      have e : cenv.cells.lookup y = some c := e
      rw [hcl] at e
      rcases cells_mem (PySem.mem_of_lookup e) with hm | ⟨_, h2, _⟩
      · rcases cloFrom_mem hm with hm | ⟨h1, _⟩
        · cases hm
        · have q := ok.uniq _ h1
          rw [z] at q; cases q
      · rw [Heap.size_push] at h2
        exact Nat.le_of_succ_le h2
    · show b ≠ cenv.locals
      rw [hL]; exact Nat.ne_of_lt (hfp b hb).2
    · have e : cenv.cells.lookup y = some c := e
      rcases mem e with ⟨h1, _⟩ | ⟨h1, _⟩
      · exact (hfp b hb).1.2.2.2.2.1 y c h1 z
      · have h2 : s.heap.objs.size + 1 ≤ b := by rw [← z]; exact h1
        exact absurd (Nat.lt_of_lt_of_le (hfp b hb).2 (Nat.le_of_succ_le h2)) (Nat.lt_irrefl _)
    · rcases (hfp b hb).1.2.2.2.1 with z | z
      · exact I.ok.noex b o e z
      · exact absurd (Nat.lt_of_lt_of_le (Heap.lt_size e) (Nat.le_trans I.ok.bsz z)) (Nat.lt_irrefl _)
    · rcases List.mem_cons.mp (I.stkSub b z) with z | z
      · exact (hfp b hb).1.2.1 z
      · exact (hfp b hb).1.2.2.1 z
  refine ⟨okB, rfl, I.bare, Un.kept kp, ⟨fun _ => none, ?_, fun i y av e1 e2 e3 => ?_⟩, fun y c e => ?_, ?_, fun y c e => ?_, fun p hp => ?_, I.hok.kept kp, by rw [wipe_length]; exact I.len⟩
  · show Heap.Ns _ cenv.locals _
    rw [hL]
    exact Heap.Ns.keeps (Heap.Ns.new ..) fun b o e => pushCells_keeps _ _ _ _ e
  · obtain ⟨e2, hne⟩ := wipe_some e2
    have hfr : scope.names.lookup y = some .free ∧ (cenv.kindOf y = some .cell ∨ cenv.kindOf y = some .free) := by
      have key : ∀ k, cenv.scope.names.lookup y = some k → k = .local ∨ k = .cell ∨ k = .free → scope.names.lookup y = some .free ∧ (cenv.kindOf y = some .cell ∨ cenv.kindOf y = some .free) := fun k hk hk' => by
        have hk0 := hk
        rw [hsc] at hk
        obtain ⟨k', e, r⟩ := lookup_relS hk
        have no : ¬ (k' = .local ∨ k' = .cell) := fun hh => by
          rcases ok.own _ (PySem.mem_of_lookup e) hh with e' | e'
          · obtain ⟨p, hp, hpy⟩ := List.mem_map.mp e'
            have e3 := ok.ix p hp
            have : p.1 = y := hpy
            rw [this] at e3
            exact hne (List.mem_map.mpr ⟨p, hp, nodup_ix hN e3 e1⟩)
          · exact e' (List.mem_of_getElem? e1)
        rcases r with rfl | ⟨rfl, rfl⟩
        · rcases hk' with rfl | rfl | rfl
          · exact absurd (.inl rfl) no
          · exact absurd (.inr rfl) no
          · exact ⟨e, .inr hk0⟩
        · exact ⟨e, .inl hk0⟩
      have e3 : Vis cenv.scope y := e3
      rcases e3 with e3 | e3 | e3
      · exact key _ e3 (.inl rfl)
      · exact key _ e3 (.inr (.inl rfl))
      · exact key _ e3 (.inr (.inr rfl))
    obtain ⟨m, hn, hl⟩ := I.loc
    have hvis : Vis X.env.scope y := (ok.free _ (PySem.mem_of_lookup hfr.1) rfl).elim (fun k => .inr (.inl k)) (fun k => .inr (.inr k))
    obtain ⟨w, r, q⟩ := hl i y av e1 e2 hvis
    refine ⟨w, r, .inr ⟨hfr.2, ?_⟩⟩
    obtain ⟨c, h1, h2⟩ := look hfr.1
    rcases q with ⟨k, _⟩ | ⟨_, c', e', z⟩
    · have k : X.env.scope.names.lookup y = some .local := k
      rcases ok.free _ (PySem.mem_of_lookup hfr.1) rfl with k' | k' <;> rw [show X.env.scope.names.lookup y = _ from k'] at k <;> cases k
    · rw [h2] at e'; cases e'
      exact ⟨c, h1, z.keeps kp⟩
  · have e : cenv.cells.lookup y = some c := e
    rcases mem e with ⟨h1, _⟩ | ⟨_, z⟩
    · obtain ⟨w, z⟩ := I.cell y c h1
      exact ⟨w, z.keeps kp⟩
    · exact ⟨_, z⟩
  · show H cenv.locals = none
    rw [hL]; exact I.hok.fresh (Nat.le_refl _)
  · have e : cenv.cells.lookup y = some c := e
    rcases mem e with ⟨h1, _⟩ | ⟨h1, _⟩
    · exact I.freeC y c h1
    · exact I.hok.fresh (Nat.le_of_succ_le h1)
  · exact absurd (show p ∈ ([] : List (Addr × Obj)) ++ [] from hp) (by simp)

theorem app_ok {E : Value → Shared → Prop} {D : Addr} {xs : List V} {y : V} {v : Value} {Q : Value → Shared → Prop} (I : Inv X pins σ H s) (hD : H D = some (.lst xs)) (hz : xs.length < sizeLine) (r : RelV y v)
    (h : ∀ s', Inv X pins σ (upd H D (.lst (xs ++ [y]))) s' → Q .none s') : wpAny (model X.prog X.w) X.A (call (.builtin "list.append") [.ref D, v]) Q E s := by
  obtain ⟨hz', its, n, ri, e⟩ := I.hok D _ hD
  have hl := ri.length
  refine append_at (hsz := by rw [List.size_toArray]; omega) e fun h' sb ho' => ?_
  refine h { s with heap := h' } (I.write (t' := s.toks) (by rw [hD]; trivial) (.inl rfl) (fun b u hb q => (sb.2 b hb).trans q) ⟨_, ho'⟩ ⟨by rw [List.length_append]; exact hz, its ++ [v], n + 1, ri.append (.cons r .nil), ?_⟩)
  rw [ho']
  simp

def PTs (X : Cx) (ifs : List Expr) (t : TT) : Prop :=
  ∀ (pins : List (Addr × Obj)) (s : Shared) (σ : St) (H : Hp) (Q : Bool → Hp → Prop), Inv X pins σ H s → t σ H Q →
    wpAny (model X.prog X.w) X.A (forIn ifs true fun c r => if r = true then do let ok ← isTrue c X.env (eval c X.env); pure (ForInStep.yield ok) else pure (ForInStep.yield r)) (TP X pins σ Q) X.xe s
def tYes : TT := fun _ H Q => Q true H
theorem pts_nil : PTs X [] tYes := fun _ _ _ H _ I h => wpAny_tests_nil ⟨H, I, h⟩
theorem pts_one {c : Expr} {t : TT} (h : PT X c t) : PTs X [c] t := fun pins s σ H Q I hw => wpAny_tests_one (h pins s σ H Q I hw)
end

theorem thnF {α : Type} {t : Sem α} {Q Q' : α → Shared → Prop} {M : Model} {A : Around} {E : Value → Shared → Prop} {s : Shared} (h : wpAny M A t Q (fun _ _ => False) s) (hQ : ∀ a s, Q a s → Q' a s) : wpAny M A t Q' E s := wpAny_mono h hQ fun _ _ z => False.elim z

theorem compLoop_any {prog : Program} {w : World} {A : Around} {R : Result → Shared → Prop} {s : Shared} {elt target iter : Expr} {ifs : List Expr} {scope : Scope} {pos : Pos} {it acc : Value} {env : Env} (I : Nat → Shared → Prop)
    (turn : ∀ n s, I n s → wpAny (model prog w) A (pyNext it) (fun r s₁ => match r with
      | none => R (.ok .next) s₁
      | some v => wpAny (model prog w) A (letOwnedTupleGo target it v) (fun _ s₁' => wpAny (model prog w) A (assign target env v) (fun _ s₂ =>
          wpAny (model prog w) A (forIn ifs true fun c r => if r = true then do let ok ← isTrue c env (eval c env); pure (ForInStep.yield ok) else pure (ForInStep.yield r)) (fun ok s₃ =>
            if ok = true then wpAny (model prog w) A (eval elt env) (fun x s₄ =>
              wpAny (model prog w) A (call (.builtin "list.append") [acc, x]) (fun _ s₅ => ∃ m, m < n ∧ I m s₅) (notedBy (model prog w) A env fun e s' => R (.error e) s') s₄) (notedBy (model prog w) A env fun e s' => R (.error e) s') s₃
            else ∃ m, m < n ∧ I m s₃) (notedBy (model prog w) A env fun e s' => R (.error e) s') s₂) (notedBy (model prog w) A env fun e s' => R (.error e) s') s₁') (notedBy (model prog w) A env fun e s' => R (.error e) s') s₁) (notedBy (model prog w) A env fun e s' => R (.error e) s') s)
    (n : Nat) (h : I n s) :
    codeAny (model prog w) A (.compLoop (.ListComp elt [⟨target, iter, ifs, 0⟩] scope pos) 0 it acc env) R s := by
  refine codeAny_loop rfl I (fun n s hI => ?_) n h
  show wpAny _ A ((compTurn (.ListComp elt [⟨target, iter, ifs, 0⟩] scope pos) 0 it acc env).onRaise (fun x => do noteFrame x env; theTreesLotGoes x)) _ _ s
  refine wpAny_noted ?_
  rw [compTurn_list]
  refine wpAny_bind (wpAny_standAt (wpAny_bind (wpAny_mono (turn n s hI) (fun r s₁ h₁ => ?_) fun _ _ h' => h')))
  cases r with
  | none => exact wpAny_pure h₁
  | some v =>
    refine wpAny_bind (wpAny_mono h₁ (fun _ s₁' h₁' => ?_) fun _ _ h' => h')
    refine wpAny_bind (wpAny_mono h₁' (fun _ s₂ h₂ => wpAny_bind (wpAny_mono h₂ (fun ok s₃ h₃ => ?_) fun _ _ h' => h')) fun _ _ h' => h')
    cases ok with
    | false => exact wpAny_pure ⟨rfl, h₃⟩
    | true =>
      exact wpAny_bind (wpAny_bind (wpAny_mono h₃ (fun x s₄ h₄ => wpAny_bind (wpAny_mono h₄ (fun _ s₅ h₅ => wpAny_pure (wpAny_pure ⟨rfl, h₅⟩)) fun _ _ h' => h')) fun _ _ h' => h'))

section
variable {X : Cx}
def tLc (wi : TI) (g : TG) (tt : TT) (te : TE) (vs : List Nat) : TE := fun σ H Q => wi σ H fun J H1 => ∀ D, H1 D = none → ∃ W : Nat → Nat → Hp → Prop, (∃ m, W 0 m (upd H1 D (.lst []))) ∧ ∀ i m H, W i m H →
  (J.stop i H ∧ Q (.ref D) H) ∨ (J.go i H ∧ ∃ Nx : Hp → Prop, (∀ H', Nx H' → ∃ m', m' < m ∧ W (i + 1) m' H') ∧ ∀ x H', J.yld i H x H' → g x (wipe σ vs) H' fun σ2 H2 => wipe σ2 vs = wipe σ vs ∧ tt σ2 H2 fun b H3 =>
    if b = true then te σ2 H3 fun y H4 => ∃ acc, H4 D = some (.lst acc) ∧ acc.length < sizeLine ∧ Nx (upd H4 D (.lst (acc ++ [y]))) else Nx H3)
theorem lc_core {pins : List (Addr × Obj)} {s : Shared} {σ : St} {H : Hp} {Q : VK} {elt tg iter : Expr} {ifs : List Expr} {scope : Scope} {own : List (Str × Nat)} {pos pos' : Pos} {wi : TI} {g : TG} {tt : TT} {te : TE} {use : Option (Value → Sem Unit)} {Qf : Value → Shared → Prop}
    (hc : X.calm = true) (hN : X.N.Nodup) (I : Inv X pins σ H s) (hi : PI X tg iter wi) (ok : BlkOk X.N X.env.scope scope own)
    (hg : ∀ (s : Shared) (H : Hp) (C : Addr) (cl : List (Str × Addr)) (fp : List Addr), PG (X.blk s H scope (compEnvC scope cl C X.env) fp) tg g) (ht : ∀ (s : Shared) (H : Hp) (C : Addr) (cl : List (Str × Addr)) (fp : List Addr), PTs (X.blk s H scope (compEnvC scope cl C X.env) fp) ifs tt)
    (he : ∀ (s : Shared) (H : Hp) (C : Addr) (cl : List (Str × Addr)) (fp : List Addr), PE (X.blk s H scope (compEnvC scope cl C X.env) fp) elt te) (hs : ∀ x, foldedSetIterable iter X.env x = pure x)
    (h : tLc wi g tt te (own.map (·.2)) σ H Q)
    (hRR : ∀ D C s' m H', Inv X pins σ H' s' → Q (.ref D) H' → s'.heap.Ns C m → FpOk X pins H' C → compPost (model X.prog X.w) X.A X.xe use Qf (.ref D) C (.ok .next) s') :
    wpAny (model X.prog X.w) X.A (comprehension (.ListComp elt [⟨tg, iter, ifs, 0⟩] scope pos) scope X.env pos' (newList []) false (eval iter X.env) use) Qf X.xe s := by
  have hfree : ∀ y ∈ scope.names, y.2 = .free → ∃ c, X.env.cells.lookup y.1 = some c := fun y hy e => by
    rcases ok.free y hy e with k | k
    · exact I.ok.has _ (.inl k)
    · exact I.ok.has _ (.inr k)
  refine wpAny_comprehension_free (use := use) rfl hs (closure_ok hfree) ok.kind (fun y hy e => by rw [ok.uniq y hy, e])
    (thn (hi pins s σ H _ I h) fun xv s1 hx => thn hx fun itv s2 h2 => ?_)
  obtain ⟨it, fp, tn, J, H2, e, I2, T, st2, f2, q⟩ := h2
  subst e
  refine wpAny_newObj_type (newEnv_comp ?_) (by show 0 ≤ sizeLine; decide)
  generalize hD : s2.heap.objs.size = D
  have hDn : H2 D = none := I2.hok.fresh (Nat.le_of_eq hD)
  obtain ⟨W, ⟨m0, w0⟩, turn⟩ := q D hDn
  -- the new list
  generalize hs3 : ({ s2 with heap := s2.heap.push { cls := .type "list", data := .seq ([] : List Value).toArray } } : Shared) = s3
  have I3 : Inv X pins σ (upd H2 D (.lst [])) s3 := by
    rw [← hs3]
    refine I2.laid (t' := s2.toks) (fun b o e => Heap.get?_push_of_some _ e) (Nat.le_of_eq hD) ⟨Nat.zero_le _, [], 0, .nil, ?_⟩
    rw [← hD]
    exact Heap.get?_push_size _ rfl
  have h3 : s3.heap = s2.heap.push { cls := .type "list", data := .seq ([] : List Value).toArray } := by rw [← hs3]
  have sz : ∀ b ∈ fp, b < s2.heap.objs.size := fun b hb => by
    obtain ⟨o, e, _⟩ := T.obj _ _ st2 b hb
    exact Heap.lt_size e
  have f3 : ∀ b ∈ fp, FpOk X pins (upd H2 D (.lst [])) b ∧ b < s3.heap.objs.size := fun b hb => by
    have hlt := sz b hb
    refine ⟨⟨?_, (f2 b hb).2⟩, by rw [h3, Heap.size_push]; exact Nat.lt_succ_of_lt hlt⟩
    rw [upd_ne (by rw [← hD]; exact Nat.ne_of_lt hlt)]
    exact (f2 b hb).1
  have st3 : tn 0 s3.heap := T.keep _ _ _ st2 fun b _ o e => by rw [h3]; exact Heap.get?_push_of_some _ e
  have I4 := block_start I3 ok hN f3
  have pg := hg s3 (upd H2 D (.lst [])) s3.heap.objs.size (cellsFrom (s3.heap.objs.size + 1) scope.names (cloFrom X.env.cells scope.names [])) fp
  have pt := ht s3 (upd H2 D (.lst [])) s3.heap.objs.size (cellsFrom (s3.heap.objs.size + 1) scope.names (cloFrom X.env.cells scope.names [])) fp
  have pe := he s3 (upd H2 D (.lst [])) s3.heap.objs.size (cellsFrom (s3.heap.objs.size + 1) scope.names (cloFrom X.env.cells scope.names [])) fp
  show codeAny _ _ (.compStart (.ListComp elt [⟨tg, iter, ifs, 0⟩] scope pos) 0 (.ref it) (.ref D) (compEnvC scope (cellsFrom (s3.heap.objs.size + 1) scope.names (cloFrom X.env.cells scope.names [])) s3.heap.objs.size X.env)) (compPost (model X.prog X.w) X.A X.xe use Qf (.ref D) s3.heap.objs.size) { s3 with heap := pushCells (s3.heap.push { cls := .type "dict", data := .dict #[] }) scope.names }
  have nfp : ∀ b ∈ fp, (upd H2 D (.lst [])) b = none := fun b hb => (f3 b hb).1.1
  generalize hce : compEnvC scope (cellsFrom (s3.heap.objs.size + 1) scope.names (cloFrom X.env.cells scope.names [])) s3.heap.objs.size X.env = ce at I4 pg pt pe ⊢
  have cL : ce.locals = s3.heap.objs.size := by subst hce; rfl
  generalize hH3 : upd H2 D (.lst []) = H3 at I3 I4 pg pt pe w0 nfp f3
  generalize hs4 : ({ s3 with heap := pushCells (s3.heap.push { cls := .type "dict", data := .dict #[] }) scope.names } : Shared) = s4 at I4 ⊢
  have st4 : tn 0 s4.heap := T.keep _ _ _ st3 fun b _ o e => by rw [← hs4]; exact pushCells_keeps _ _ _ _ (Heap.get?_push_of_some _ e)
  have stat : ∀ {σ' : St} {H' : Hp} {s' : Shared}, Inv (X.blk s3 H3 scope ce fp) [] σ' H' s' → (∀ b ∈ fp, H' b = none) → ∀ b ∈ fp, FpOk (X.blk s3 H3 scope ce fp) [] H' b := fun {σ' H' s'} I' hn b hb =>
    ⟨hn b hb, (I'.ok.exf b hb).1, I'.ok.exfs b hb, .inl hb, fun x c e => (I'.ok.exf b hb).2 x c e, fun p hp => absurd (show p ∈ ([] : List (Addr × Obj)) ++ [] from hp) (by simp)⟩
  have loop : codeAny (model X.prog X.w) X.A (.compLoop (.ListComp elt [⟨tg, iter, ifs, 0⟩] scope pos) 0 (.ref it) (.ref D) ce) (compPost (model X.prog X.w) X.A X.xe use Qf (.ref D) s3.heap.objs.size) s4 := by
    refine compLoop_any (fun n s' => ∃ i H', Inv (X.blk s3 H3 scope ce fp) [] (wipe σ (own.map (·.2))) H' s' ∧ tn i s'.heap ∧ (∀ b ∈ fp, H' b = none) ∧ W i n H') ?_ m0 ⟨0, H3, I4, st4, nfp, w0⟩
    rintro n s5 ⟨i, H5, I5, st5, n5, w5⟩
    rcases turn i n H5 w5 with ⟨stop, qq⟩ | ⟨go, Nx, hNx, step⟩
    · have td := T.done (X.blk s3 H3 scope ce fp) rfl rfl rfl hc i [] s5 _ H5 (fun _ _ => False) I5 (stat I5 n5) st5 stop
      refine thnF td fun r s6 ⟨hr, I6⟩ => ?_
      subst hr
      -- back in the def's context
      have I7 : Inv X pins σ H5 s6 := I3.call' (ch := fp) I6.os I6.base I6.hok I6.bare fun b hb => ⟨(f3 b hb).1.2.2.2.1, (f3 b hb).1.2.1, (f3 b hb).1.2.2.2.2.1, (f3 b hb).1.2.2.2.2.2⟩
      have nC : H5 s3.heap.objs.size = none := by
        have z : H5 ce.locals = none := I6.free
        rw [cL] at z
        exact z
      obtain ⟨m, hn, _⟩ := I6.loc
      have hn : s6.heap.Ns ce.locals m := hn
      rw [cL] at hn
      exact hRR D s3.heap.objs.size s6 m H5 I7 qq hn (I3.fpOk (Nat.le_refl _) nC)
    · have ti := T.item (X.blk s3 H3 scope ce fp) rfl rfl rfl hc i [] s5 _ H5 (fun _ _ => False) I5 (stat I5 n5) st5 go
      refine thnF ti fun r s6 ⟨u, hr, h6⟩ => ?_
      subst hr
      refine thnF h6 fun _ s7 ⟨x, H7, I7, r7, y7, st7, n7⟩ => ?_
      have I7' := I7.pinned (stat I7 n7) (T.obj _ _ st7)
      refine thnF (pg _ s7 _ H7 x u _ I7' r7 (step x H7 y7)) fun _ s8 ⟨σ8, H8, I8, hw8, q8⟩ => ?_
      refine thnF (pt _ s8 σ8 H8 _ I8 q8) fun b s9 ⟨H9, I9, q9⟩ => ?_
      -- the turn's end
      have fin : ∀ {s' : Shared} {H' : Hp}, Inv (X.blk s3 H3 scope ce fp) ([] ++ pinsAt fp s7.heap) σ8 H' s' → Nx H' → ∃ m, m < n ∧ ∃ i H', Inv (X.blk s3 H3 scope ce fp) [] (wipe σ (own.map (·.2))) H' s' ∧ tn i s'.heap ∧ (∀ b ∈ fp, H' b = none) ∧ W i m H' := fun {s' H'} I' nx => by
        obtain ⟨m', hm, w'⟩ := hNx H' nx
        have pin' : ∀ b ∈ fp, ∀ o, s7.heap.get? b = some o → s'.heap.get? b = some o ∧ H' b = none := fun b hb o e =>
          let z := I'.pin (b, o) (List.mem_append_right _ (List.mem_append_right _ (mem_pinsAt hb e)))
          ⟨z.1, z.2.1⟩
        have hl : (wipe σ (own.map (·.2))).length = σ8.length := by rw [← hw8, wipe_length]
        refine ⟨m', hm, i + 1, H', (I'.unpinned (pins := [])).weak hl (fun j v e => ?_), T.keep _ _ _ st7 fun b hb o e => (pin' b hb o e).1, fun b hb => ?_, w'⟩
        · rw [← hw8] at e
          exact (wipe_some e).1
        · obtain ⟨o, e, _⟩ := T.obj _ _ st7 b hb
          exact (pin' b hb o e).2
      cases b with
      | false =>
        simp only [Bool.false_eq_true, if_false] at q9 ⊢
        exact fin I9 q9
      | true =>
        simp only [if_true] at q9 ⊢
        refine thnF (pe _ s9 σ8 H9 _ I9 q9) fun z s10 ⟨yv, H10, I10, r10, acc, hD10, hz10, nx⟩ => ?_
        exact app_ok (X := X.blk s3 H3 scope ce fp) I10 hD10 hz10 r10 fun s11 I11 => fin I11 nx
  exact codeAny_compStart_list loop (T.self X.A 0 _ _ _ st4 loop)
theorem pe_lc {elt tg iter : Expr} {ifs : List Expr} {scope : Scope} {own : List (Str × Nat)} {pos : Pos} {wi : TI} {g : TG} {tt : TT} {te : TE} (hc : X.calm = true) (hN : X.N.Nodup) (hi : PI X tg iter wi) (ok : BlkOk X.N X.env.scope scope own)
    (hg : ∀ (s : Shared) (H : Hp) (C : Addr) (cl : List (Str × Addr)) (fp : List Addr), PG (X.blk s H scope (compEnvC scope cl C X.env) fp) tg g) (ht : ∀ (s : Shared) (H : Hp) (C : Addr) (cl : List (Str × Addr)) (fp : List Addr), PTs (X.blk s H scope (compEnvC scope cl C X.env) fp) ifs tt)
    (he : ∀ (s : Shared) (H : Hp) (C : Addr) (cl : List (Str × Addr)) (fp : List Addr), PE (X.blk s H scope (compEnvC scope cl C X.env) fp) elt te) (hs : ∀ x, foldedSetIterable iter X.env x = pure x := by intro _; rfl) :
    PE X (.ListComp elt [⟨tg, iter, ifs, 0⟩] scope pos) (tLc wi g tt te (own.map (·.2))) := by
  intro pins s σ H Q I h
  rw [eval_ListComp]
  refine lc_core hc hN I hi ok hg ht he hs h fun D C s' m H' I' q hn f => ⟨m, hn, fun h'' sb => ?_⟩
  obtain ⟨f0, f1, f2, f3, f4, f5⟩ := f
  exact ⟨.ref D, H', I'.turned (t' := s'.toks) (fun b o hb e => (sb.2 b hb).trans e) f0 f1 f3 f4 f5, rfl, q⟩
theorem ps_setLc {i : Nat} {y : Str} {py : Pos} {elt tg iter : Expr} {ifs : List Expr} {scope : Scope} {own : List (Str × Nat)} {pos spos : Pos} {wi : TI} {g : TG} {tt : TT} {te : TE} (hc : X.calm = true) (hN : X.N.Nodup) (hy : X.N[i]? = some y) (hyl : X.env.scope.names.lookup y = some .local)
    (hsw : swapsWith (.ListComp elt [⟨tg, iter, ifs, 0⟩] scope pos) (some (.Name y py)) spos.line X.env = pure true) (hi : PI X tg iter wi) (ok : BlkOk X.N X.env.scope scope own)
    (hg : ∀ (s : Shared) (H : Hp) (C : Addr) (cl : List (Str × Addr)) (fp : List Addr), PG (X.blk s H scope (compEnvC scope cl C X.env) fp) tg g) (ht : ∀ (s : Shared) (H : Hp) (C : Addr) (cl : List (Str × Addr)) (fp : List Addr), PTs (X.blk s H scope (compEnvC scope cl C X.env) fp) ifs tt)
    (he : ∀ (s : Shared) (H : Hp) (C : Addr) (cl : List (Str × Addr)) (fp : List Addr), PE (X.blk s H scope (compEnvC scope cl C X.env) fp) elt te) (hs : ∀ x, foldedSetIterable iter X.env x = pure x := by intro _; rfl) :
    PS X (.Assign [.Name y py] (.ListComp elt [⟨tg, iter, ifs, 0⟩] scope pos) spos) (tAsg (tLc wi g tt te (own.map (·.2))) (gName i)) := by
  intro pins s σ H D I h
  rw [exec_Assign_Name_used _ _ _ _ hsw]
  refine wpAny_bind (wpAny_standAt (wpAny_bind ?_))
  show wpAny _ X.A (do let _ ← comprehension (.ListComp elt [⟨tg, iter, ifs, 0⟩] scope pos) scope X.env (firstIterPos [⟨tg, iter, ifs, 0⟩] pos) (newList []) false (eval iter X.env) (some (assign (.Name y py) X.env))) _ _ s
  have h : tLc wi g tt te (own.map (·.2)) σ H (fun x H1 => gName i x σ H1 D.nx) := h
  refine wpAny_bind (thn (lc_core (Qf := fun _ s' => SP X pins D .next s') hc hN I hi ok hg ht he hs h fun L C s' m H' I' q hn f => ?_) fun _ s' hq => wpAny_pure (wpAny_pure hq))
  show wpAny _ _ (assign (.Name y py) X.env (.ref L)) _ _ _
  refine wpAny_assign_Name (store_ok2 (v := V.ref L) I' hN hy (.inl hyl) rfl (fun s2 I2 ⟨a, sb, ha⟩ => ?_) (.inr hyl))
  obtain ⟨f0, f1, f2, f3, f4, f5⟩ := f
  have haC : C ≠ a := by
    rcases ha with z | z
    · rw [z]; exact f1
    · exact fun e => f4 y a z e.symm
  refine ⟨m, hn.sameBut sb haC, fun h3 sb3 => ?_⟩
  exact ⟨_, H', I2.turned (t' := s2.toks) (fun b o hb e => (sb3.2 b hb).trans e) f0 f1 f3 f4 f5, q⟩
theorem sw_true {elt : Expr} {gs : List Comprehension} {scope : Scope} {pos py : Pos} {y : Str} {l : Nat} {env : Env} (hk : env.scope.kind = .function) (hy : env.scope.names.lookup y = some .local) (hl : (py.line == pos.line) = true)
    (ha : (scope.names.any fun (n, k) => n == y && (k == .local || k == .cell)) = false) : swapsWith (.ListComp elt gs scope pos) (some (.Name y py)) l env = pure true := by
  have ky : env.kindOf y = some .local := hy
  have hb : env.blockKind = .function := by unfold Env.blockKind; rw [hk]; rfl
  unfold swapsWith
  simp only [hb, ky, ha, Expr.pos, hl]
  rfl
end

theorem lc_range {lo : Int} {n : Nat} {g : TG} {tt : TT} {te : TE} {vs : List Nat} {σ : St} {H1 : Hp} {D : Addr} {Qd : Hp → Prop} (Pv : Nat → Hp → Prop) (h0 : Pv 0 (upd H1 D (.lst [])))
    (hs : ∀ i H, i < n → Pv i H → g (.int (lo + i)) (wipe σ vs) H fun σ2 H2 => wipe σ2 vs = wipe σ vs ∧ tt σ2 H2 fun b H3 =>
      if b = true then te σ2 H3 fun y H4 => ∃ acc, H4 D = some (.lst acc) ∧ acc.length < sizeLine ∧ Pv (i + 1) (upd H4 D (.lst (acc ++ [y]))) else Pv (i + 1) H3) (hd : ∀ H, Pv n H → Qd H) :
    ∃ W : Nat → Nat → Hp → Prop, (∃ m, W 0 m (upd H1 D (.lst []))) ∧ ∀ i m H, W i m H →
      ((Itr lo n).stop i H ∧ Qd H) ∨ ((Itr lo n).go i H ∧ ∃ Nx : Hp → Prop, (∀ H', Nx H' → ∃ m', m' < m ∧ W (i + 1) m' H') ∧ ∀ x H', (Itr lo n).yld i H x H' → g x (wipe σ vs) H' fun σ2 H2 => wipe σ2 vs = wipe σ vs ∧ tt σ2 H2 fun b H3 =>
        if b = true then te σ2 H3 fun y H4 => ∃ acc, H4 D = some (.lst acc) ∧ acc.length < sizeLine ∧ Nx (upd H4 D (.lst (acc ++ [y]))) else Nx H3) := by
  refine ⟨fun i m H => m = n - i ∧ i ≤ n ∧ Pv i H, ⟨n, by simp, Nat.zero_le _, h0⟩, ?_⟩
  rintro i m H ⟨rfl, hi, p⟩
  by_cases hlt : i < n
  · refine .inr ⟨hlt, Pv (i + 1), fun H' p' => ⟨n - (i + 1), by omega, rfl, hlt, p'⟩, fun x H' y => ?_⟩
    obtain ⟨e, y⟩ := y
    subst e y
    exact hs i _ hlt p
  · have e : i = n := by omega
    subst e
    exact .inl ⟨Nat.le_refl _, hd H p⟩
theorem lc_list {K : PySem.W.Frag} {a : Addr} {xs : List V} {g : TG} {tt : TT} {te : TE} {vs : List Nat} {σ : St} {H1 : Hp} {D : Addr} {Qd : Hp → Prop} (Pv : Nat → Hp → Prop) (h0 : Pv 0 (upd H1 D (.lst []))) (hl : ∀ i H, i ≤ xs.length → Pv i H → SqL K H a xs)
    (hs : ∀ i x H, xs[i]? = some x → Pv i H → g x (wipe σ vs) H fun σ2 H2 => wipe σ2 vs = wipe σ vs ∧ tt σ2 H2 fun b H3 =>
      if b = true then te σ2 H3 fun y H4 => ∃ acc, H4 D = some (.lst acc) ∧ acc.length < sizeLine ∧ Pv (i + 1) (upd H4 D (.lst (acc ++ [y]))) else Pv (i + 1) H3) (hd : ∀ H, Pv xs.length H → Qd H) :
    ∃ W : Nat → Nat → Hp → Prop, (∃ m, W 0 m (upd H1 D (.lst []))) ∧ ∀ i m H, W i m H →
      ((Itl K a).stop i H ∧ Qd H) ∨ ((Itl K a).go i H ∧ ∃ Nx : Hp → Prop, (∀ H', Nx H' → ∃ m', m' < m ∧ W (i + 1) m' H') ∧ ∀ x H', (Itl K a).yld i H x H' → g x (wipe σ vs) H' fun σ2 H2 => wipe σ2 vs = wipe σ vs ∧ tt σ2 H2 fun b H3 =>
        if b = true then te σ2 H3 fun y H4 => ∃ acc, H4 D = some (.lst acc) ∧ acc.length < sizeLine ∧ Nx (upd H4 D (.lst (acc ++ [y]))) else Nx H3) := by
  refine ⟨fun i m H => m = xs.length - i ∧ i ≤ xs.length ∧ Pv i H, ⟨xs.length, by simp, Nat.zero_le _, h0⟩, ?_⟩
  rintro i m H ⟨rfl, hi, p⟩
  have q := hl i H hi p
  by_cases hlt : i < xs.length
  · refine .inr ⟨⟨xs, xs[i], q, by simp [hlt]⟩, Pv (i + 1), fun H' p' => ⟨xs.length - (i + 1), by omega, rfl, hlt, p'⟩, fun x H' y => ?_⟩
    obtain ⟨e, y⟩ := y
    subst e
    exact hs i x _ (y xs q) p
  · have e : i = xs.length := by omega
    subst e
    exact .inl ⟨⟨xs, q, Nat.le_refl _⟩, hd H p⟩
def blkC (N : List Str) (sc scope : Scope) (own : List (Str × Nat)) : Bool :=
  (match scope.kind with | .function => true | _ => false) && (scope.names.all fun y => decide (scope.names.lookup y.1 = some y.2)) && (own.all fun p => decide (N[p.2]? = some p.1)) &&
    (scope.names.all fun y => match y.2 with
      | .free => (match sc.names.lookup y.1 with | some .cell => true | some .free => true | _ => false)
      | .local => decide (y.1 ∈ own.map (·.1)) || decide (y.1 ∉ N)
      | .cell => decide (y.1 ∈ own.map (·.1)) || decide (y.1 ∉ N)
      | _ => true)
theorem blkOk_by {N : List Str} {sc scope : Scope} {own : List (Str × Nat)} (h : blkC N sc scope own = true) : BlkOk N sc scope own := by
  unfold blkC at h
  simp only [Bool.and_eq_true, List.all_eq_true, decide_eq_true_eq] at h
  obtain ⟨⟨⟨h1, h2⟩, h3⟩, h4⟩ := h
  refine ⟨?_, h2, h3, fun y hy e => ?_, fun y hy e => ?_⟩
  · split at h1
    · assumption
    · cases h1
  · have q := h4 y hy
    simp only [e] at q
    split at q <;> first | exact .inl (by assumption) | exact .inr (by assumption) | cases q
  · have q := h4 y hy
    rcases e with e | e <;> (simp only [e, Bool.or_eq_true, decide_eq_true_eq] at q; exact q)
end L2

namespace L2
open PySem PySem.Spec PyProof.Rows


section
variable {prog : Program} {w : World} {A : Around} {R : Result → Shared → Prop} {s : Shared} {elt t0 i0 t1 i1 : Expr} {ifs0 ifs1 : List Expr} {scope : Scope} {pos : Pos} {it acc : Value} {env : Env}
end

section
variable {X : Cx}
end
end L2

namespace L2
open PySem PySem.Spec PyProof.Rows

section
variable {κ : Type} [DecidableEq κ]
def valV (kvs : List (κ × V)) (k : κ) : Option V := (kvs.find? fun kv => decide (kv.1 = k)).map (·.2)
def putK (kvs : List (κ × V)) (k : κ) (v : V) : List (κ × V) :=
  if (kvs.any fun kv => decide (kv.1 = k)) = true then kvs.map (fun kv => if kv.1 = k then (kv.1, v) else kv) else kvs ++ [(k, v)]
def dropK (kvs : List (κ × V)) (k : κ) : List (κ × V) := kvs.filter fun kv => decide (kv.1 ≠ k)

theorem valV_pos {p : κ × V} {r : List (κ × V)} {k : κ} (e : p.1 = k) : valV (p :: r) k = some p.2 := by simp [valV, List.find?_cons, e]
theorem valV_neg {p : κ × V} {r : List (κ × V)} {k : κ} (e : ¬ p.1 = k) : valV (p :: r) k = valV r k := by simp [valV, List.find?_cons, e]
theorem valV_any (k : κ) : ∀ kvs : List (κ × V), (kvs.any fun kv => decide (kv.1 = k)) = (valV kvs k).isSome
  | [] => rfl
  | p :: r => by
    rw [List.any_cons]
    by_cases e : p.1 = k
    · simp only [valV_pos e, decide_eq_true e, Bool.true_or, Option.isSome_some]
    · rw [valV_neg e, decide_eq_false e, Bool.false_or]; exact valV_any k r
theorem valV_map (k j : κ) (y : V) : ∀ kvs : List (κ × V), valV (kvs.map fun kv => if kv.1 = k then (kv.1, y) else kv) j = (valV kvs j).map fun x => if j = k then y else x
  | [] => rfl
  | p :: r => by
    have ih := valV_map k j y r
    rw [List.map_cons]
    by_cases h : p.1 = k
    · rw [if_pos h]
      by_cases e : p.1 = j
      · rw [valV_pos (p := (p.1, y)) e, valV_pos e, Option.map_some, if_pos (e.symm.trans h)]
      · rw [valV_neg (p := (p.1, y)) e, valV_neg e, ih]
    · rw [if_neg h]
      by_cases e : p.1 = j
      · rw [valV_pos (p := p) e, valV_pos e, Option.map_some, if_neg (fun z => h (e.trans z))]
      · rw [valV_neg (p := p) e, valV_neg e, ih]
theorem valV_snoc (k j : κ) (y : V) : ∀ kvs : List (κ × V), valV kvs k = none → valV (kvs ++ [(k, y)]) j = if j = k then some y else valV kvs j
  | [], _ => by
    by_cases e : k = j
    · rw [if_pos e.symm]; exact valV_pos (p := (k, y)) e
    · rw [if_neg (fun z => e z.symm)]; exact valV_neg (p := (k, y)) e
  | p :: r, hn => by
    rw [List.cons_append]
    have hk : ¬ p.1 = k := fun z => by rw [valV_pos z] at hn; cases hn
    rw [valV_neg hk] at hn
    have ih := valV_snoc k j y r hn
    by_cases e : p.1 = j
    · rw [valV_pos e, valV_pos e, if_neg (fun z => hk (e.trans z))]
    · rw [valV_neg e, valV_neg e, ih]
theorem valV_put (kvs : List (κ × V)) (k j : κ) (y : V) : valV (putK kvs k y) j = if j = k then some y else valV kvs j := by
  unfold putK
  by_cases a : (kvs.any fun kv => decide (kv.1 = k)) = true
  · rw [if_pos a, valV_map]
    rw [valV_any] at a
    by_cases e : j = k
    · obtain ⟨x, hx⟩ := Option.isSome_iff_exists.mp a
      rw [if_pos e, e, hx, Option.map_some, if_pos rfl]
    · rw [if_neg e]
      cases valV kvs j with
      | none => rfl
      | some x => rw [Option.map_some, if_neg e]
  · rw [if_neg a]
    refine valV_snoc k j y kvs ?_
    rw [valV_any] at a
    cases q : valV kvs k with
    | none => rfl
    | some x => rw [q] at a; exact (a rfl).elim
theorem length_putK (kvs : List (κ × V)) (k : κ) (v : V) : (putK kvs k v).length ≤ kvs.length + 1 := by
  unfold putK
  split
  · rw [List.length_map]; omega
  · rw [List.length_append, List.length_cons, List.length_nil]; omega

theorem RelO.isSome_eq {o : Option V} {u : Option Value} (r : RelO o u) : o.isSome = u.isSome := by
  cases o with
  | none => cases u with
    | none => rfl
    | some _ => exact (show False from r).elim
  | some _ => cases u with
    | none => exact (show False from r).elim
    | some _ => rfl
theorem RelO.getD {o : Option V} {u : Option Value} {d : V} {d' : Value} (r : RelO o u) (rd : RelV d d') : RelV (o.getD d) (u.getD d') := by
  cases o with
  | none => cases u with
    | none => exact rd
    | some _ => exact (show False from r).elim
  | some _ => cases u with
    | none => exact (show False from r).elim
    | some _ => exact r

theorem KV.val {kvs : List (κ × V)} {vs : List (κ × Value)} (r : KV kvs vs) (k : κ) : RelO (valV kvs k) (valueAt vs k) := by
  unfold KV at r
  induction r with
  | nil => exact True.intro
  | @cons p q ps qs h t ih =>
    obtain ⟨h1, h2⟩ := h
    by_cases e : p.1 = k
    · have e' : q.1 = k := h1.symm.trans e
      have b : valueAt (q :: qs) k = some q.2 := by simp [valueAt, List.find?_cons, e']
      rw [valV_pos e, b]; exact h2
    · have e' : ¬ q.1 = k := fun z => e (h1.trans z)
      have b : valueAt (q :: qs) k = valueAt qs k := by simp [valueAt, List.find?_cons, e']
      rw [valV_neg e, b]; exact ih
theorem KV.any {kvs : List (κ × V)} {vs : List (κ × Value)} (r : KV kvs vs) (k : κ) : (kvs.any fun kv => decide (kv.1 = k)) = vs.any fun kv => decide (kv.1 = k) := by
  unfold KV at r
  induction r with
  | nil => rfl
  | cons h t ih => rw [List.any_cons, List.any_cons, ih, h.1]
theorem KV.repl {kvs : List (κ × V)} {vs : List (κ × Value)} (r : KV kvs vs) (k : κ) {y : V} {u : Value} (ry : RelV y u) :
    KV (kvs.map fun kv => if kv.1 = k then (kv.1, y) else kv) (vs.map fun kv => if kv.1 = k then (kv.1, u) else kv) := by
  unfold KV at r ⊢
  induction r with
  | nil => exact .nil
  | @cons p q ps qs h t ih =>
    rw [List.map_cons, List.map_cons]
    refine .cons ?_ ih
    obtain ⟨h1, h2⟩ := h
    by_cases e : p.1 = k
    · rw [if_pos e, if_pos (h1.symm.trans e)]; exact ⟨h1, ry⟩
    · rw [if_neg e, if_neg (fun z => e (h1.trans z))]; exact ⟨h1, h2⟩
theorem KV.put {kvs : List (κ × V)} {vs : List (κ × Value)} (r : KV kvs vs) (k : κ) {y : V} {u : Value} (ry : RelV y u) : KV (putK kvs k y) (stored vs k u) := by
  unfold putK stored
  rw [r.any k]
  by_cases e : (vs.any fun kv => decide (kv.1 = k)) = true
  · rw [if_pos e, if_pos e]; exact r.repl k ry
  · rw [if_neg e, if_neg e]; exact Paired.snoc r ⟨rfl, ry⟩
theorem KV.drop {kvs : List (κ × V)} {vs : List (κ × Value)} (r : KV kvs vs) (k : κ) : KV (dropK kvs k) (without vs k) := by
  unfold KV at r ⊢
  unfold dropK without
  induction r with
  | nil => exact .nil
  | @cons p q ps qs h t ih =>
    obtain ⟨h1, h2⟩ := h
    rw [List.filter_cons, List.filter_cons]
    by_cases e : p.1 = k
    · have a : ¬ decide (p.1 ≠ k) = true := by simp [e]
      have b : ¬ decide (q.1 ≠ k) = true := by simp [h1.symm.trans e]
      rw [if_neg a, if_neg b]; exact ih
    · have e' : ¬ q.1 = k := fun z => e (h1.trans z)
      have a : decide (p.1 ≠ k) = true := by simp [e]
      have b : decide (q.1 ≠ k) = true := by simp [e']
      rw [if_pos a, if_pos b]; exact .cons ⟨h1, h2⟩ ih
theorem KV.keys {kvs : List (κ × V)} {vs : List (κ × Value)} (r : KV kvs vs) : kvs.map (·.1) = vs.map (·.1) := by
  unfold KV at r
  induction r with
  | nil => rfl
  | cons h t ih => rw [List.map_cons, List.map_cons, ih, h.1]
theorem KV.length {kvs : List (κ × V)} {vs : List (κ × Value)} (r : KV kvs vs) : kvs.length = vs.length := Paired.length r
end


theorem kV_is {P : Program} {w : World} {k : Key} {u : Value} (r : RelV (kV k) u) : (mixKind P w).is k u = true := by
  cases k with
  | inl i => obtain ⟨t, e⟩ := (show ∃ t, u = Value.int i t from r); subst e; exact mixKind_int P w i t
  | inr x => obtain ⟨t, e⟩ := (show ∃ t, u = Value.str x t from r); subst e; exact mixKind_str P w x t
theorem items_are {P : Program} {w : World} : ∀ {ks : List Key} {us : List Value}, Vals (ks.map kV) us → ItemsAre (mixKind P w) ks us
  | [], _, r => by rw [List.map_nil] at r; cases r; exact .nil
  | k :: ks, _, r => by
    rw [List.map_cons] at r
    cases r with
    | cons h t => exact .cons (kV_is h) (items_are t)

abbrev KT (H : Hp) : List (List Key × V) → List (List Key × Addr × Value) → Prop := Paired fun p q => p.1 = q.1 ∧ H q.2.1 = some (.tup (p.1.map kV)) ∧ RelV p.2 q.2.2
theorem KT.val {H : Hp} {kvs : List (List Key × V)} {xs : List (List Key × Addr × Value)} (r : KT H kvs xs) (k : List Key) : RelO (valV kvs k) ((atKey xs k).map (·.2)) := by
  induction r with
  | nil => exact True.intro
  | @cons p q ps qs h t ih =>
    obtain ⟨h1, _, h2⟩ := h
    by_cases e : p.1 = k
    · have e' : q.1 = k := h1.symm.trans e
      have b : atKey (q :: qs) k = some q.2 := by simp [atKey, List.find?_cons, e']
      rw [valV_pos e, b]; exact h2
    · have e' : ¬ q.1 = k := fun z => e (h1.trans z)
      have b : atKey (q :: qs) k = atKey qs k := by simp [atKey, List.find?_cons, e']
      rw [valV_neg e, b]; exact ih
theorem KT.repl {H : Hp} {kvs : List (List Key × V)} {xs : List (List Key × Addr × Value)} (r : KT H kvs xs) (k : List Key) {y : V} {u : Value} (ry : RelV y u) :
    KT H (kvs.map fun kv => if kv.1 = k then (kv.1, y) else kv) (xs.map (putAt k u)) := by
  induction r with
  | nil => exact .nil
  | @cons p q ps qs h t ih =>
    rw [List.map_cons, List.map_cons]
    refine .cons ?_ ih
    obtain ⟨h1, h2, h3⟩ := h
    unfold putAt
    by_cases e : p.1 = k
    · rw [if_pos e, if_pos (h1.symm.trans e)]; exact ⟨h1, h2, ry⟩
    · rw [if_neg e, if_neg (fun z => e (h1.trans z))]; exact ⟨h1, h2, h3⟩
theorem KT.put {H : Hp} {kvs : List (List Key × V)} {xs : List (List Key × Addr × Value)} (r : KT H kvs xs) (k : List Key) {b : Addr} {y : V} {u : Value} (hb : H b = some (.tup (k.map kV))) (ry : RelV y u) :
    KT H (putK kvs k y) (storedH xs k b u) := by
  have e : (kvs.any fun kv => decide (kv.1 = k)) = (atKey xs k).isSome := by
    rw [valV_any, (r.val k).isSome_eq, Option.isSome_map]
  unfold putK storedH
  rw [e]
  by_cases q : (atKey xs k).isSome = true
  · rw [if_pos q, if_pos q]; exact r.repl k ry
  · rw [if_neg q, if_neg q]; exact Paired.snoc r ⟨rfl, hb, ry⟩
theorem KT.keeps {H H' : Hp} {kvs : List (List Key × V)} {xs : List (List Key × Addr × Value)} (r : KT H kvs xs) (ht : ∀ b ys, H b = some (.tup ys) → H' b = some (.tup ys)) : KT H' kvs xs :=
  Paired.mapP r fun _ _ z => ⟨z.1, ht _ _ z.2.1, z.2.2⟩

section
variable {P : Program} {w : World} {H : Hp} {h : Heap} {a : Addr}
theorem rd_of {u : HO} (ok : HOk P w H h) (e : Rd H a u) : ObjOk P w H h a u := e.ok ok
theorem dk_rd {kvs : List (Key × V)} (ok : HOk P w H h) (e : Rd H a (.dK kvs)) : kvs.length ≤ sizeLine ∧ (a == sysModules) = false ∧ ∃ vs, KV kvs vs ∧ h.DictOf (mixKind P w) a vs :=
  show ObjOk P w H h a (.dK kvs) from rd_of ok e
theorem dk_of {kvs : List (Key × V)} (ok : HOk P w H h) (e : H a = some (.dK kvs)) : kvs.length ≤ sizeLine ∧ (a == sysModules) = false ∧ ∃ vs, KV kvs vs ∧ h.DictOf (mixKind P w) a vs := dk_rd ok (.inl e)
theorem key_of {ks : List Key} (ok : HOk P w H h) (e : H a = some (.tup (ks.map kV))) : (tupleKind (mixKind P w)).is h ks a := by
  obtain ⟨_, its, r, o, h1, h2, n, h3⟩ := (show ObjOk P w H h a (.tup (ks.map kV)) from ok a _ e)
  exact ⟨o, its.toArray, n, h1, h2, h3, by simpa using items_are r⟩
theorem dt_rd {kvs : List (List Key × V)} (ok : HOk P w H h) (e : Rd H a (.dT kvs)) : kvs.length ≤ sizeLine ∧ (a == sysModules) = false ∧
    ∃ xs, KT H kvs xs ∧ h.DictOfH (tupleKind (mixKind P w)) a xs := by
  obtain ⟨z, y, xs, r, o, es, ep, h1, h2, h3, h4, h5⟩ := (show ObjOk P w H h a (.dT kvs) from rd_of ok e)
  refine ⟨z, y, xs, r, o, es, ep, h1, h2, h3, h4, fun x hx => ?_, h5⟩
  have all : ∀ {l : List (List Key × V)} {m : List (List Key × Addr × Value)}, KT H l m → ∀ x ∈ m, (tupleKind (mixKind P w)).is h x.1 x.2.1 := by
    intro l m q
    induction q with
    | nil => intro x hx; exact nomatch hx
    | @cons p q ps qs hq t ih =>
      intro x hx
      rcases List.mem_cons.mp hx with e | hx
      · subst e
        exact key_of ok (by rw [← hq.1]; exact hq.2.1)
      · exact ih x hx
  exact all r x hx
theorem dt_of {kvs : List (List Key × V)} (ok : HOk P w H h) (e : H a = some (.dT kvs)) : kvs.length ≤ sizeLine ∧ (a == sysModules) = false ∧
    ∃ xs, KT H kvs xs ∧ h.DictOfH (tupleKind (mixKind P w)) a xs := dt_rd ok (.inl e)
end

def DGet (H : Hp) (a : Addr) (y : V) (r : Option V) : Prop :=
  (∃ kvs k, Rd H a (.dK kvs) ∧ y = kV k ∧ r = valV kvs k) ∨ ∃ kvs k b, Rd H a (.dT kvs) ∧ y = .ref b ∧ H b = some (.tup (k.map kV)) ∧ r = valV kvs k
def DPut (H : Hp) (a : Addr) (y v : V) (H' : Hp) : Prop :=
  (∃ kvs k, H a = some (.dK kvs) ∧ y = kV k ∧ kvs.length < sizeLine ∧ H' = upd H a (.dK (putK kvs k v))) ∨
  ∃ kvs k b, H a = some (.dT kvs) ∧ y = .ref b ∧ H b = some (.tup (k.map kV)) ∧ kvs.length < sizeLine ∧ H' = upd H a (.dT (putK kvs k v))
theorem DGet.k {H : Hp} {a : Addr} {kvs : List (Key × V)} {k : Key} (e : H a = some (.dK kvs)) : DGet H a (kV k) (valV kvs k) := .inl ⟨kvs, k, .inl e, rfl, rfl⟩
theorem DGet.t {H : Hp} {a b : Addr} {kvs : List (List Key × V)} {k : List Key} (e : H a = some (.dT kvs)) (eb : H b = some (.tup (k.map kV))) : DGet H a (.ref b) (valV kvs k) := .inr ⟨kvs, k, b, .inl e, rfl, eb, rfl⟩
theorem DPut.k {H : Hp} {a : Addr} {kvs : List (Key × V)} {k : Key} {v : V} (e : H a = some (.dK kvs)) (hl : kvs.length < sizeLine) : DPut H a (kV k) v (upd H a (.dK (putK kvs k v))) := .inl ⟨kvs, k, e, rfl, hl, rfl⟩
theorem DPut.t {H : Hp} {a b : Addr} {kvs : List (List Key × V)} {k : List Key} {v : V} (e : H a = some (.dT kvs)) (eb : H b = some (.tup (k.map kV))) (hl : kvs.length < sizeLine) :
    DPut H a (.ref b) v (upd H a (.dT (putK kvs k v))) := .inr ⟨kvs, k, b, e, rfl, eb, hl, rfl⟩


section
variable {X : Cx} {pins : List (Addr × Obj)} {σ : St} {H : Hp} {s : Shared} {a : Addr} {y v : V} {u r : Value} {o : Option V} {A : Around} {E : Value → Shared → Prop}

theorem Inv.big (I : Inv X pins σ H s) : sysModules < s.heap.objs.size := by
  have h : mainGlobals < s.heap.objs.size := (I.mod.glob.keeps I.bk).lt
  exact Nat.lt_trans (by decide) h

theorem d_notIn {Q : Value → Shared → Prop} (hu : A.units + 1 < cLine) (I : Inv X pins σ H s) (g : DGet H a y o) (ry : RelV y u) (h : ∀ s', Inv X pins σ H s' → Q (.bool (!o.isSome)) s') :
    wpAny (model X.prog X.w) A (compareOp .NotIn u (.ref a)) Q E s := by
  rcases g with ⟨kvs, k, e, ey, l⟩ | ⟨kvs, k, b, e, ey, eb, l⟩
  · subst ey
    obtain ⟨z, hd, vs, rel, dd⟩ := dk_rd I.hok e
    refine wpAny_notIn_of (kV_is ry) hd dd.mapOf ?_
    rw [← (rel.val k).isSome_eq, ← l]
    exact h _ (I.tok _)
  · subst ey
    cases (show u = Value.ref b from ry)
    obtain ⟨z, hd, xs, rel, dd⟩ := dt_rd I.hok e
    refine wpAny_notIn_heap (tupleKind_room_in1 hu) (key_of I.hok eb) hd dd ?_
    have q := (rel.val k).isSome_eq
    rw [Option.isSome_map] at q
    rw [← q, ← l]
    exact h _ (I.tok _)
theorem d_write {h' : Heap} {t' : Nat} {ob : HO} (I : Inv X pins σ H s) (mu : Mut (H a)) (hs : Heap.SameBut a s.heap h') (he : ∃ q, h'.get? a = some q) (new : ObjOk X.prog X.w (upd H a ob) h' a ob) :
    Inv X pins σ (upd H a ob) { s with heap := h', toks := t' } :=
  I.write (x := a) (e := a) mu (.inl rfl) (fun b q hb z => (hs.2 b hb).trans z) he new
theorem dk_new {P : Program} {w : World} {H' : Hp} {h' : Heap} {kvs : List (Key × V)} {vs : List (Key × Value)} (z : kvs.length ≤ sizeLine) (hd : (a == sysModules) = false) (rel : KV kvs vs) (dd : h'.DictOf (mixKind P w) a vs) :
    ObjOk P w H' h' a (.dK kvs) := ⟨z, hd, vs, rel, dd⟩
theorem d_setItem {H' : Hp} {Q : Unit → Shared → Prop} (hu : A.units + 1 < cLine) (I : Inv X pins σ H s) (g : DPut H a y v H') (ry : RelV y u) (rv : RelV v r) (h : ∀ s', Inv X pins σ H' s' → Q () s') :
    wpAny (model X.prog X.w) A (setItem (.ref a) u r) Q E s := by
  rcases g with ⟨kvs, k, e, ey, l, eH⟩ | ⟨kvs, k, b, e, ey, eb, l, eH⟩
  · subst ey eH
    obtain ⟨z, hd, vs, rel, dd⟩ := dk_of I.hok e
    have hz : vs.length ≤ sizeLine := by rw [← rel.length]; exact z
    have hl : (putK kvs k v).length ≤ sizeLine := by have := length_putK kvs k v; omega
    refine wpAny_setItem_pairs (hsz := hz) (kV_is ry) dd fun h' dd' hs => h _ ?_
    have he : ∃ q, h'.get? a = some q := let ⟨q, _, _, hq, _⟩ := dd'; ⟨q, hq⟩
    exact d_write I (by rw [e]; exact True.intro) hs he (dk_new hl hd (rel.put k rv) dd')
  · subst ey eH
    cases (show u = Value.ref b from ry)
    obtain ⟨z, hd, xs, rel, dd⟩ := dt_of I.hok e
    have hz : xs.length ≤ sizeLine := by rw [← Paired.length rel]; exact z
    have hl : (putK kvs k v).length ≤ sizeLine := by have := length_putK kvs k v; omega
    refine wpAny_setItem_heap (hsz := hz) (tupleKind_room_in1 hu) (key_of I.hok eb) dd fun h' dd' hs => h _ ?_
    obtain ⟨q, es, ep, hq, h2, h3, h4, _, h5⟩ := dd'
    refine d_write I (by rw [e]; exact True.intro) hs ⟨q, hq⟩ ⟨hl, hd, _, (rel.put k eb rv).keeps fun c ys ec => ?_, q, es, ep, hq, h2, h3, h4, h5⟩
    rw [upd_ne (ne_of ec e (fun z => nomatch z))]
    exact ec
end

section
variable {X : Cx} {pins : List (Addr × Obj)} {σ : St} {H : Hp} {s : Shared} {a : Addr} {kvs : List (Key × V)} {k : Key} {u : Value} {A : Around} {E : Value → Shared → Prop}
end




def tDNotIn (ty td : TE) : TE := fun σ H Q => ty σ H fun y H1 => td σ H1 fun x H2 => ∃ a o, x = .ref a ∧ DGet H2 a y o ∧ Q (.bl (!o.isSome)) H2
def sDPut (td ty tv : TE) : TS := fun D σ H => tv σ H fun v H1 => td σ H1 fun x H2 => ty σ H2 fun y H3 => ∃ a H4, x = .ref a ∧ DPut H3 a y v H4 ∧ D.nx σ H4

section
variable {X : Cx} {o i e value : Expr} {pos pos' tpos : Pos} {td ty tv : TE}
theorem pc_dnotin (hu : X.A.units + 1 < cLine) (hi : PE X i ty) (ho : PE X o td) : PC X .NotIn i o (tDNotIn ty td) := by
  intro pins s σ H Q I h
  refine thn (hi pins s σ H _ I h) fun iv s1 ⟨y, H1, I1, ry, q1⟩ => thn (ho pins s1 σ H1 _ I1 q1) fun u s2 ⟨x, H2, I2, rx, a, ov, ex, g, q2⟩ => ?_
  subst ex
  obtain rfl : u = Value.ref a := rx
  exact d_notIn hu I2 g ry fun s3 I3 => ⟨.bl (!ov.isSome), H2, I3, rfl, q2⟩
theorem ps_dput (hu : X.A.units + 1 < cLine) (ho : PE X o td) (hi : PE X i ty) (hv : PE X value tv) (hs : swapsWith value (some (.Subscript o i pos')) pos.line X.env = pure false) :
    PS X (.Assign [.Subscript o i pos'] value pos) (sDPut td ty tv) := by
  intro pins s σ H D I h
  refine wpAny_Assign_Subscript (thn (hv pins s σ H _ I h) fun r s1 ⟨v, H1, I1, rv, q1⟩ => thn (ho pins s1 σ H1 _ I1 q1) fun u s2 ⟨x, H2, I2, rx, q2⟩ => thn (hi pins s2 σ H2 _ I2 q2) fun iv s3 ⟨y, H3, I3, ry, a, H4, ex, g, q3⟩ => ?_) hs
  subst ex
  obtain rfl : u = Value.ref a := rx
  exact d_setItem hu I3 g ry rv fun s4 I4 => ⟨σ, H4, I4, q3⟩
end


theorem dt_empty {P : Program} {w : World} {H : Hp} (h : Heap) (hb : sysModules < h.objs.size) : ObjOk P w H (h.push { cls := .type "dict", data := .dict #[] }) h.objs.size (.dT []) :=
  ⟨Nat.zero_le _, beq_eq_false_iff_ne.mpr (Ne.symm (Nat.ne_of_lt hb)), [], .nil, _, #[], 0, Heap.get?_push_size _ rfl, ⟨rfl, rfl, rfl⟩, rfl, rfl, List.nodup_nil⟩
def tDNewT : TE := fun _ H Q => ∀ p, H p = none → Q (.ref p) (upd H p (.dT []))
section
variable {X : Cx} {pos : Pos}
theorem pe_dnewT : PE X (.Dict [] [] pos) tDNewT := fun pins s σ H Q I h =>
  wpAny_Dict_empty ⟨.ref s.heap.objs.size, _, I.laid (a := s.heap.objs.size) (o := .dT []) (t' := s.toks) (fun _ _ q => Heap.get?_push_of_some _ q) (Nat.le_refl _) (dt_empty s.heap I.big), rfl, h _ (I.hok.fresh (Nat.le_refl _))⟩
end




structure M2 (X : Cx) (o : Expr) (m : Str) (apos : Pos) (e f : Expr) (cpos : Pos) : Prop where
  base : attributeBase o m X.env (eval o X.env) = eval o X.env
  few : ((backTo cpos (starEach [e, f] X.env)).all (fun x => !x.1) && (backToKw cpos (keywordEach [] X.env)).all (fun x => x.1.isSome)
    && decide (([e, f] : List Expr).length + ([] : List Keyword).length + (if ([] : List Keyword).isEmpty then 0 else 1) < 30)) = true
  line : (apos.endLine == cpos.line) = true
  trees : backTo cpos (starEach [e, f] X.env) = [(false, eval e X.env), (false, eval f X.env)]


section
variable {X : Cx} {pins : List (Addr × Obj)} {σ : St} {H : Hp} {s : Shared} {a : Addr} {y d : V} {u r : Value} {o : Option V} {A : Around} {E : Value → Shared → Prop}
end

section
variable {X : Cx} {o e f : Expr} {apos cpos : Pos} {td ty tx : TE}
end

section
variable {X : Cx} {pins : List (Addr × Obj)} {σ : St} {H : Hp} {s : Shared} {a : Addr} {kvs : List (Key × V)} {A : Around} {E : Value → Shared → Prop}
end


section
variable {X : Cx} {pins : List (Addr × Obj)} {σ : St} {H : Hp} {s : Shared} {a : Addr} {y : V} {u : Value} {A : Around} {E : Value → Shared → Prop}
end
end L2

namespace L2
open PySem PySem.Spec PyProof.Rows


section
variable {prog : Program} {w : World} {A : Around} {E : Value → Shared → Prop}


end

section
variable {X : Cx}
end
end L2

namespace L2
open PySem PySem.Spec PyProof.Rows


section
variable {X : Cx} {pins : List (Addr × Obj)} {σ : St} {H : Hp} {s : Shared} {h' : Heap}
theorem Inv.turnedNew {t' : Nat} {ch : List Addr} {T : Addr} {ob : HO} (I : Inv X pins σ H s) (k : ∀ b o, b ∉ ch → s.heap.get? b = some o → h'.get? b = some o) (hf : ∀ b ∈ ch, FpOk X pins H b) (hT : s.heap.objs.size ≤ T)
    (new : ObjOk X.prog X.w (upd H T ob) h' T ob) : Inv X pins σ (upd H T ob) { s with heap := h', toks := t' } := by
  have hn : H T = none := I.hok.fresh hT
  have nit : ∀ b u, H b = some u → b ∉ ch := fun b u e z => by
    have q := (hf b z).1
    rw [q] at e; cases e
  refine I.step (g' := s.gens) (d' := s.drawn) (ch := ch) (fun b hb => ⟨(hf b hb).2.2.2.1, (hf b hb).2.1, (hf b hb).2.2.2.2.1, (hf b hb).2.2.2.2.2⟩) (fun b o _ _ hc e _ => k b o hc e) (fun b o _ _ hc e _ => ⟨o.slots, k b o hc e⟩)
    (fun b o _ e n => ?_) (fun b o hc e => ⟨o, k b o hc e⟩) (fun b xs e => ?_) (fun b o u e => ?_) (fun b ps e => ⟨#[], ?_⟩) (fun m hm => ?_) (fun b u e => ?_) I.bare
  · rw [upd_ne (Nat.ne_of_lt (Nat.lt_of_lt_of_le (Heap.lt_size e) hT))]; exact n
  · rw [upd_ne (ne_of_none e hn)]; exact e
  · rw [upd_ne (ne_of_none e hn)]; exact e
  · rw [upd_ne (ne_of_none e hn), e]; simp
  · obtain ⟨o, es, ep, ho, r⟩ := hm
    exact ⟨o, es, ep, k _ o (fun z => (hf _ z).2.1 rfl) ho, r⟩
  · by_cases hb : b = T
    · subst hb
      rw [upd_same] at e
      cases e
      exact new
    · rw [upd_ne hb] at e
      refine (I.hok b u e).stay (fun c v hc q => k c v ?_ q) (fun c q => by rw [upd_ne (ne_of_none q hn)]; exact q) fun c xs q => by rw [upd_ne (ne_of_none q hn)]; exact q
      rcases hc with z | z
      · rw [z]; exact nit b u e
      · exact nit c _ z

end
section
variable {X : Cx}

end

def RgC (i j c : Int) (n : Nat) : Prop := c ≠ 0 ∧ c.natAbs < 1073741824 ∧ Builtin.Range.small i j c = true ∧ Builtin.Range.rangeSize i j c = n
theorem RgC.neg {i j : Int} (ha : -(2 ^ 62) ≤ i) (ha' : i < 2 ^ 62) (hb : -(2 ^ 62) ≤ j) (hb' : j < 2 ^ 62) : RgC i j (-1) (i - j).toNat :=
  ⟨by decide, by decide, PySem.W.small_down ha ha' hb hb', PySem.W.rangeSize_downNat i j⟩
section
variable {X : Cx} {tg : Expr}
end

section
variable {X : Cx} {tg : Expr}
end


section
variable {prog : Program} {w : World} {A : Around} {E : Value → Shared → Prop} {s : Shared}
end

theorem paired_get {α β : Type} {G : α → β → Prop} {l₁ : List α} {l₂ : List β} (h : Paired G l₁ l₂) : ∀ {i : Nat} {a : α}, l₁[i]? = some a → ∃ b, l₂[i]? = some b ∧ G a b := by
  induction h with
  | nil => intro i a e; simp at e
  | @cons a b l₁ l₂ r t ih =>
    intro i a' e
    cases i with
    | zero =>
      simp only [List.getElem?_cons_zero, Option.some.injEq] at e
      subst e
      exact ⟨b, rfl, r⟩
    | succ j =>
      simp only [List.getElem?_cons_succ] at e ⊢
      exact ih e
section
variable {X : Cx} {pins : List (Addr × Obj)} {σ : St} {H : Hp} {s : Shared} {d : Addr} {o : Obj}
end

section
variable {P : Program} {w : World} {K : PySem.W.Frag} {tg : Expr} {d : Addr} {o : Obj} {es : Array DictEntry} {ep : Nat}
end

section
variable {X : Cx} {tg e : Expr} {td : TE} {apos cpos : Pos}
end

def Ite (K : PySem.W.Frag) (a : Addr) : It :=
  ⟨fun i H => ∃ (xs : List V) (x : V), SqL K H a xs ∧ xs[i]? = some x, fun i H v H' => ∃ T x, v = .ref T ∧ H T = none ∧ H' = upd H T (.tup [.int (i : Nat), x]) ∧ ∀ xs, SqL K H a xs → xs[i]? = some x, fun i H => ∃ xs : List V, SqL K H a xs ∧ xs.length ≤ i⟩
theorem turn_enum {P : Program} {w : World} {K : PySem.W.Frag} {elts : List Expr} {kk : Nat} {tpos : Pos} (a e it : Addr) :
    Turn P w K (.Tuple elts kk tpos) (Ite K a) [e, it] e (fun i h => (∃ old, IsEnum h e it ((i : Nat) : Int) old) ∧ h.IsListIter it a i ∧ e ≠ it) where
  mem := by simp
  obj := fun i h st b hb => by
    obtain ⟨⟨old, he⟩, ⟨o, ho, hc, hd⟩, _⟩ := st
    have e' : b = e ∨ b = it := by simpa using hb
    rcases e' with z | z
    · rw [z]; exact ⟨_, he, fun v q => nomatch q⟩
    · rw [z]; exact ⟨o, ho, fun v q => by rw [hd] at q; cases q⟩
  keep := fun i h h' st k => let ⟨⟨old, he⟩, hi, hne⟩ := st; ⟨⟨old, k e (by simp) _ he⟩, hi.at fun o q => k it (by simp) o q, hne⟩
  item := by
    intro X hP hw hK hc i pins s σ H E I hf st hg
    subst hP hw hK
    obtain ⟨⟨old, he⟩, hit, hne⟩ := st
    obtain ⟨xs, x, hq, hx⟩ := hg
    obtain ⟨its, rv, p, hz⟩ := I.list hq
    obtain ⟨u, hu, ru⟩ := rv.get hx
    have hel : e < s.heap.objs.size := Heap.lt_size he
    have hil : it < s.heap.objs.size := by obtain ⟨_, q, _⟩ := hit; exact Heap.lt_size q
    refine wpAny_pyNext_enum_item he hit p.isList (x := u) (by simpa using hu) hne fun h' ho hit' hT hsz hk => ?_
    refine ⟨_, rfl, wpAny_letOwnedTupleGo_enum (s := { s with heap := h', toks := s.toks + 1 }) ho fun h'' he' sb => ?_⟩
    have hT2 : h''.get? s.heap.objs.size = some { cls := .type "tuple", data := .seq #[.int i s.toks, u] } := (sb.2 _ (Nat.ne_of_gt hel)).trans hT
    have new : ObjOk X.prog X.w (upd H s.heap.objs.size (.tup [.int (i : Nat), x])) h'' s.heap.objs.size (.tup [.int (i : Nat), x]) :=
      ⟨by show 2 ≤ sizeLine; decide, [.int i s.toks, u], .cons ⟨_, rfl⟩ (.cons ru .nil), ⟨_, hT2, rfl, _, rfl⟩⟩
    have I1 : Inv X pins σ (upd H s.heap.objs.size (.tup [.int (i : Nat), x])) { s with heap := h'', toks := s.toks + 1 } :=
      I.turnedNew (ch := [e, it]) (fun b ob hb q => (sb.2 b (fun z => hb (by simp [z]))).trans (hk b ob (fun z => hb (by simp [z])) (fun z => hb (by simp [z])) q)) hf (Nat.le_refl _) new
    refine ⟨.ref s.heap.objs.size, _, I1, rfl, ⟨_, x, rfl, I.hok.fresh (Nat.le_refl _), rfl, fun ys hy => by rw [I.list_inj hy hq]; exact hx⟩, ⟨⟨u, ?_⟩, hit'.at fun o q => (sb.2 it (Ne.symm hne)).trans q, hne⟩, fun b hb => ?_⟩
    · have e1 : ((i + 1 : Nat) : Int) = (i : Int) + 1 := by omega
      rw [e1]; exact he'
    · have hb' : b < s.heap.objs.size := by
        have e' : b = e ∨ b = it := by simpa using hb
        rcases e' with z | z
        · rw [z]; exact hel
        · rw [z]; exact hil
      rw [upd_ne (Nat.ne_of_lt hb')]
      exact (hf b hb).1
  done := by
    intro X hP hw hK hc i pins s σ H E I hf st hg
    subst hP hw hK
    obtain ⟨⟨old, he⟩, hit, hne⟩ := st
    obtain ⟨xs, hq, hx⟩ := hg
    obtain ⟨its, rv, p, hz⟩ := I.list hq
    obtain ⟨f0, f1, f2, f3, f4, f5⟩ := hf it (by simp)
    have hl := rv.length
    exact wpAny_pyNext_enum_end (I.ok.hd hc) he hit p.isList (by simp; omega) fun h' eb => ⟨rfl, I.turned (t' := s.toks) (fun b o hb q => eb b o hb q) f0 f1 f3 f4 f5⟩
  self := fun A i s Q E st h => let ⟨⟨_, he⟩, _⟩ := st; wpAny_pyIter_enum he h
def iEnum (K : PySem.W.Frag) (ta : TA) : TI := fun σ H R => ta σ H fun vs H1 => ∃ a xs, vs = [.ref a] ∧ SqL K H1 a xs ∧ R (Ite K a) H1
theorem pi_enum {X : Cx} {e : Expr} {ta : TA} {p pos tpos : Pos} {elts : List Expr} {kk : Nat} (hg : Gl X "enumerate") (hm : X.mg "enumerate" = none) (ha : PA X [e] ta) (hs : starEach [e] X.env = [(false, eval e X.env)] := by rfl) :
    PI X (.Tuple elts kk tpos) (.Call (.Name "enumerate" p) [e] [] pos) (iEnum X.K ta) := by
  intro pins s σ H R I h
  refine Call_ (ld_blt I hg hm boot_enumerate (PyProof.Rows.callWith_type1 (thn (ha pos pins s σ H _ I h) fun us s1 ⟨vs, H1, I1, r1, q1⟩ => ?_) hs rfl))
  obtain ⟨a, xs, ex, hq, q⟩ := q1
  subst ex
  cases r1 with
  | cons r rr =>
    cases rr
    cases r
    obtain ⟨its, rv, p', hz⟩ := I1.list hq
    refine call_enumerate_list p'.isList fun h' he hit hsz hk => wpAny_pyIter_enum he ?_
    have I2 : Inv X pins σ H1 { s1 with heap := h' } := I1.kept (t' := s1.toks) hk
    refine ⟨s1.heap.objs.size + 1, [s1.heap.objs.size + 1, s1.heap.objs.size], _, _, H1, rfl, I2, turn_enum a (s1.heap.objs.size + 1) s1.heap.objs.size, ⟨⟨.none, he⟩, hit, Nat.succ_ne_self _⟩, fun b hb => ?_, q⟩
    have e' : b = s1.heap.objs.size + 1 ∨ b = s1.heap.objs.size := by simpa using hb
    have hle : s1.heap.objs.size ≤ b := by
      rcases e' with z | z
      · rw [z]; exact Nat.le_add_right _ _
      · rw [z]; exact Nat.le_refl _
    exact I1.fpOk hle (I1.hok.fresh hle)
end L2

section 
namespace Bits
open PySem PyProof.Rows








end Bits
end 

section 
namespace TL
open PySem PySem.Builtin PySem.Builtin.Str PySem.StrLaws

abbrev tl (x : Str) : List Nat := x.cps.toList
theorem len_tl (x : Str) : x.length = (tl x).length := by simp [tl, Str.length]

def pre (S l : List Nat) : Bool := l.take S.length == S
def par (S : List Nat) : List Nat → List Nat → Option (List Nat × List Nat)
  | _, [] => none
  | acc, c :: r => if pre S (c :: r) = true then some (acc, (c :: r).drop S.length) else par S (acc ++ [c]) r




theorem len1 {y : Str} (hy : tl y ≠ []) : 1 ≤ y.length := by
  have e2 : 0 < (tl y).length := List.length_pos_iff.mpr hy
  rw [len_tl y]
  exact e2







end TL
end 

namespace L2
open PySem PySem.Spec PyProof.Rows




section
variable {X : Cx} {pins : List (Addr × Obj)} {σ : St} {H : Hp} {s : Shared} {Q : VK}
end

section
variable {X : Cx}







end

section
variable {X : Cx} {o e : Expr} {to te : TE}

end
end L2

namespace L2
open PySem PySem.Spec PyProof.Rows

section
variable {X : Cx}
end



end L2

namespace Att
open PySem PySem.W PySem.Calls PyProof.Rows







section
variable {prog : Program} {w : World} {A : Around} {E : Value → Shared → Prop} {s : Shared} {K : Frag}






end
end Att

namespace L2
open PySem PySem.Spec PyProof.Rows



end L2

namespace L2
open PySem PySem.Spec PyProof.Rows

abbrev KOf {K : PySem.W.Frag} {h : Heap} (_ : K.In h) : PySem.W.Frag := K

end L2


namespace L2
open PySem PySem.Spec PyProof.Rows


abbrev CX0 : CXT := fun _ _ _ _ _ _ => False
abbrev E0 : XK := fun _ _ _ => False
theorem pass0 {X : Cx} : Passes CX0 X E0 := fun _ _ _ _ _ _ _ h => h.elim

structure Fun (K : PySem.W.Frag) (x qual : Str) (st : Stmt) (f : Addr) (fd : FuncData) : Prop where
  ex : ∃ (oc : Value) (od : Option Addr) (kV doc pm : Value) (an : Option Addr) (cdv ct : Value) (osl : Array (Option Value)),
    fd = PySem.W.fnOf x qual (defArgs st) (defBody st) (defScope st) .none kV doc pm an cdv ct ∧ K.lookup f = some ⟨oc, od, .func fd, osl⟩ ∧ PySem.W.codeIn K cdv qual = true
  kp : PySem.W.keepIn K (.ref f) = true
section
variable {P : Program} {w : World} {K : PySem.W.Frag} {mg : Str → Option Value} {base : Heap}
theorem Fun.ok {x qual : Str} {st : Stmt} {f : Addr} {fd : FuncData} {N ps : List Str} {k : Nat} {sp : Sp} (F : Fun K x qual st f fd) (S : FnScope N ps (defScope st)) (len : ∀ vs H Q E, sp vs H Q E → vs.length = ps.length)
    (hbody : ∀ (cdv : Value) (A : Around) (outer : List Env) (s : Shared) (H : Hp) (vs : List V) (Q : VK) (E : XK), Room k (A.deeper (envOfC qual (defScope st) s.heap.objs.size f cdv)) → sp vs H Q E →
      ∃ t, PSs (cxOf CX0 P w K mg base N qual (defScope st) f cdv A outer s H E).nox (defBody st) t ∧ t { nx := fun _ H' => Q .non H', rt := Q } (start N vs) H) : FnOk P w K mg base CX0 (k + 1) f fd ps sp := by
  obtain ⟨oc, od, kV, doc, pm, an, cdv, ct, osl, rfl, lk, hcd⟩ := F.ex
  refine fn_of lk hcd S len fun A outer s H vs Q E hr hsp => ?_
  obtain ⟨t, h, q⟩ := hbody cdv A outer s H vs Q E hr hsp
  exact ⟨t, h.nox, q⟩
theorem Fun.binds {x qual : Str} {st : Stmt} {f : Addr} {fd : FuncData} {ps : List Str} (F : Fun K x qual st f fd)
    (h : ∀ (kV doc pm : Value) (an : Option Addr) (cdv ct : Value) (us : List Value), us.length = ps.length → bindArgs (PySem.W.fnOf x qual (defArgs st) (defBody st) (defScope st) .none kV doc pm an cdv ct) ⟨us, []⟩ = pure (ps.zip us)) : Binds K fd ps [] := by
  obtain ⟨oc, od, kV, doc, pm, an, cdv, ct, osl, rfl, lk, hcd⟩ := F.ex
  exact .all (h kV doc pm an cdv ct)
theorem fun_mk {x qual : Str} {st : Stmt} {f : Addr} {oc : Value} {od an : Option Addr} {osl : Array (Option Value)} {kV doc pm cdv ct : Value} (l : K.lookup f = some ⟨oc, od, .func (PySem.W.fnOf x qual (defArgs st) (defBody st) (defScope st) .none kV doc pm an cdv ct), osl⟩)
    (c : PySem.W.codeIn K cdv qual = true) (k : PySem.W.keepIn K (.ref f) = true) : Fun K x qual st f (PySem.W.fnOf x qual (defArgs st) (defBody st) (defScope st) .none kV doc pm an cdv ct) := ⟨⟨oc, od, kV, doc, pm, an, cdv, ct, osl, rfl, l, c⟩, k⟩
end
theorem hu_of {A : Around} {k : Nat} (hr : Room k A) : A.units + 1 < cLine := Nat.lt_of_le_of_lt (Nat.add_le_add_left (by decide : 1 ≤ 64) _) hr.units

section
variable {X : Cx}
theorem pv (i : Nat) {x : Str} {pos : Pos} (hN : X.N[i]? = some x := by rfl) (hv : Vis X.env.scope x := by first | exact Or.inl rfl | exact Or.inr (Or.inl rfl) | exact Or.inr (Or.inr rfl)) (hd : (x == ("__debug__" : Str)) = false := by decide)
    (hcd : (x == ("__classdict__" : Str)) = false := by decide) : PE X (.Name x pos) (tVar i) := pe_var hN hv hd hcd
end

theorem iteF {A B : Prop} (h : B) : if false = true then A else B := by
  rw [if_neg Bool.false_ne_true]
  exact h
theorem iteT {A B : Prop} (h : A) : if true = true then A else B := by
  rw [if_pos rfl]
  exact h

def Same (H H' : Hp) : Prop := ∀ b o, H b = some o → H' b = some o
theorem Same.refl (H : Hp) : Same H H := fun _ _ h => h
theorem Same.trans {H H1 H2 : Hp} (a : Same H H1) (b : Same H1 H2) : Same H H2 := fun c o h => b c o (a c o h)
theorem Same.free {H H' : Hp} (e : Same H H') {l : Addr} (h : H' l = Option.none) : H l = Option.none := by
  cases q : H l with
  | none => rfl
  | some o =>
    rw [e l o q] at h
    cases h
theorem Same.seq {K : PySem.W.Frag} {H H' : Hp} {a : Addr} {xs : List V} (e : Same H H') (h : SqL K H a xs) : SqL K H' a xs := by
  rcases h with (h | ⟨o, h⟩) | h
  · exact .inl (.inl (e _ _ h))
  · exact .inl (.inr ⟨o, e _ _ h⟩)
  · exact .inr h

section
variable {κ : Type} [DecidableEq κ]
end
theorem at_of {xs : List V} {z : Int} {j : Nat} {v : V} (e : z = (j : Int)) (h : xs[j]? = some v) : atI xs z = some v := by
  rw [e]
  exact atI_nat h
theorem Same.made {H H1 : Hp} {x dx C : Addr} (nx : H x = Option.none) (nd : H dx = Option.none) (k : ∀ b o, (upd (upd H dx (.own x)) x (.ins C dx [])) b = some o → b ≠ x → H1 b = some o) : Same H H1 := fun b o e =>
  k b o (by rw [upd_ne (ne_of_none e nx), upd_ne (ne_of_none e nd)]; exact e) (ne_of_none e nx)
end L2
section
set_option Elab.async false
set_option linter.all false
set_option maxRecDepth 100000
set_option maxHeartbeats 2000000
namespace L2
open PySem PySem.Spec PyProof.Rows
open PySem.W (WData Codec OpenSpec Well WellAll ReadsW ReadsAllW)
mutual
/-- x stands for the datum d, lists and tuples all the way -/
inductive Dw (K : PySem.W.Frag) (H : Hp) : V → WData → Prop
  | non : Dw K H .non .none
  | bl (b : Bool) : Dw K H (.bl b) (.bool b)
  | int (i : Int) : Dw K H (.int i) (.int i)
  | str (x : Str) : Dw K H (.str x) (.str x)
  | byt (b : Array UInt8) : Dw K H (.byt b) (.bytes b.toList)
  | lst {a : Addr} {xs : List V} {ds : List WData} : SqL K H a xs → DwAll K H xs ds → Dw K H (.ref a) (.list ds)
  | tup {a : Addr} {xs : List V} {ds : List WData} : SqT K H a xs → DwAll K H xs ds → Dw K H (.ref a) (.tuple ds)
inductive DwAll (K : PySem.W.Frag) (H : Hp) : List V → List WData → Prop
  | nil : DwAll K H [] []
  | cons {v : V} {vs : List V} {d : WData} {ds : List WData} : Dw K H v d → DwAll K H vs ds → DwAll K H (v :: vs) (d :: ds)
end
theorem dw_ints {K : PySem.W.Frag} {H : Hp} : ∀ ns : List Int, DwAll K H (ns.map V.int) (ns.map WData.int)
  | [] => .nil
  | n :: r => .cons (.int n) (dw_ints r)
theorem ints_dw {K : PySem.W.Frag} {H : Hp} : ∀ (ns : List Int) (xs : List V), DwAll K H xs (ns.map WData.int) → xs = ns.map V.int
  | [], xs, h => by
    cases h
    rfl
  | n :: r, xs, h => by
    cases h with
    | cons h1 h2 =>
      cases h1
      rw [ints_dw r _ h2] <;> rfl
section
variable {P : Program} {w : World} {K : PySem.W.Frag} {H : Hp} {h : Heap} {R : PySem.W.WRecords} {cl : Str → Option Addr}
theorem sqL_at {a : Addr} {xs : List V} (hok : HOk P w H h) (KX : K.In h) (q : SqL K H a xs) : ∃ (its : List Value) (o : Obj) (n : Nat), Vals xs its ∧ h.get? a = some o ∧ o.cls = .type "list" ∧ o.data = .seq its.toArray n := by
  rcases q with q | ⟨o, its, n, e, hc, _, hd, _, hv⟩
  · obtain ⟨_, its, n, hv, e⟩ := (show ObjOk P w H h a (.lst xs) from q.ok hok)
    exact ⟨its, _, n, hv, e, rfl, rfl⟩
  · exact ⟨its.toList, o, n, hv, KX _ _ e, hc, by simp [hd]⟩
theorem sqT_at {a : Addr} {xs : List V} (hok : HOk P w H h) (KX : K.In h) (q : SqT K H a xs) : ∃ (its : List Value) (o : Obj) (n : Nat), Vals xs its ∧ h.get? a = some o ∧ o.cls = .type "tuple" ∧ o.data = .seq its.toArray n := by
  rcases q with q | ⟨o, its, n, e, hc, hd, _, hv⟩
  · obtain ⟨_, its, hv, o, e, hc, n, hd⟩ := (show ObjOk P w H h a (.tup xs) from q.ok hok)
    exact ⟨its, o, n, hv, e, hc, hd⟩
  · exact ⟨its.toList, o, n, hv, KX _ _ e, hc, by simp [hd]⟩
mutual
theorem Dw.reads (hok : HOk P w H h) (KX : K.In h) : ∀ (d : WData) (v : V) (u : Value), Dw K H v d → RelV v u → ∃ as, ReadsW R cl h u d as
  | .none, _, _, x, r => by
    cases x
    cases r
    exact ⟨_, ReadsW.none⟩
  | .bool b, _, _, x, r => by
    cases x
    cases r
    exact ⟨_, ReadsW.bool b⟩
  | .int i, _, _, x, r => by
    cases x
    obtain ⟨t, rfl⟩ := r
    exact ⟨_, ReadsW.int i t⟩
  | .str s, _, _, x, r => by
    cases x
    obtain ⟨t, rfl⟩ := r
    exact ⟨_, ReadsW.str s t⟩
  | .bytes b, _, _, x, r => by
    cases x
    obtain ⟨t, rfl⟩ := r
    exact ⟨_, ReadsW.bytes _ t⟩
  | .list ds, _, _, x, r => by
    cases x with
    | lst hs ha =>
      cases r
      obtain ⟨its, o, n, rv, ho, hc, hd⟩ := sqL_at hok KX hs
      obtain ⟨as, hr⟩ := Dw.readsAll hok KX ds _ its ha rv
      exact ⟨_, ReadsW.list ho hc hd hr⟩
  | .tuple ds, _, _, x, r => by
    cases x with
    | tup hs ha =>
      cases r
      obtain ⟨its, o, n, rv, ho, hc, hd⟩ := sqT_at hok KX hs
      obtain ⟨as, hr⟩ := Dw.readsAll hok KX ds _ its ha rv
      exact ⟨_, ReadsW.tuple ho hc hd hr⟩
  | .float _, _, _, x, _ => by cases x
  | .dict _, _, _, x, _ => by cases x
  | .bytearray _, _, _, x, _ => by cases x
  | .set _, _, _, x, _ => by cases x
  | .frozenset _, _, _, x, _ => by cases x
  | .obj _ _, _, _, x, _ => by cases x
theorem Dw.readsAll (hok : HOk P w H h) (KX : K.In h) : ∀ (ds : List WData) (vs : List V) (us : List Value), DwAll K H vs ds → Vals vs us → ∃ as, ReadsAllW R cl h us ds as
  | [], _, _, x, r => by
    cases x
    cases r
    exact ⟨_, ReadsAllW.nil⟩
  | d :: ds, _, _, x, r => by
    cases x with
    | cons h1 h2 =>
      cases r with
      | cons r1 r2 =>
        obtain ⟨as, q1⟩ := Dw.reads hok KX d _ _ h1 r1
        obtain ⟨bs, q2⟩ := Dw.readsAll hok KX ds _ _ h2 r2
        exact ⟨_, ReadsAllW.cons q1 q2⟩
end
end
mutual
/-- data that a codec tells -/
def plW : WData → Bool
  | .none => true
  | .bool _ => true
  | .int _ => true
  | .str _ => true
  | .bytes _ => true
  | .list xs => plWs xs
  | .tuple xs => plWs xs
  | _ => false
def plWs : List WData → Bool
  | [] => true
  | x :: r => plW x && plWs r
end
theorem plWs_map {α : Type} {f : α → WData} (h : ∀ a, plW (f a) = true) : ∀ l : List α, plWs (l.map f) = true
  | [] => rfl
  | x :: r => by
    show (plW (f x) && plWs (r.map f)) = true
    rw [h x, plWs_map h r] <;> rfl
theorem pl_enc : ∀ (c : Codec) (a : c.denote), plW (c.enc a) = true
  | .unit, _ => rfl
  | .bool, _ => rfl
  | .int _ _, _ => rfl
  | .nat _ _, _ => rfl
  | .u8, _ => rfl
  | .bytes _ _, _ => rfl
  | .text _ _ _ _, _ => rfl
  | .list _ _ c, a => plWs_map (fun x => pl_enc c x) a
  | .pair c d, a => by
    show (plW (c.enc a.1) && (plW (d.enc a.2) && true)) = true
    rw [pl_enc c a.1, pl_enc d a.2] <;> rfl
  | .triple c d e, a => by
    show (plW (c.enc a.1) && (plW (d.enc a.2.1) && (plW (e.enc a.2.2) && true))) = true
    rw [pl_enc c a.1, pl_enc d a.2.1, pl_enc e a.2.2] <;> rfl
  | .option c, none => rfl
  | .option c, some x => pl_enc c x
theorem pl_encAll : ∀ (cs : List Codec) (a : Codec.denoteAll cs), plWs (Codec.encAll cs a) = true
  | [], _ => rfl
  | c :: cs, a => by
    show (plW (c.enc a.1) && plWs (Codec.encAll cs a.2)) = true
    rw [pl_enc c a.1, pl_encAll cs a.2] <;> rfl
theorem weight_mem : ∀ {xs : List WData} {d : WData}, d ∈ xs → d.weight ≤ WData.weightAll xs
  | [], d, h => absurd h (by simp)
  | x :: r, d, h => by
    show d.weight ≤ x.weight + 1 + WData.weightAll r
    rcases List.mem_cons.mp h with e | m
    · rw [e]
      omega
    · have z := weight_mem m
      omega
def toV : Value → V
  | .none => .non
  | .bool b => .bl b
  | .int i _ => .int i
  | .str x _ => .str x
  | .bytes b _ => .byt b
  | .ref a => .ref a
  | _ => .non
def OkU (A : List Addr) : Value → Prop
  | .none => True
  | .bool _ => True
  | .int _ _ => True
  | .str _ _ => True
  | .bytes _ _ => True
  | .ref a => a ∈ A
  | _ => False
theorem OkU.mono {A B : List Addr} (h : ∀ a ∈ A, a ∈ B) : ∀ {u : Value}, OkU A u → OkU B u := fun {u} x => by
  cases u with
  | ref a => exact h a x
  | none => trivial
  | bool b => trivial
  | int i t => trivial
  | str s t => trivial
  | bytes b t => trivial
  | _ => exact False.elim x
theorem relV_toV {A : List Addr} {u : Value} (x : OkU A u) : RelV (toV u) u := by
  cases u with
  | ref a => rfl
  | none => rfl
  | bool b => rfl
  | int i t => exact ⟨t, rfl⟩
  | str s t => exact ⟨t, rfl⟩
  | bytes b t => exact ⟨t, rfl⟩
  | _ => exact False.elim x
theorem vals_toV {A : List Addr} : ∀ {vs : List Value}, (∀ u ∈ vs, OkU A u) → Vals (vs.map toV) vs
  | [], _ => .nil
  | u :: r, h => .cons (relV_toV (h u (List.mem_cons_self ..))) (vals_toV fun x hx => h x (List.mem_cons_of_mem _ hx))
def ArgOb (h : Heap) (A : List Addr) (a : Addr) : Prop := ∃ vs : List Value, vs.length ≤ sizeLine ∧ (∀ u ∈ vs, OkU A u) ∧
  (h.get? a = some { cls := .type "list", data := .seq vs.toArray } ∨ h.get? a = some { cls := .type "tuple", data := .seq vs.toArray })
theorem ArgOb.mono {h : Heap} {A B : List Addr} {a : Addr} (k : ∀ a ∈ A, a ∈ B) (x : ArgOb h A a) : ArgOb h B a := by
  obtain ⟨vs, h1, h2, h3⟩ := x
  exact ⟨vs, h1, fun u hu => (h2 u hu).mono k, h3⟩
theorem wellAll_len {P : Params} {h : Heap} : ∀ {vs : List Value} {ds : List WData}, WellAll P h vs ds → vs.length = ds.length
  | _, _, .nil => rfl
  | _, _, .cons _ b => by
    show _ + 1 = _ + 1
    rw [wellAll_len b]
theorem well_list {P : Params} {h : Heap} {v : Value} {ds : List WData} (x : Well P h v (.list ds)) : ∃ (a : Addr) (vs : List Value), v = .ref a ∧ h.get? a = some { cls := .type "list", data := .seq vs.toArray } ∧ WellAll P h vs ds := by
  cases x with
  | list ho hall => exact ⟨_, _, rfl, ho, hall⟩
theorem well_tuple {P : Params} {h : Heap} {v : Value} {ds : List WData} (x : Well P h v (.tuple ds)) : ∃ (a : Addr) (vs : List Value), v = .ref a ∧ h.get? a = some { cls := .type "tuple", data := .seq vs.toArray } ∧ WellAll P h vs ds := by
  cases x with
  | tuple ho hall => exact ⟨_, _, rfl, ho, hall⟩
theorem well_cons {P : Params} {h : Heap} {us : List Value} {d : WData} {ds : List WData} (x : WellAll P h us (d :: ds)) : ∃ (v : Value) (vs : List Value), us = v :: vs ∧ Well P h v d ∧ WellAll P h vs ds := by
  cases x with
  | cons a b => exact ⟨_, _, rfl, a, b⟩
theorem line_of {n : Nat} (h : n ≤ 1048576) : n ≤ sizeLine := Nat.le_trans h (by decide)
section
variable {P : Params} {h : Heap}
mutual
theorem area_one : ∀ (d : WData) (v : Value), Well P h v d → plW d = true → d.weight ≤ 1048576 → ∃ A : List Addr, OkU A v ∧ ∀ a ∈ A, ArgOb h A a
  | .none, _, x, _, _ => by
    cases x
    exact ⟨[], trivial, fun a m => absurd m (by simp)⟩
  | .bool b, _, x, _, _ => by
    cases x
    exact ⟨[], trivial, fun a m => absurd m (by simp)⟩
  | .int i, _, x, _, _ => by
    cases x
    exact ⟨[], trivial, fun a m => absurd m (by simp)⟩
  | .str s, _, x, _, _ => by
    cases x
    exact ⟨[], trivial, fun a m => absurd m (by simp)⟩
  | .bytes b, _, x, _, _ => by
    cases x
    exact ⟨[], trivial, fun a m => absurd m (by simp)⟩
  | .list ds, _, x, p, z => by
    obtain ⟨a, vs, rfl, ho, hall⟩ := well_list x
    have z2 : WData.weightAll ds ≤ 1048576 := z
    obtain ⟨A, h1, h2⟩ := area_all ds _ hall p fun d hd => Nat.le_trans (weight_mem hd) z2
    have k : ∀ b ∈ A, b ∈ a :: A := fun b hb => List.mem_cons_of_mem _ hb
    refine ⟨a :: A, List.mem_cons_self .., fun b hb => ?_⟩
    rcases List.mem_cons.mp hb with e | m
    · rw [e]
      exact ⟨vs, line_of (by rw [wellAll_len hall]; exact Nat.le_trans (PySem.W.length_le_weightAllW ds) z2), fun u hu => (h1 u hu).mono k, .inl ho⟩
    · exact (h2 b m).mono k
  | .tuple ds, _, x, p, z => by
    obtain ⟨a, vs, rfl, ho, hall⟩ := well_tuple x
    have z2 : WData.weightAll ds ≤ 1048576 := z
    obtain ⟨A, h1, h2⟩ := area_all ds _ hall p fun d hd => Nat.le_trans (weight_mem hd) z2
    have k : ∀ b ∈ A, b ∈ a :: A := fun b hb => List.mem_cons_of_mem _ hb
    refine ⟨a :: A, List.mem_cons_self .., fun b hb => ?_⟩
    rcases List.mem_cons.mp hb with e | m
    · rw [e]
      exact ⟨vs, line_of (by rw [wellAll_len hall]; exact Nat.le_trans (PySem.W.length_le_weightAllW ds) z2), fun u hu => (h1 u hu).mono k, .inr ho⟩
    · exact (h2 b m).mono k
  | .float _, _, _, p, _ => Bool.noConfusion (show false = true from p)
  | .dict _, _, _, p, _ => Bool.noConfusion (show false = true from p)
  | .bytearray _, _, _, p, _ => Bool.noConfusion (show false = true from p)
  | .set _, _, _, p, _ => Bool.noConfusion (show false = true from p)
  | .frozenset _, _, _, p, _ => Bool.noConfusion (show false = true from p)
  | .obj _ _, _, _, p, _ => Bool.noConfusion (show false = true from p)
theorem area_all : ∀ (ds : List WData) (vs : List Value), WellAll P h vs ds → plWs ds = true → (∀ d ∈ ds, d.weight ≤ 1048576) → ∃ A : List Addr, (∀ u ∈ vs, OkU A u) ∧ ∀ a ∈ A, ArgOb h A a
  | [], _, x, _, _ => by
    cases x
    exact ⟨[], fun u m => absurd m (by simp), fun a m => absurd m (by simp)⟩
  | d :: ds, _, x, p, z => by
    obtain ⟨v, vs, rfl, x1, x2⟩ := well_cons x
    have q : plW d = true ∧ plWs ds = true := Bool.and_eq_true_iff.mp p
    obtain ⟨A, a1, a2⟩ := area_one d v x1 q.1 (z d (List.mem_cons_self ..))
    obtain ⟨B, b1, b2⟩ := area_all ds vs x2 q.2 fun e he => z e (List.mem_cons_of_mem _ he)
    have kA : ∀ b ∈ A, b ∈ A ++ B := fun b hb => List.mem_append.mpr (.inl hb)
    have kB : ∀ b ∈ B, b ∈ A ++ B := fun b hb => List.mem_append.mpr (.inr hb)
    refine ⟨A ++ B, fun u hu => ?_, fun b hb => ?_⟩
    · rcases List.mem_cons.mp hu with e | m
      · rw [e]
        exact a1.mono kA
      · exact (b1 u m).mono kB
    · rcases List.mem_append.mp hb with m | m
      · exact (a2 b m).mono kA
      · exact (b2 b m).mono kB
end
end
def hoOf (o : Obj) : Option HO := match o.data with
  | .seq vs _ => if (o.cls == Value.type "list") = true then some (.frz o (.lst (vs.toList.map toV))) else some (.frz o (.tup (vs.toList.map toV)))
  | _ => none
def argH (K : PySem.W.Frag) (h : Heap) (A : List Addr) : Hp := fun b => if b ∈ A then (if (K.lookup b).isNone = true then (h.get? b).bind hoOf else none) else none
def OnlyF (H : Hp) : Prop := ∀ b, H b = none ∨ ∃ o u, H b = some (.frz o u)
theorem hoOf_lst (vs : List Value) : hoOf { cls := .type "list", data := .seq vs.toArray } = some (.frz { cls := .type "list", data := .seq vs.toArray } (.lst (vs.map toV))) := by
  show (if (Value.type "list" == Value.type "list") = true then some (HO.frz { cls := .type "list", data := .seq vs.toArray } (.lst (vs.toArray.toList.map toV))) else some (HO.frz { cls := .type "list", data := .seq vs.toArray } (.tup (vs.toArray.toList.map toV)))) = _
  rw [if_pos (beq_self_eq_true _)]
theorem hoOf_tup (vs : List Value) : hoOf { cls := .type "tuple", data := .seq vs.toArray } = some (.frz { cls := .type "tuple", data := .seq vs.toArray } (.tup (vs.map toV))) := by
  show (if (Value.type "tuple" == Value.type "list") = true then some (HO.frz { cls := .type "tuple", data := .seq vs.toArray } (.lst (vs.toArray.toList.map toV))) else some (HO.frz { cls := .type "tuple", data := .seq vs.toArray } (.tup (vs.toArray.toList.map toV)))) = _
  rw [if_neg (by decide)]
section
variable {P : Program} {w : World} {K : PySem.W.Frag} {h : Heap} {A : List Addr}
theorem argH_at {b : Addr} {o : Obj} (hb : b ∈ A) (hk : K.lookup b = none) (e : h.get? b = some o) : argH K h A b = hoOf o := by
  unfold argH
  rw [if_pos hb, hk, if_pos (show (none : Option Obj).isNone = true from rfl), e] <;> rfl
theorem of_argH {b : Addr} {u : HO} (q : argH K h A b = some u) : b ∈ A ∧ K.lookup b = none := by
  unfold argH at q
  by_cases hb : b ∈ A
  · rw [if_pos hb] at q
    cases hk : K.lookup b with
    | none => exact ⟨hb, rfl⟩
    | some o =>
      rw [hk, if_neg (by simp)] at q
      cases q
  · rw [if_neg hb] at q
    cases q
theorem argH_is (ar : ∀ a ∈ A, ArgOb h A a) {b : Addr} {u : HO} (q : argH K h A b = some u) : K.lookup b = none ∧ ∃ vs : List Value, vs.length ≤ sizeLine ∧ (∀ u ∈ vs, OkU A u) ∧
    ((h.get? b = some { cls := .type "list", data := .seq vs.toArray } ∧ u = .frz { cls := .type "list", data := .seq vs.toArray } (.lst (vs.map toV))) ∨
     (h.get? b = some { cls := .type "tuple", data := .seq vs.toArray } ∧ u = .frz { cls := .type "tuple", data := .seq vs.toArray } (.tup (vs.map toV)))) := by
  obtain ⟨hb, hk⟩ := of_argH q
  obtain ⟨vs, h1, h2, h3⟩ := ar b hb
  refine ⟨hk, vs, h1, h2, ?_⟩
  rcases h3 with e | e
  · rw [argH_at hb hk e, hoOf_lst] at q
    exact .inl ⟨e, (Option.some.inj q).symm⟩
  · rw [argH_at hb hk e, hoOf_tup] at q
    exact .inr ⟨e, (Option.some.inj q).symm⟩
theorem argH_only (ar : ∀ a ∈ A, ArgOb h A a) : OnlyF (argH K h A) := fun b => by
  cases q : argH K h A b with
  | none => exact .inl rfl
  | some u =>
    obtain ⟨_, vs, _, _, ⟨_, e⟩ | ⟨_, e⟩⟩ := argH_is ar q
    · exact .inr ⟨_, _, by rw [e]⟩
    · exact .inr ⟨_, _, by rw [e]⟩
theorem argH_ok (ar : ∀ a ∈ A, ArgOb h A a) : HOk P w (argH K h A) h := fun b u q => by
  obtain ⟨_, vs, h1, h2, ⟨e, rfl⟩ | ⟨e, rfl⟩⟩ := argH_is ar q
  · exact ⟨e, by rw [List.length_map]; exact h1, vs, _, vals_toV h2, e⟩
  · exact ⟨e, by rw [List.length_map]; exact h1, vs, vals_toV h2, _, e, rfl, _, rfl⟩
theorem seq_inj {c c' : Value} {vs us : List Value} (e : (some { cls := c, data := .seq vs.toArray } : Option Obj) = some { cls := c', data := .seq us.toArray }) : c = c' ∧ vs = us := by
  have e1 := Option.some.inj e
  have e2 : c = c' := congrArg Obj.cls e1
  have e3 : Data.seq vs.toArray = Data.seq us.toArray := congrArg Obj.data e1
  injection e3 with e4
  refine ⟨e2, ?_⟩
  have e5 := congrArg Array.toList e4
  simpa using e5
theorem argL (KX : K.In h) (ar : ∀ a ∈ A, ArgOb h A a) {a : Addr} {vs : List Value} (ha : a ∈ A) (e : h.get? a = some { cls := .type "list", data := .seq vs.toArray }) : (∀ u ∈ vs, OkU A u) ∧ SqL K (argH K h A) a (vs.map toV) := by
  obtain ⟨us, h1, h2, h3⟩ := ar a ha
  have hu : us = vs := by
    rcases h3 with q | q
    · rw [e] at q
      exact (seq_inj q).2.symm
    · rw [e] at q
      exact absurd (Value.type.inj (seq_inj q).1) (by decide)
  subst hu
  refine ⟨h2, ?_⟩
  cases hk : K.lookup a with
  | none => exact .inl (.inr ⟨_, by rw [argH_at ha hk e, hoOf_lst]⟩)
  | some o =>
    have e2 := KX a o hk
    rw [e] at e2
    obtain rfl := Option.some.inj e2
    exact .inr ⟨_, us.toArray, _, hk, rfl, rfl, rfl, by rw [List.size_toArray]; exact h1, by simpa using vals_toV h2⟩
theorem argT (KX : K.In h) (ar : ∀ a ∈ A, ArgOb h A a) {a : Addr} {vs : List Value} (ha : a ∈ A) (e : h.get? a = some { cls := .type "tuple", data := .seq vs.toArray }) : (∀ u ∈ vs, OkU A u) ∧ SqT K (argH K h A) a (vs.map toV) := by
  obtain ⟨us, h1, h2, h3⟩ := ar a ha
  have hu : us = vs := by
    rcases h3 with q | q
    · rw [e] at q
      exact absurd (Value.type.inj (seq_inj q).1) (by decide)
    · rw [e] at q
      exact (seq_inj q).2.symm
  subst hu
  refine ⟨h2, ?_⟩
  cases hk : K.lookup a with
  | none => exact .inl (.inr ⟨_, by rw [argH_at ha hk e, hoOf_tup]⟩)
  | some o =>
    have e2 := KX a o hk
    rw [e] at e2
    obtain rfl := Option.some.inj e2
    exact .inr ⟨_, us.toArray, _, hk, rfl, rfl, by rw [List.size_toArray]; exact h1, by simpa using vals_toV h2⟩
mutual
theorem dw_one {Pm : Params} (KX : K.In h) (ar : ∀ a ∈ A, ArgOb h A a) : ∀ (d : WData) (v : Value), Well Pm h v d → plW d = true → OkU A v → Dw K (argH K h A) (toV v) d
  | .none, _, x, _, _ => by
    cases x
    exact .non
  | .bool b, _, x, _, _ => by
    cases x
    exact .bl b
  | .int i, _, x, _, _ => by
    cases x
    exact .int i
  | .str s, _, x, _, _ => by
    cases x
    exact .str s
  | .bytes b, _, x, _, _ => by
    cases x
    have z := Dw.byt (K := K) (H := argH K h A) b.toArray
    exact z
  | .list ds, _, x, p, hu => by
    obtain ⟨a, vs, rfl, ho, hall⟩ := well_list x
    obtain ⟨h2, hs⟩ := argL KX ar hu ho
    exact .lst hs (dw_all KX ar ds _ hall p h2)
  | .tuple ds, _, x, p, hu => by
    obtain ⟨a, vs, rfl, ho, hall⟩ := well_tuple x
    obtain ⟨h2, hs⟩ := argT KX ar hu ho
    exact .tup hs (dw_all KX ar ds _ hall p h2)
  | .float _, _, _, p, _ => Bool.noConfusion (show false = true from p)
  | .dict _, _, _, p, _ => Bool.noConfusion (show false = true from p)
  | .bytearray _, _, _, p, _ => Bool.noConfusion (show false = true from p)
  | .set _, _, _, p, _ => Bool.noConfusion (show false = true from p)
  | .frozenset _, _, _, p, _ => Bool.noConfusion (show false = true from p)
  | .obj _ _, _, _, p, _ => Bool.noConfusion (show false = true from p)
theorem dw_all {Pm : Params} (KX : K.In h) (ar : ∀ a ∈ A, ArgOb h A a) : ∀ (ds : List WData) (vs : List Value), WellAll Pm h vs ds → plWs ds = true → (∀ u ∈ vs, OkU A u) → DwAll K (argH K h A) (vs.map toV) ds
  | [], _, x, _, _ => by
    cases x
    exact .nil
  | d :: ds, _, x, p, hu => by
    obtain ⟨v, vs, rfl, x1, x2⟩ := well_cons x
    have q : plW d = true ∧ plWs ds = true := Bool.and_eq_true_iff.mp p
    exact .cons (dw_one KX ar d v x1 q.1 (hu _ (List.mem_cons_self ..))) (dw_all KX ar ds vs x2 q.2 fun u m => hu u (List.mem_cons_of_mem _ m))
end
end
theorem spec_call {P : Program} {w : World} {K : PySem.W.Frag} {mg mb : Str → Option Value} {CX : CXT} {k : Nat} {fa : Addr} {fd : FuncData} {ps : List Str} {sp : Sp} {s₁ : Shared} {vals : List Value} {ds : List WData} {R : PySem.W.WRecords} {cl : Str → Option Addr} {d0 : WData}
    (KX : K.In s₁.heap) (hns : s₁.heap.Ns mainGlobals mg) (hb : s₁.heap.Ns builtinsNs mb) (hbb : ∀ x : Str, x ≠ "__name__" → mb x = bootBuiltins x) (hlim : s₁.heap.NoLimit) (hg : s₁.gens = #[])
    (hwl : WellAll w.params s₁.heap vals ds) (hpl : plWs ds = true) (hwt : ∀ d ∈ ds, d.weight ≤ 1048576) (hr : Room k callerA)
    (F : ∀ base : Heap, K.In base → base.Ns mainGlobals mg → FnOk P w K mg base CX k fa fd ps sp) (hbind : ∀ (s : Shared) (us : List Value), us.length = ps.length → BindsTo s fd ⟨us, []⟩ (ps.zip us)) (hlen : ds.length = ps.length)
    (hsp : ∀ (H : Hp) (xs : List V), OnlyF H → DwAll K H xs ds → sp xs H (fun v H' => Dw K H' v d0) fun _ _ _ => False)
    (hCX : ∀ H e s', CX [] H s₁ (fun _ _ _ => False) e s' → False) :
    codeAny (model P w) callerA (.call (.ref fa) ⟨vals, []⟩) (fun r s' => ∃ u as, r = .ok (.ret u) ∧ ReadsW R cl s'.heap u d0 as ∧ OldK s₁.heap s'.heap ∧ s'.os = s₁.os ∧ AllBare s'.gens) s₁ := by
  obtain ⟨A, ho, ar⟩ := area_all ds vals hwl hpl hwt
  have hO : OnlyF (argH K s₁.heap A) := argH_only ar
  have hok : HOk P w (argH K s₁.heap A) s₁.heap := argH_ok ar
  have hS := dw_all KX ar ds vals hwl hpl ho
  have hV := vals_toV ho
  have hK : ∀ b u, argH K s₁.heap A b = some u → K.lookup b = none := fun b u q => (argH_is ar q).1
  have noA : ∀ {b : Addr} {o : Obj} {es : Array DictEntry} {ep : Nat}, s₁.heap.get? b = some o → o.data = .dict es ep → argH K s₁.heap A b = none := fun {b o es ep} e d => by
    cases q : argH K s₁.heap A b with
    | none => rfl
    | some u =>
      obtain ⟨_, vs, _, _, ⟨e2, _⟩ | ⟨e2, _⟩⟩ := argH_is ar q
      · rw [e2] at e
        cases e
        have d' : Data.seq vs.toArray _ = Data.dict es ep := d
        cases d'
      · rw [e2] at e
        cases e
        have d' : Data.seq vs.toArray _ = Data.dict es ep := d
        cases d'
  generalize argH K s₁.heap A = H at hO hok hS hK noA
  have base_of : ∀ {b : Addr} {o : Obj}, s₁.heap.get? b = some o → H b = none → (hidT s₁.heap H).get? b = some o := fun e n => hidT_get e n
  have nsK : ∀ {b : Addr} {m : Str → Option Value}, s₁.heap.Ns b m → (hidT s₁.heap H).Ns b m := fun {b m} ⟨o, es, ep, e, d, r⟩ => ⟨o, es, ep, base_of e (noA e d), d, r⟩
  have nK : ∀ b o, K.lookup b = some o → H b = none := fun b o e => by
    cases q : H b with
    | none => rfl
    | some u =>
      rw [hK b u q] at e
      cases e
  have hKb : K.In (hidT s₁.heap H) := fun b o e => base_of (KX b o e) (nK b o e)
  have hM : Mod K mg (hidT s₁.heap H) := ⟨hKb, nsK hns, ⟨mb, nsK hb, hbb⟩, let ⟨mc, h1, h2⟩ := hlim; ⟨mc, nsK h1, h2⟩⟩
  have e0 : Env0 P w K mg (hidT s₁.heap H) callerA [] s₁ H := ⟨rfl, hM, fun b o e => of_hidT e, Nat.le_of_eq (hidT_size _ _), trivial, fun b hb => absurd (show b ∈ ([] : List Addr) from hb) (by simp), hok, .of_eq hg⟩
  have hl : vals.length = ps.length := by rw [wellAll_len hwl]; exact hlen
  refine codeAny_mono ((F _ hKb (nsK hns)).run callerA [] s₁ H ⟨vals, []⟩ vals (vals.map toV) _ _ hr e0 (hbind s₁ vals hl) hV (hsp H _ hO hS)) fun r s' x => ?_
  cases r with
  | error e => exact (hCX H e s' x).elim
  | ok fl =>
    cases fl with
    | next => exact False.elim x
    | brk => exact False.elim x
    | cont => exact False.elim x
    | ret u =>
      obtain ⟨v, H', os, bare, un, hok', r', q⟩ := x
      have kept : ∀ b o, s₁.heap.get? b = some o → s'.heap.get? b = some o := fun b o e => by
        cases q2 : H b with
        | none => exact un.keep b o e q2 (by intro z; exact absurd (show b ∈ ([] : List Addr) from z) (by simp)) (by simp)
        | some u2 =>
          rcases hO b with z | ⟨ob, u3, z⟩
          · rw [q2] at z
            cases z
          · have z2 := un.frzs b ob _ z
            obtain ⟨e1, _⟩ := hok b _ z
            obtain ⟨e2, _⟩ := hok' b _ z2
            rw [e] at e1
            cases e1
            exact e2
      have KX' : K.In s'.heap := fun b o e => kept b o (KX b o e)
      obtain ⟨as, hrd⟩ := Dw.reads (R := R) (cl := cl) hok' KX' d0 v u q r'
      exact ⟨u, as, rfl, hrd, OldK.of_keep kept, os, bare⟩
theorem layable_weight {ds : List WData} (h : WData.layableAll ds = true) : ∀ d ∈ ds, d.weight ≤ 1048576 := fun d hd =>
  (PySem.W.layableW_iff.mp (List.all_eq_true.mp h d hd)).2.2
theorem encAll_len : ∀ (cs : List Codec) (a : Codec.denoteAll cs), (Codec.encAll cs a).length = cs.length
  | [], _ => rfl
  | c :: cs, a => by
    show (Codec.encAll cs a.2).length + 1 = cs.length + 1
    rw [encAll_len cs a.2]
theorem walk_spec {r : OpenSpec} {k : Nat} {q : Program} {loose : List Str} {XP : (Str → Option Value) → Heap → Prop} {YP : World → Heap → Prop} {d : DefRec} {K : Params → PySem.W.Frag} {CX : World → CXT} {ps : List Str} {sp : World → Sp}
    (hwell : r.wellSaid = true) (hdf : d.params.defaults = []) (hlen : r.args.length = ps.length) (hr : Room k callerA)
    (hY : ∀ (w : World) (h : Heap), YP w h → (K w.params).In h)
    (F : ∀ (w : World) (mg : Str → Option Value) (fa : Addr) (h : Heap), YP w h → (K w.params).In h → h.Ns mainGlobals mg → mg d.name = some (.ref fa) →
      ∃ fd : FuncData, (∀ (s : Shared) (us : List Value), us.length = ps.length → BindsTo s fd ⟨us, []⟩ (ps.zip us)) ∧
        ∀ base : Heap, (K w.params).In base → base.Ns mainGlobals mg → FnOk r.prog w (K w.params) mg base (CX w) k fa fd ps (sp w))
    (hsp : ∀ (w : World) (H : Hp) (xs : List V) (a : Codec.denoteAll r.args), OnlyF H → Codec.withinAll r.args a = true → Codec.app r.args r.asked a = true → DwAll (K w.params) H xs (Codec.encAll r.args a) →
      sp w xs H (fun v H' => Dw (K w.params) H' v (r.ret.enc (Codec.app r.args r.f a))) fun _ _ _ => False)
    (hCX : ∀ (w : World) (H : Hp) (s : Shared) (e : Value) (s' : Shared), CX w [] H s (fun _ _ _ => False) e s' → False) :
    PySem.W.WalkOS q loose XP YP r d [] (fun f vs => PySem.call f vs) := by
  intro w s_0 s₁ mg mb G Y fa o pm cd doc dV kV ho hd hcd hD hmg hg args vals as hpre hlay hrd hwl hlo
  obtain ⟨a, e1, e2⟩ := PySem.W.os_pre_some hpre
  obtain ⟨e3, hwi⟩ := Codec.encAll_of_decAll r.args args a e1
  subst e3
  have KX := hY w _ Y
  obtain ⟨fd, hb, hF⟩ := F w mg fa _ Y KX G.T.g hmg
  refine PySem.W.enter_call (codeAny_mono (spec_call (R := []) (cl := classAt s_0.heap) (d0 := r.ret.enc (Codec.app r.args r.f a)) KX G.T.g G.T.b G.T.builtins G.T.nolimit hg hwl (pl_encAll _ _) (layable_weight hlay) hr hF hb (by rw [encAll_len]; exact hlen)
    (fun H xs hO hS => hsp w H xs a hO hwi e2 hS) fun H e s' => hCX w H s₁ e s') fun r' s' hq => ?_)
  obtain ⟨u, as', rfl, h1, h2, h3, h4⟩ := hq
  exact ⟨.inl ⟨u, _, as', rfl, fun _ => rfl, h1, (OpenSpec.post_iff hwell hwi _ _).mpr rfl, fun z => Bool.noConfusion (show false = true from z)⟩, h2, h3, h4⟩
theorem walk_specK {r : OpenSpec} {k : Nat} {q : Program} {loose : List Str} {XP : (Str → Option Value) → Heap → Prop} {YP : World → Heap → Prop} {d : DefRec} {K : Params → PySem.W.Frag} {CX : CXT} {ps : List Str} {sp : PySem.W.Frag → Sp}
    (hwell : r.wellSaid = true) (hdf : d.params.defaults = []) (hlen : r.args.length = ps.length) (hr : Room k callerA)
    (hY : ∀ (w : World) (h : Heap), YP w h → (K w.params).In h)
    (F : ∀ (w : World) (mg : Str → Option Value) (fa : Addr) (h : Heap), YP w h → (K w.params).In h → h.Ns mainGlobals mg → mg d.name = some (.ref fa) →
      ∃ fd : FuncData, (∀ (s : Shared) (us : List Value), us.length = ps.length → BindsTo s fd ⟨us, []⟩ (ps.zip us)) ∧
        ∀ base : Heap, (K w.params).In base → base.Ns mainGlobals mg → FnOk r.prog w (K w.params) mg base CX k fa fd ps (sp (K w.params)))
    (hsp : ∀ (K : PySem.W.Frag) (H : Hp) (xs : List V) (a : Codec.denoteAll r.args), OnlyF H → Codec.withinAll r.args a = true → Codec.app r.args r.asked a = true → DwAll K H xs (Codec.encAll r.args a) →
      sp K xs H (fun v H' => Dw K H' v (r.ret.enc (Codec.app r.args r.f a))) fun _ _ _ => False)
    (hCX : ∀ (H : Hp) (s : Shared) (e : Value) (s' : Shared), CX [] H s (fun _ _ _ => False) e s' → False) :
    PySem.W.WalkOS q loose XP YP r d [] (fun f vs => PySem.call f vs) :=
  walk_spec (K := K) (CX := fun _ => CX) (sp := fun w => sp (K w.params)) hwell hdf hlen hr hY F (fun w H xs a h1 h2 h3 h4 => hsp (K w.params) H xs a h1 h2 h3 h4) fun _ H s e s' => hCX H s e s'
end L2
end

set_option Elab.async false
set_option linter.all false
set_option maxRecDepth 100000
set_option maxHeartbeats 2000000
namespace LS
open PySem PySem.Spec PyProof.Rows L2

theorem bo_abs : bootBuiltins "abs" = some (.builtin "abs") := by decide +kernel
theorem bo_len : bootBuiltins "len" = some (.builtin "len") := by decide +kernel
theorem bo_min : bootBuiltins "min" = some (.builtin "min") := by decide +kernel
theorem bo_max : bootBuiltins "max" = some (.builtin "max") := by decide +kernel
theorem bo_sum : bootBuiltins "sum" = some (.builtin "sum") := by decide +kernel
theorem bo_sorted : bootBuiltins "sorted" = some (.builtin "sorted") := by decide +kernel
theorem bo_list : bootBuiltins "list" = some (.type "list") := by decide +kernel

/-! ### calls by what is known of a def, a method, a class -/
structure Cal (P : Program) (w : World) (K : PySem.W.Frag) (mg : Str → Option Value) (base : Heap) (k : Nat) (x : Str) (ps : List Str) (sp : Sp) : Prop where
  ex : ∃ f fd, FnOk P w K mg base CX0 k f fd ps sp ∧ mg x = some (.ref f) ∧ PySem.W.keepIn K (.ref f) = true ∧ Binds K fd ps []
structure Mth (P : Program) (w : World) (K : PySem.W.Frag) (mg : Str → Option Value) (base : Heap) (k : Nat) (C : Addr) (m : Str) (ps : List Str) (sp : Sp) : Prop where
  ex : ∃ f fd, FnOk P w K mg base CX0 k f fd ps sp ∧ Meth K C m f ∧ Cls K C ∧ Binds K fd ps []
structure Mkc (P : Program) (w : World) (K : PySem.W.Frag) (mg : Str → Option Value) (base : Heap) (k : Nat) (C : Addr) (x : Str) (ps : List Str) (sp : Sp) : Prop where
  ex : ∃ f fd, FnOk P w K mg base CX0 k f fd ps sp ∧ Mk K C f ∧ mg x = some (.ref C) ∧ Binds K fd ps []

section
variable {X : Cx} {k k' : Nat} {x m : Str} {C : Addr} {ps : List Str} {sp : Sp} {e o : Expr} {es : List Expr} {t : TA} {ta : TE} {p pos apos : Pos}
theorem pgi {n : Int} (h : ∃ t, X.mg x = some (.int n t)) (hg : Gl X x := by rfl) (hd : (x == ("__debug__" : Str)) = false := by decide) : PE X (.Name x pos) (tC (.int n)) := by
  obtain ⟨t, h⟩ := h
  exact pe_glob hg h ⟨t, rfl⟩ hd
theorem pgr {a : Addr} (h : X.mg x = some (.ref a)) (hg : Gl X x := by rfl) (hd : (x == ("__debug__" : Str)) = false := by decide) : PE X (.Name x pos) (tC (.ref a)) := pe_glob hg h rfl hd
theorem pg_tupK {K : PySem.W.Frag} {es : List Expr} {kk : Nat} {tt : TGs} {n : Nat} (hK : X.K = K) (hc : X.calm = true) (h : PGs X es tt)
    (hn : (assignEach es X.env).length = n := by rfl) (hst : (assignEach es X.env).findIdx? (·.1) = none := by rfl) : PG X (.Tuple es kk pos) (gTup K n tt) := by
  subst hK
  exact pg_tup hc h hn hst
theorem pe_fldK {K : PySem.W.Frag} {f : Str} (hK : X.K = K) (he : PE X e ta) (hb : attributeBase e f X.env (eval e X.env) = eval e X.env) : PE X (.Attribute e f pos) (tFld K ta f) := by
  subst hK
  exact pe_fld he hb
theorem yesI {σ : L2.St} {H : Hp} {f g : Hp → Prop} (h : f H) : tYes σ H (fun b H' => if b = true then f H' else g H') := by
  show if true = true then f H else g H
  rw [if_pos rfl]
  exact h
theorem pcall (G : Cal X.prog X.w X.K X.mg X.base k x ps sp) (hr : Room k' X.A) (hg : Gl X x) (ha : PA X (e :: es) t) (hk : k ≤ k' := by first | decide | omega) (hx : Passes CX0 X E0 := by exact pass0) (hdb : (x == ("__debug__" : Str)) = false := by decide)
    (he : starEach (e :: es) X.env = (false, eval e X.env) :: starEach es X.env := by rfl) (hpl : (backTo pos (starEach es X.env)).any (·.1) = false := by rfl) :
    PE X (.Call (.Name x p) (e :: es) [] pos) (tCall sp [] E0 t) := by
  obtain ⟨f, fd, F, hm, kp, b⟩ := G.ex
  exact pe_call F (hr.mono hk) hg hm kp b .nil hx ha hdb he hpl
theorem pcall0 (G : Cal X.prog X.w X.K X.mg X.base k x ps sp) (hr : Room k' X.A) (hg : Gl X x) (hk : k ≤ k' := by first | decide | omega) (hx : Passes CX0 X E0 := by exact pass0) (hdb : (x == ("__debug__" : Str)) = false := by decide) :
    PE X (.Call (.Name x p) [] [] pos) (tCall sp [] E0 tNil) := by
  obtain ⟨f, fd, F, hm, kp, b⟩ := G.ex
  exact pe_call0 F (hr.mono hk) hg hm kp b .nil hx hdb
theorem pmeth {pl : Sem Bool} (G : Mth X.prog X.w X.K X.mg X.base k C m ps sp) (hr : Room k' X.A) (ho : PE X o ta) (ha : PA X (e :: es) t) (hk : k ≤ k' := by first | decide | omega) (hx : Passes CX0 X E0 := by exact pass0)
    (hst : starEach (e :: es) X.env = (false, eval e X.env) :: starEach es X.env := by rfl) (hpl : (backTo pos (starEach es X.env)).any (·.1) = false := by rfl)
    (ht : eval (.Call (.Attribute o m apos) (e :: es) [] pos) X.env = (do
      let ov ← eval o X.env
      standAt apos.atName
      let (f, first) ← holding [ov] (getMethod ov m pl)
      callWith pos f first (backTo pos (starEach (e :: es) X.env)) (backToKw pos (keywordEach [] X.env))) := by rfl) :
    PE X (.Call (.Attribute o m apos) (e :: es) [] pos) (tMeth C m sp [] E0 ta t) := by
  obtain ⟨f, fd, F, hm, c, b⟩ := G.ex
  exact pe_meth (pl := pl) ho c hm F (hr.mono hk) b .nil hx ha hst hpl ht
theorem pmeth0 {pl : Sem Bool} (G : Mth X.prog X.w X.K X.mg X.base k C m ps sp) (hr : Room k' X.A) (ho : PE X o ta) (hk : k ≤ k' := by first | decide | omega) (hx : Passes CX0 X E0 := by exact pass0)
    (ht : eval (.Call (.Attribute o m apos) [] [] pos) X.env = (do
      let ov ← eval o X.env
      standAt apos.atName
      let (f, first) ← holding [ov] (getMethod ov m pl)
      callWith pos f first (backTo pos (starEach [] X.env)) (backToKw pos (keywordEach [] X.env))) := by rfl) :
    PE X (.Call (.Attribute o m apos) [] [] pos) (tMeth C m sp [] E0 ta tNil) := by
  obtain ⟨f, fd, F, hm, c, b⟩ := G.ex
  exact pe_meth0 (pl := pl) ho c hm F (hr.mono hk) b .nil hx ht
theorem pmk (G : Mkc X.prog X.w X.K X.mg X.base k C x ps sp) (hr : Room k' X.A) (hg : Gl X x) (ha : PA X (e :: es) t) (hk : k + 1 ≤ k' := by first | decide | omega) (hx : Passes CX0 X E0 := by exact pass0) (hdb : (x == ("__debug__" : Str)) = false := by decide)
    (he : starEach (e :: es) X.env = (false, eval e X.env) :: starEach es X.env := by rfl) (hpl : (backTo pos (starEach es X.env)).any (·.1) = false := by rfl) :
    PE X (.Call (.Name x p) (e :: es) [] pos) (tMake C sp [] E0 t) := by
  obtain ⟨f, fd, F, hm, hc, b⟩ := G.ex
  exact pe_make hm F (hr.mono hk) hg hc b .nil hx ha hdb he hpl
theorem pmk0 (G : Mkc X.prog X.w X.K X.mg X.base k C x ps sp) (hr : Room k' X.A) (hg : Gl X x) (hk : k + 1 ≤ k' := by first | decide | omega) (hx : Passes CX0 X E0 := by exact pass0) (hdb : (x == ("__debug__" : Str)) = false := by decide) :
    PE X (.Call (.Name x p) [] [] pos) (tMake C sp [] E0 tNil) := by
  obtain ⟨f, fd, F, hm, hc, b⟩ := G.ex
  exact pe_make0 hm F (hr.mono hk) hg hc b .nil hx hdb
end
end LS

namespace LS
open PySem PySem.Spec PyProof.Rows L2

/-! ### sorted of any length -/
def rSortedA (K : PySem.W.Frag) : List V → Hp → VK → Prop := fun vs H Q => ∃ (a : Addr) (ns : List Int), vs = [V.ref a] ∧ SqL K H a (ns.map V.int) ∧ ns.length ≤ sizeLine ∧
  ∀ (ns' : List Int) (p : Addr), ns'.Perm ns → ns'.Pairwise (· ≤ ·) → H p = none → Q (.ref p) (upd H p (.lst (ns'.map V.int)))
theorem cr_sortedA {X : Cx} : CallR X (.builtin "sorted") (rSortedA X.K) := by
  intro pins s σ H vs us Q I r h
  obtain ⟨a, ns, rfl, hs, h64, q⟩ := h
  obtain ⟨its, rv, hl, _⟩ := I.list hs
  rw [Vals.ref1 r]
  have hi := rv.ints
  refine PyProof.Rows.sorted_intsAny hl.isList hi (by rw [hi.length]; exact h64) fun out ns' h1 h2 h3 => ?_
  obtain ⟨ep, he'⟩ := PyProof.Rows.sortedAll_at s.heap its out
  have hlen : (ns'.map V.int).length ≤ sizeLine := by rw [List.length_map, h2.length_eq]; exact h64
  exact ⟨.ref _, upd H (s.heap.objs.size + 1) (.lst (ns'.map V.int)), I.laid (t' := s.toks) (fun _ _ => PyProof.Rows.sortedAll_old) (Nat.le_succ _) ⟨hlen, out.toList, ep, vals_of_ints h1, he'⟩, rfl, q ns' _ h2 h3 (I.hok.fresh (Nat.le_succ _))⟩

/-! ### min(xs, default=d): the loop, by what it holds of the best so far -/
theorem min_takes (x v : Value) : argsOk "min" ⟨[x], [(Str.ofString "default", v)]⟩ := by
  unfold argsOk
  kernel_rfl
def mnCode (I S : Addr) (d : Value) : Code := .builtin "min.loop" ⟨[.ref I, .none, .ref S], [(Str.ofString "default", d)]⟩
/-- the place of the best among the first i -/
def bestAt (bt : Nat → Nat → Bool) : Nat → Option Nat
  | 0 => none
  | i + 1 => some (argBest bt i)
def twice : Option Value → Array Value
  | none => #[]
  | some v => #[v, v]
inductive IsBest (P : Nat → Value → Prop) : Option Nat → Option Value → Prop
  | no : IsBest P none none
  | yes {k : Nat} {v : Value} : P k v → IsBest P (some k) (some v)
abbrev Keeps (h h' : Heap) : Prop := ∀ b o, h.get? b = some o → h'.get? b = some o
/-- the loop stands ahead of its i-th item -/
structure Mn (St : Nat → Heap → Prop) (P : Nat → Value → Prop) (bt : Nat → Nat → Bool) (h0 : Heap) (S : Addr) (i : Nat) (h : Heap) (best : Option Value) : Prop where
  st : St i h
  own : ∃ c, h.get? S = some (seqObj "list" (twice best) c)
  old : Keeps h0 h
  best : IsBest P (bestAt bt i) best
section
variable {prog : Program} {w : World} {A : Around} {R : Result → Shared → Prop} {I S : Addr} {fp wr : List Addr} {n i : Nat} {P : Nat → Value → Prop} {St : Nat → Heap → Prop} {bt : Nat → Nat → Bool} {d v : Value} {h0 h : Heap} {s0 : Shared} {best : Option Value}
/-- a better one is put down -/
theorem Mn.put (W : Walks prog w A.in1 I fp wr n P St) (out : S ∉ fp) (nS : ∀ o, h0.get? S ≠ some o) (st : St (i + 1) h) (own : ∃ c, h.get? S = some (seqObj "list" (twice best) c)) (old : Keeps h0 h) (hv : P (argBest bt i) v) :
    Mn St P bt h0 S (i + 1) (h.update S (Obj.mapSeq fun _ => #[v, v])) (some v) := by
  obtain ⟨c, e⟩ := own
  have other : ∀ b, S ≠ b → ∀ o, h.get? b = some o → (h.update S (Obj.mapSeq fun _ => #[v, v])).get? b = some o := fun b hb o q => by
    rw [Heap.get?_update_other _ _ hb]
    exact q
  exact ⟨W.frame _ _ _ st fun b hb o q => other b (fun z => out (z ▸ hb)) o q, ⟨_, get?_update_seq e _⟩, fun b o q => other b (fun z => nS o (z ▸ q)) o (old b o q), .yes hv⟩
theorem mn_loop (W : Walks prog w A.in1 I fp wr n P St)
    (cmp : ∀ i j vi vj (s : Shared) (Q : Value → Shared → Prop) (E : Value → Shared → Prop), Keeps h0 s.heap → P i vi → P j vj → Q (.bool (bt i j)) s → wpAny (model prog w) A.in1 (richCompare .Lt vi vj) Q E s)
    (out : S ∉ fp) (nS : ∀ o, h0.get? S ≠ some o) (nW : ∀ b ∈ wr, ∀ o, h0.get? b ≠ some o)
    (fin : ∀ h tk best, Keeps h0 h → IsBest P (bestAt bt n) best → R (.ok (.ret (best.getD d))) { s0 with heap := h, toks := tk }) :
    ∀ (k i : Nat) (h : Heap) (tk : Nat) (best : Option Value), n - i = k → i ≤ n → Mn St P bt h0 S i h best → codeAny (model prog w) A (mnCode I S d) R { s0 with heap := h, toks := tk } := by
  have outW : S ∉ wr := fun z => out (W.sub _ z)
  have nm : (toString "min" ++ toString ".loop" : String) = "min.loop" := by decide
  have two : ∀ {v : Value}, (twice (some v)).size ≤ sizeLine := fun {v} => show 2 ≤ sizeLine by decide
  have past : ∀ {h h' : Heap}, Keeps h0 h → (∀ b o, b ∉ wr → h.get? b = some o → h'.get? b = some o) → Keeps h0 h' := fun a c b o e => c b o (fun z => nW b z o e) (a b o e)
  intro k
  induction k with
  | zero =>
    intro i h tk best hk hi M
    have ei : i = n := by omega
    obtain ⟨c, hS⟩ := M.own
    have hbest := M.best
    have hst := M.st
    rw [ei] at hbest hst
    refine codeAny_builtin F.entry_min_loop ((Around.under_plainId F.plain_min_loop _).symm ▸ ?_)
    show wpAny _ A.in1 (seqItems? (.ref S) >>= fun _ => _) _ _ _
    refine wpAny_bind (wpAny_seqItems hS rfl (wpAny_bind (wpAny_tryCatch (W.done _ _ _ hst fun h' tk' kp => ?_))))
    have hS' := kp S _ outW hS
    cases best with
    | none => exact wpAny_bind (wpAny_rule (wpAny_pure (fin h' tk' none (past M.old kp) hbest)))
    | some v =>
      refine wpAny_bind (wpAny_updateSeq hS' rfl (wpAny_bind (wpAny_letGo (wpAny_pure (fin _ tk' (some v) ?_ hbest)))) two)
      intro b o e
      rw [Heap.get?_update_other _ _ (show S ≠ b from fun z => nS o (by rw [z]; exact e))]
      exact past M.old kp b o e
  | succ k ih =>
    intro i h tk best hk hi M
    have lt : i < n := by omega
    obtain ⟨c, hS⟩ := M.own
    refine codeAny_builtin F.entry_min_loop ((Around.under_plainId F.plain_min_loop _).symm ▸ ?_)
    show wpAny _ A.in1 (seqItems? (.ref S) >>= fun _ => _) _ _ _
    refine wpAny_bind (wpAny_seqItems hS rfl (wpAny_bind (wpAny_tryCatch (W.item i _ _ _ lt M.st fun v h' tk' hv st' kp => ?_))))
    have hS' := kp S _ outW hS
    have old' := past M.old kp
    have again : ∀ {h2 : Heap} {b2 : Option Value}, Mn St P bt h0 S (i + 1) h2 b2 → codeAny (model prog w) A (mnCode I S d) R { s0 with heap := h2, toks := tk' } := fun M2 => ih (i + 1) _ tk' _ (by omega) lt M2
    match i, best, M.best with
    | 0, none, _ =>
      refine wpAny_bind (wpAny_pure (wpAny_bind (wpAny_updateSeq hS' rfl ?_)))
      rw [nm]
      exact wpAny_pure ⟨plainId_quiet F.plain_min_loop _, again (Mn.put W out nS st' ⟨_, hS'⟩ old' hv)⟩
    | i + 1, some b, .yes hb =>
      have go := cmp (i + 1) (argBest bt i) v b
      refine wpAny_bind (wpAny_pure (wpAny_bind (wpAny_tryCatch (wpAny_holding (wpAny_bind (go _ _ _ old' hv hb ?_))))))
      refine wpAny_bind (wpAny_holding (wpAny_truthy_bool (wpAny_bind (wpAny_letGo (wpAny_pure ?_)))))
      cases better : bt (i + 1) (argBest bt i) with
      | true =>
        rw [if_pos rfl]
        refine wpAny_bind (wpAny_updateSeq hS' rfl (wpAny_bind (wpAny_letGo ?_)) two)
        rw [nm]
        exact wpAny_pure ⟨plainId_quiet F.plain_min_loop _, again (Mn.put W out nS st' ⟨_, hS'⟩ old' (by rw [argBest, better]; exact hv))⟩
      | false =>
        rw [if_neg Bool.false_ne_true]
        refine wpAny_bind (wpAny_letGo ?_)
        rw [nm]
        exact wpAny_pure ⟨plainId_quiet F.plain_min_loop _, again ⟨st', ⟨_, hS'⟩, old', .yes (by rw [argBest, better]; exact hb)⟩⟩
end

section
variable {prog : Program} {w : World} {A : Around} {E : Value → Shared → Prop} {s : Shared} {l : Addr} {its : List Value} {Q : Value → Shared → Prop}
theorem min_list_d (hh : A.handled = none) (hl : s.heap.IsList l its.toArray) (bt : Nat → Nat → Bool)
    (hcmp : ∀ i j vi vj (s' : Shared) (Q : Value → Shared → Prop) (E : Value → Shared → Prop), Keeps s.heap s'.heap → its[i]? = some vi → its[j]? = some vj → Q (.bool (bt i j)) s' → wpAny (model prog w) A.in1 (richCompare .Lt vi vj) Q E s')
    (d : Value) (q0 : its = [] → ∀ h' tk, Keeps s.heap h' → Q d { s with heap := h', toks := tk })
    (q1 : ∀ v h' tk, its[argBest bt (its.length - 1)]? = some v → Keeps s.heap h' → Q v { s with heap := h', toks := tk }) :
    wpAny (model prog w) A (call (.builtin "min") [.ref l] [(Str.ofString "default", d)]) Q E s := by
  have nm : (toString "min" ++ toString ".loop" : String) = "min.loop" := by decide
  obtain ⟨o, ho, _⟩ := id hl
  have there : ∀ {b : Addr} {u : Obj}, s.heap.get? b = some u → b < s.heap.objs.size := Heap.lt_size
  refine PyProof.Rows.kmk_tree F.kind_min F.plain_min F.entry_min (min_takes _ _) ?_
  refine wpAny_bind (wpAny_of_eq (show Builtin.Builtins.bindParams "min" ["key", "default"] 0 ⟨[], [(Str.ofString "default", d)]⟩ = pure [none, some d] from rfl) (wpAny_bind (wpAny_pure (wpAny_bind (wpAny_pyIter_list hl (wpAny_bind (wpAny_newList ?_ (Nat.zero_le _))))))))
  rw [nm]
  refine wpAny_pure ⟨plainId_quiet F.plain_min_loop _, ?_⟩
  -- the iterator, then the loop's own list: both are new
  let oI : Obj := { cls := .type "list_iterator", data := .fields #[.ref l, .int 0 0] }
  have eI : (s.heap.push oI).get? s.heap.objs.size = some oI := Heap.get?_push_size _ rfl
  have zS : (s.heap.push oI).objs.size = s.heap.objs.size + 1 := size_push' ..
  have k1 : Keeps s.heap (s.heap.push oI) := fun b u e => Heap.get?_push_of_some _ e
  have eS : ((s.heap.push oI).push (seqObj "list" #[] 0)).get? (s.heap.push oI).objs.size = some (seqObj "list" #[] 0) := Heap.get?_push_size _ rfl
  have k2 : Keeps (s.heap.push oI) ((s.heap.push oI).push (seqObj "list" #[] 0)) := fun b u e => Heap.get?_push_of_some _ e
  have W := Walks.list (prog := prog) (w := w) (A := A.in1) hh s.heap.objs.size l (Nat.ne_of_lt (there ho)) its.toArray
  have len : its.toArray.size = its.length := List.size_toArray ..
  have newI : ∀ u, s.heap.get? s.heap.objs.size ≠ some u := fun u e => Nat.lt_irrefl _ (there e)
  have newS : ∀ u, s.heap.get? (s.heap.push oI).objs.size ≠ some u := fun u e => by
    have z := there e
    rw [zS] at z
    exact Nat.lt_irrefl _ (Nat.lt_of_succ_lt z)
  have out : (s.heap.push oI).objs.size ∉ [s.heap.objs.size, l] := fun z => by
    rcases List.mem_cons.mp z with z | z
    · rw [zS] at z
      exact Nat.ne_of_gt (Nat.lt_succ_self _) z
    · exact newS o ((List.mem_singleton.mp z) ▸ ho)
  refine mn_loop (s0 := s) (h0 := s.heap) (bt := bt) W (fun i j vi vj s' Q' E' kp hi hj q => hcmp i j vi vj s' Q' E' kp (by simpa using hi) (by simpa using hj) q) out newS (fun b hb u e => newI u ((List.mem_singleton.mp hb) ▸ e)) (fun h tk best kp isb => ?_) _ 0 _ s.toks none rfl (Nat.zero_le _)
    ⟨⟨⟨oI, k2 _ _ eI, rfl, rfl⟩, hl.at fun u e => k2 _ _ (k1 _ _ e)⟩, ⟨0, eS⟩, fun b u e => k2 _ _ (k1 _ _ e), .no⟩
  rw [len] at isb
  cases its with
  | nil =>
    cases best with
    | none => exact q0 rfl h tk kp
    | some v => cases isb
  | cons x r =>
    cases best with
    | none => cases isb
    | some v =>
      cases isb with
      | yes hv => exact q1 v h tk (by simpa using hv) kp
end

/-! ### a list of two ints less than another -/
/-- a list of these two at a -/
def Two (h : Heap) (a : Addr) (p : Int × Int) : Prop := ∃ n dd sl t u, h.get? a = some (⟨.type "list", dd, .seq #[.int p.1 t, .int p.2 u] n, sl⟩ : Obj)
def ltP (p q : Int × Int) : Prop := p.1 < q.1 ∨ (p.1 = q.1 ∧ p.2 < q.2)
instance (p q : Int × Int) : Decidable (ltP p q) := inferInstanceAs (Decidable (_ ∨ _))
theorem ltP_fst {p q : Int × Int} (h : p.1 ≠ q.1) : decide (p.1 < q.1) = decide (ltP p q) := by
  by_cases c : p.1 < q.1
  · rw [decide_eq_true c, decide_eq_true (show ltP p q from .inl c)]
  · rw [decide_eq_false c, decide_eq_false (show ¬ ltP p q by unfold ltP; omega)]
theorem ltP_snd {p q : Int × Int} (h : p.1 = q.1) : decide (p.2 < q.2) = decide (ltP p q) := by
  by_cases c : p.2 < q.2
  · rw [decide_eq_true c, decide_eq_true (show ltP p q from .inr ⟨h, c⟩)]
  · rw [decide_eq_false c, decide_eq_false (show ¬ ltP p q by unfold ltP; omega)]
def cpCode (l b : Addr) (i : Nat) : Code := .builtin "list.__eq__.loop" ⟨[.ref l, .ref b, rawInt i, rawInt 0], []⟩
section
open PySem.AutoSeq1 (wpAny_loadPart')
variable {prog : Program} {w : World} {A : Around} {R : Result → Shared → Prop} {s : Shared} {l b : Addr} {items items2 : Array Value} {n n2 i : Nat} {dd dd2 : Option Addr} {sl sl2 : Array (Option Value)} {x y : Int} {t u : Tok}
/-- both have an i-th: like ones are passed, others tell -/
theorem cp_turn (hl : s.heap.get? l = some ⟨.type "list", dd, .seq items n, sl⟩) (hb : s.heap.get? b = some ⟨.type "list", dd2, .seq items2 n2, sl2⟩) (e1 : items[i]? = some (.int x t)) (e2 : items2[i]? = some (.int y u))
    (hne : x ≠ y → R (.ok (.ret (.bool (decide (x < y))))) s) (heq : x = y → codeAny (model prog w) A (cpCode l b (i + 1)) R s) : codeAny (model prog w) A (cpCode l b i) R s := by
  refine codeAny_builtin MeetsSeq3.entry_eq_loop ((Around.under_plainId MeetsSeq3.plain_eq_loop _).symm ▸ ?_)
  obtain ⟨mem, gs, dr, tk, os⟩ := s
  have a1 : items[((i : Nat) : Int).toNat]? = some (.int x t) := by rw [Int.toNat_natCast]; exact e1
  have a2 : items2[((i : Nat) : Int).toNat]? = some (.int y u) := by rw [Int.toNat_natCast]; exact e2
  wp_walk using wpAny_loadPart' hb, wpAny_loadPart' hl
  rw [a1, a2]
  obtain ⟨c, he, hc⟩ := HT.eqAt_int A.in1 ⟨mem, gs, dr, tk, os⟩ x t y u
  refine wpAny_bind (he prog w _ _ ?_)
  cases c with
  | true =>
    wp_walk
    rw [show ((i : Int) + 1) = ((i + 1 : Nat) : Int) from rfl]
    exact ⟨plainId_quiet MeetsSeq3.plain_eq_loop _, heq (hc.mp rfl)⟩
  | false =>
    have q := hne fun z => Bool.false_ne_true (hc.mpr z)
    have less := HT.rcLt_int A.in1 ⟨mem, gs, dr, tk, os⟩ x t y u prog w
    wp_walk using wpAny_loadPart' hb, wpAny_loadPart' hl
    rw [a1, a2]
    wp_walk using less
    exact q
/-- neither has an i-th -/
theorem cp_end (hl : s.heap.get? l = some ⟨.type "list", dd, .seq items n, sl⟩) (hb : s.heap.get? b = some ⟨.type "list", dd2, .seq items2 n2, sl2⟩) (e1 : items.size = i) (e2 : items2.size = i)
    (h : R (.ok (.ret (.bool false))) s) : codeAny (model prog w) A (cpCode l b i) R s := by
  refine codeAny_builtin MeetsSeq3.entry_eq_loop ((Around.under_plainId MeetsSeq3.plain_eq_loop _).symm ▸ ?_)
  obtain ⟨mem, gs, dr, tk, os⟩ := s
  have a1 : items[((i : Nat) : Int).toNat]? = none := by rw [Int.toNat_natCast]; exact Array.getElem?_eq_none (by omega)
  have a2 : items2[((i : Nat) : Int).toNat]? = none := by rw [Int.toNat_natCast]; exact Array.getElem?_eq_none (by omega)
  wp_walk using wpAny_loadPart' hb, wpAny_loadPart' hl
  rw [a1, a2]
  wp_walk using wpAny_loadPart' hb, wpAny_loadPart' hl
  show R (.ok (.ret (.bool (decide (items.size < items2.size))))) _
  rw [e1, e2, decide_eq_false (Nat.lt_irrefl _)]
  exact h
end
theorem two_lt (l b : Addr) (p q : Int × Int) : Meets (Builtin.«list.__lt__» ⟨[.ref l, .ref b], []⟩) (fun _ R s => Two s.heap l p ∧ Two s.heap b q ∧ R (.ok (.ret (.bool (decide (ltP p q))))) s) := by
  rintro prog w A R ⟨mem, gs, dr, tk, os⟩ ⟨⟨n, dd, sl, t, u, hl⟩, ⟨n2, dd2, sl2, t2, u2, hb⟩, h⟩
  have sub := AutoSeq1.sub_list_list
  have loop : codeAny (model prog w) A (cpCode l b 0) R ⟨mem, gs, dr, tk, os⟩ :=
    cp_turn hl hb rfl rfl (fun z => by rw [ltP_fst z]; exact h) fun z =>
      cp_turn hl hb rfl rfl (fun _ => by rw [ltP_snd z]; exact h) fun z2 => cp_end hl hb rfl rfl (by
        rw [decide_eq_false (show ¬ ltP p q by unfold ltP; omega)] at h
        exact h)
  wp_walk using AutoSeq1.wpAny_loadPart' hl, AutoSeq1.wpAny_loadPart' hb
  exact ⟨plainId_quiet MeetsSeq3.plain_eq_loop _, loop⟩
theorem lt_two {prog : Program} {w : World} {A : Around} {E : Value → Shared → Prop} {s : Shared} {l b : Addr} {p q : Int × Int} {Q : Value → Shared → Prop} (hl : Two s.heap l p) (hb : Two s.heap b q) (room : A.units < cLine) (h : Q (.bool (decide (ltP p q))) s) :
    wpAny (model prog w) A (richCompare .Lt (.ref l) (.ref b)) Q E s := by
  obtain ⟨n, dd, sl, t, u, el⟩ := id hl
  obtain ⟨n2, dd2, sl2, t2, u2, eb⟩ := id hb
  exact richCompare_meets_room (op := .Lt) ⟨_, el, rfl⟩ ⟨_, eb, rfl⟩ F.slot_list_lt F.entry_list_lt (F.args_list_lt_2 _ _) (two_lt l b p q) ⟨hl, hb, (fun z => nomatch z : Value.bool (decide (ltP p q)) ≠ Value.notImplemented), h⟩ room

/-! ### the readings -/
def tMinD (r : List V → List V → Hp → VK → Prop) (t tk : TA) : TE := fun σ H Q => t σ H fun vs H1 => tk σ H1 fun zs H2 => r vs zs H2 Q
/-- of ints -/
def rMinD (K : PySem.W.Frag) : List V → List V → Hp → VK → Prop := fun vs zs H Q => ∃ (a : Addr) (ns : List Int) (d : Int), vs = [V.ref a] ∧ zs = [V.int d] ∧ SqL K H a (ns.map V.int) ∧ (ns = [] → Q (.int d) H) ∧ ∀ m, m ∈ ns → (∀ y, y ∈ ns → m ≤ y) → Q (.int m) H
/-- of lists of two ints -/
def rMinL (K : PySem.W.Frag) : List V → List V → Hp → VK → Prop := fun vs zs H Q => ∃ (a dd : Addr) (as : List Addr) (ps : List (Int × Int)), vs = [V.ref a] ∧ zs = [V.ref dd] ∧ SqL K H a (as.map V.ref) ∧ as.length = ps.length ∧
  (∀ (i : Nat) (x : Addr) (p : Int × Int), as[i]? = some x → ps[i]? = some p → H x = some (.lst [.int p.1, .int p.2])) ∧ (as = [] → Q (.ref dd) H) ∧ ∀ (i : Nat) (x : Addr) (p : Int × Int), as[i]? = some x → ps[i]? = some p → (∀ (j : Nat) (q : Int × Int), ps[j]? = some q → ¬ ltP q p) → Q (.ref x) H
theorem argBest_ltP (pr : Nat → Int × Int) (k : Nat) : argBest (fun i j => decide (ltP (pr i) (pr j))) k ≤ k ∧ ∀ j, j ≤ k → ¬ ltP (pr j) (pr (argBest (fun i j => decide (ltP (pr i) (pr j))) k)) := by
  induction k with
  | zero =>
    refine ⟨Nat.zero_le 0, fun j hj => ?_⟩
    rw [show j = 0 from Nat.le_zero.mp hj]
    show ¬ ltP (pr 0) (pr 0)
    unfold ltP
    omega
  | succ k ih =>
    obtain ⟨at_, least⟩ := ih
    rw [argBest]
    generalize argBest (fun i j => decide (ltP (pr i) (pr j))) k = m at at_ least ⊢
    have split : ∀ j, j ≤ k + 1 → j = k + 1 ∨ j ≤ k := fun j hj => by omega
    by_cases c : ltP (pr (k + 1)) (pr m)
    · rw [decide_eq_true c, if_pos rfl]
      refine ⟨Nat.le_refl _, fun j hj z => ?_⟩
      rcases split j hj with e | e
      · rw [e] at z
        unfold ltP at z
        omega
      · have := least j e
        unfold ltP at this z c
        omega
    · rw [decide_eq_false c, if_neg Bool.false_ne_true]
      refine ⟨Nat.le_succ_of_le at_, fun j hj => ?_⟩
      rcases split j hj with e | e
      · rw [e]; exact c
      · exact least j e
section
variable {X : Cx} {p pos kp : Pos} {e d : Expr} {t tk : TA} {nm : Str} {k : Nat}
/-- what is common: the arguments are read, then the call -/
theorem pe_min_kw {r : List V → List V → Hp → VK → Prop} (hg : Gl X "min") (hm : X.mg "min" = none) (ha : PA X [e] t) (hk : PK X [⟨some nm, d, kp⟩] tk)
    (hc : ∀ (pins : List (Addr × Obj)) (s : Shared) (σ : L2.St) (H : Hp) (vs zs : List V) (us ws : List Value) (Q : VK), Inv X pins σ H s → Vals vs us → Vals zs ws → r vs zs H Q → wpAny (model X.prog X.w) X.A (call (.builtin "min") us ([nm].zip ws)) (EP X pins σ Q) X.xe s)
    (he : backTo pos (starEach [e] X.env) = (false, eval e X.env) :: backTo pos (starEach [] X.env) := by rfl) (hpl : (backTo pos (starEach [e] X.env)).any (·.1) = false := by rfl)
    (hall : (backToKw pos (keywordEach [⟨some nm, d, kp⟩] X.env)).all (·.1.isSome) = true := by rfl) (hkw : (backToKw pos (keywordEach [⟨some nm, d, kp⟩] X.env)).any (·.1.isNone) = false := by rfl)
    (hks : (backToKw pos (keywordEach [⟨some nm, d, kp⟩] X.env)).filterMap (·.1) = [nm] := by rfl) :
    PE X (.Call (.Name "min" p) [e] [⟨some nm, d, kp⟩] pos) (tMinD r t tk) := by
  intro pins s σ H Q I h
  refine wpAny_Call_Name_kw (ld_blt I hg hm bo_min ?_ (by decide) (by decide))
  refine PyProof.Rows.callWith_kw (thn (ha pos pins s σ H _ I h) fun us s1 ⟨vs, H1, I1, r1, q1⟩ => thn (hk pos pins s1 σ H1 _ I1 q1) fun ws s2 ⟨zs, H2, I2, r2, q2⟩ => ?_) he hpl hall hkw
  rw [hks]
  exact hc pins s2 σ H2 vs zs us ws Q I2 r1 r2 q2
theorem Vals.int1 {i : Int} {us : List Value} (r : Vals [V.int i] us) : ∃ t, us = [Value.int i t] := by
  cases r with
  | cons r t =>
    cases t
    obtain ⟨t, rfl⟩ := r
    exact ⟨t, rfl⟩
theorem cr_minD (hc : X.calm = true) (pins : List (Addr × Obj)) (s : Shared) (σ : L2.St) (H : Hp) (vs zs : List V) (us ws : List Value) (Q : VK) (I : Inv X pins σ H s) (r1 : Vals vs us) (r2 : Vals zs ws) (h : rMinD X.K vs zs H Q) :
    wpAny (model X.prog X.w) X.A (call (.builtin "min") us ([Str.ofString "default"].zip ws)) (EP X pins σ Q) X.xe s := by
  obtain ⟨a, ns, d, rfl, rfl, hs, q0, q1⟩ := h
  obtain ⟨its, rv, hl, _⟩ := I.list hs
  rw [Vals.ref1 r1]
  obtain ⟨td, rfl⟩ := Vals.int1 r2
  have hi := rv.ints
  have hlen := hi.length
  have hval : ∀ (i : Nat) (v : Value), its[i]? = some v → ∃ t, v = Value.int (ns.getD i 0) t := fun i v e => hi.int_at i v e
  refine min_list_d (I.ok.hd hc) hl.isList (fun i j => decide (ns.getD i 0 < ns.getD j 0)) (fun i j vi vj s' Q' E' _ hi hj hq => CmpOf.ints_lt (P := fun i v => its[i]? = some v) (fun i => ns.getD i 0) hval i j vi vj s' Q' E' hi hj hq) _ (fun e h' tk hk => ?_) fun v h' tk hv hk => ?_
  · have : ns = [] := List.length_eq_zero_iff.mp (by rw [← hlen, e]; rfl)
    exact ⟨.int _, H, I.kept hk, ⟨_, rfl⟩, q0 this⟩
  · obtain ⟨t, rfl⟩ := hval _ _ hv
    obtain ⟨h1, h2⟩ := argBest_lt (fun i => ns.getD i 0) (its.length - 1)
    obtain ⟨hb, _⟩ := List.getElem?_eq_some_iff.mp hv
    refine ⟨.int _, H, I.kept hk, ⟨_, rfl⟩, q1 _ (PySem.getD_mem (by rw [← hlen]; exact hb)) fun y hy => ?_⟩
    obtain ⟨j, hj, rfl⟩ := mem_getD hy
    exact h2 j (by omega)
theorem two_of {h h' : Heap} {a : Addr} {its : List Value} {z : Int × Int} (hl : PlainL h a its.toArray) (rv : Vals [V.int z.1, V.int z.2] its) (kp : Keeps h h') : Two h' a z := by
  obtain ⟨t, u, rfl⟩ := Vals.int2 rv
  obtain ⟨⟨cls, dd, data, sl⟩, n, ho, hc, hd, hs⟩ := hl
  simp only at hc hd hs
  subst hc hd hs
  exact ⟨_, _, _, t, u, kp _ _ ho⟩
theorem cr_minL (hc : X.calm = true) (hu : X.A.units + 1 < cLine) (pins : List (Addr × Obj)) (s : Shared) (σ : L2.St) (H : Hp) (vs zs : List V) (us ws : List Value) (Q : VK) (I : Inv X pins σ H s) (r1 : Vals vs us) (r2 : Vals zs ws) (h : rMinL X.K vs zs H Q) :
    wpAny (model X.prog X.w) X.A (call (.builtin "min") us ([Str.ofString "default"].zip ws)) (EP X pins σ Q) X.xe s := by
  obtain ⟨a, dd, as, ps, rfl, rfl, hs, lenA, hp, q0, q1⟩ := h
  obtain ⟨its, rv, hl, _⟩ := I.list hs
  rw [Vals.ref1 r1, Vals.ref1 r2]
  have hlen : as.length = its.length := by have := rv.length; rw [List.length_map] at this; exact this
  have hval : ∀ (i : Nat) (v : Value), its[i]? = some v → ∃ x, v = .ref x ∧ as[i]? = some x ∧ ps[i]? = some (ps.getD i (0, 0)) := fun i v e => by
    obtain ⟨hb, _⟩ := List.getElem?_eq_some_iff.mp e
    obtain ⟨x, hx⟩ : ∃ x, as[i]? = some x := ⟨_, List.getElem?_eq_getElem (by omega)⟩
    obtain ⟨u, hu, r⟩ := Vals.get rv (show (as.map V.ref)[i]? = some (.ref x) by rw [List.getElem?_map, hx]; rfl)
    rw [e] at hu
    cases hu
    cases r
    obtain ⟨p, hp⟩ : ∃ p, ps[i]? = some p := ⟨_, List.getElem?_eq_getElem (by omega)⟩
    exact ⟨x, rfl, hx, by rw [List.getD_eq_getElem?_getD, hp]; rfl⟩
  have hcmp : ∀ i j vi vj (s' : Shared) (Q' : Value → Shared → Prop) (E' : Value → Shared → Prop), (∀ b o, s.heap.get? b = some o → s'.heap.get? b = some o) → its[i]? = some vi → its[j]? = some vj → Q' (.bool (decide (ltP (ps.getD i (0, 0)) (ps.getD j (0, 0))))) s' → wpAny (model X.prog X.w) X.A.in1 (richCompare .Lt vi vj) Q' E' s' := by
    intro i j vi vj s' Q' E' hx hi hj hq
    obtain ⟨x, rfl, ex, epx⟩ := hval i vi hi
    obtain ⟨y, rfl, ey, epy⟩ := hval j vj hj
    obtain ⟨is1, rv1, hl1, _⟩ := I.list (SqL.of (hp i x _ ex epx))
    obtain ⟨is2, rv2, hl2, _⟩ := I.list (SqL.of (hp j y _ ey epy))
    exact lt_two (two_of hl1 rv1 hx) (two_of hl2 rv2 hx) hu hq
  refine min_list_d (I.ok.hd hc) hl.isList (fun i j => decide (ltP (ps.getD i (0, 0)) (ps.getD j (0, 0)))) hcmp _ (fun e h' tk hk => ?_) fun v h' tk hv hk => ?_
  · have : as = [] := List.length_eq_zero_iff.mp (by rw [hlen, e]; rfl)
    exact ⟨.ref _, H, I.kept hk, rfl, q0 this⟩
  · obtain ⟨x, rfl, ex, epx⟩ := hval _ _ hv
    obtain ⟨h1, h2⟩ := argBest_ltP (fun i => ps.getD i (0, 0)) (its.length - 1)
    refine ⟨.ref _, H, I.kept hk, rfl, q1 _ x _ ex epx fun j q hj => ?_⟩
    have hjl : j < ps.length := (List.getElem?_eq_some_iff.mp hj).1
    have := h2 j (by omega)
    have eq : ps.getD j (0, 0) = q := by rw [List.getD_eq_getElem?_getD, hj]; rfl
    rw [eq] at this
    exact this
theorem pe_minD (hcm : X.calm = true) (hg : Gl X "min") (hm : X.mg "min" = none) (ha : PA X [e] t) (hk : PK X [⟨some (Str.ofString "default"), d, kp⟩] tk)
    (he : backTo pos (starEach [e] X.env) = (false, eval e X.env) :: backTo pos (starEach [] X.env) := by rfl) (hpl : (backTo pos (starEach [e] X.env)).any (·.1) = false := by rfl) :
    PE X (.Call (.Name "min" p) [e] [⟨some (Str.ofString "default"), d, kp⟩] pos) (tMinD (rMinD X.K) t tk) := pe_min_kw hg hm ha hk (cr_minD hcm) he hpl
theorem pe_minL (hcm : X.calm = true) (hu : X.A.units + 1 < cLine) (hg : Gl X "min") (hm : X.mg "min" = none) (ha : PA X [e] t) (hk : PK X [⟨some (Str.ofString "default"), d, kp⟩] tk)
    (he : backTo pos (starEach [e] X.env) = (false, eval e X.env) :: backTo pos (starEach [] X.env) := by rfl) (hpl : (backTo pos (starEach [e] X.env)).any (·.1) = false := by rfl) :
    PE X (.Call (.Name "min" p) [e] [⟨some (Str.ofString "default"), d, kp⟩] pos) (tMinD (rMinL X.K) t tk) := pe_min_kw hg hm ha hk (cr_minL hcm hu) he hpl
theorem ix_listK {K : PySem.W.Frag} (hK : X.K = K) : IxR X (rIxL K) := by
  subst hK
  exact ix_list
theorem call_len_seqK {K : PySem.W.Frag} (hK : X.K = K) : CallR X (.builtin "len") (fun xs H Q => ∃ p ys, xs = [.ref p] ∧ (SqL K H p ys ∨ SqT K H p ys) ∧ Q (.int ys.length) H) := by
  subst hK
  exact call_len_seq
theorem ix_tupK {K : PySem.W.Frag} (hK : X.K = K) : IxR X (rIxT K) := by
  subst hK
  exact ix_tup
theorem cr_sumK {K : PySem.W.Frag} (hK : X.K = K) (hc : X.calm = true) : CallR X (.builtin "sum") (rSum K) := by
  subst hK
  exact cr_sum hc
theorem cr_minK {K : PySem.W.Frag} (hK : X.K = K) (hc : X.calm = true) : CallR X (.builtin "min") (rMin K) := by
  subst hK
  exact cr_min hc
theorem cr_sortedK {K : PySem.W.Frag} (hK : X.K = K) : CallR X (.builtin "sorted") (rSorted K) := by
  subst hK
  exact cr_sorted
theorem cr_sortedAK {K : PySem.W.Frag} (hK : X.K = K) : CallR X (.builtin "sorted") (rSortedA K) := by
  subst hK
  exact cr_sortedA
theorem call_list_ofK {K : PySem.W.Frag} (hK : X.K = K) : CallR X (.type "list") (fun xs H Q => ∃ p ys, xs = [.ref p] ∧ (SqL K H p ys ∨ SqT K H p ys) ∧ ∀ l, H l = none → Q (.ref l) (upd H l (.lst ys))) := by
  subst hK
  exact call_list_of
theorem pi_listK {K : PySem.W.Frag} {l tg : Expr} {tl : TE} (hK : X.K = K) (hl : PE X l tl) : PI X tg l (iList K tl) := by
  subst hK
  exact pi_list hl
theorem pi_enumK {K : PySem.W.Frag} {e : Expr} {ta : TA} {p pos tpos : Pos} {elts : List Expr} {kk : Nat} (hK : X.K = K) (hg : Gl X "enumerate") (hm : X.mg "enumerate" = none) (ha : PA X [e] ta) (hs : starEach [e] X.env = [(false, eval e X.env)] := by rfl) :
    PI X (.Tuple elts kk tpos) (.Call (.Name "enumerate" p) [e] [] pos) (iEnum K ta) := by
  subst hK
  exact pi_enum hg hm ha hs
theorem ps_fldK {K : PySem.W.Frag} {o value : Expr} {f : Str} {pos pos' : Pos} {ta tv : TE} (hK : X.K = K) (ha : PE X o ta) (hv : PE X value tv) (hs : swapsWith value (some (.Attribute o f pos')) pos.line X.env = pure false) :
    PS X (.Assign [.Attribute o f pos'] value pos) (sFld K ta tv f) := by
  subst hK
  exact ps_fld ha hv hs
theorem ps_fldaugK {K : PySem.W.Frag} {op : Operator} {rd : V → V → Hp → VK → Prop} {o value : Expr} {f : Str} {pos tpos : Pos} {ta tv : TE} (hK : X.K = K) (ha : PE X o ta) (hv : PE X value tv) (hop : InOp X op rd) :
    PS X (.AugAssign (.Attribute o f tpos) op value pos) (sFldAug K ta tv rd f) := by
  subst hK
  exact ps_fldaug ha hv hop
theorem op_in_seqK {K : PySem.W.Frag} (hK : X.K = K) : OpR X (compareOp .In) (rIn K false) := by
  subst hK
  exact op_in_seq
theorem op_notIn_seqK {K : PySem.W.Frag} (hK : X.K = K) : OpR X (compareOp .NotIn) (rIn K true) := by
  subst hK
  exact op_notIn_seq
theorem sl_listK {K : PySem.W.Frag} (hK : X.K = K) : SlR X (rSlL K) := by
  subst hK
  exact sl_list
theorem pe_bmK {K : PySem.W.Frag} {o e : Expr} {es : List Expr} {to : TE} {t : TA} {name : Str} {apos cpos : Pos} {T id : String} {r : V → List V → Hp → VK → Prop} (hK : X.K = K) (pa : PlainAttrs T) (slot : Slot T name id) (hty : typeOf (.builtin id) = pure (.type "method_descriptor")) (hm : MtR X id r) (ho : PE X o to) (ha : PA X (e :: es) t)
    (hbase : attributeBase o name X.env (eval o X.env) = eval o X.env := by rfl)
    (hfew : ((backTo cpos (starEach (e :: es) X.env)).all (fun x => !x.1) && (backToKw cpos (keywordEach [] X.env)).all (fun x => x.1.isSome)
      && decide ((e :: es).length + ([] : List Keyword).length + (if ([] : List Keyword).isEmpty then 0 else 1) < 30)) = true := by rfl)
    (hline : (apos.endLine == cpos.line) = true := by rfl) (hs : starEach (e :: es) X.env = (false, eval e X.env) :: starEach es X.env := by rfl) (hplain : (backTo cpos (starEach es X.env)).any (·.1) = false := by rfl) :
    PE X (.Call (.Attribute o name apos) (e :: es) [] cpos) (tBM K T r to t) := by
  subst hK
  exact pe_bm pa slot hty hm ho ha hbase hfew hline hs hplain
theorem pe_minDK {K : PySem.W.Frag} (hK : X.K = K) (hcm : X.calm = true) (hg : Gl X "min") (hm : X.mg "min" = none) (ha : PA X [e] t) (hk : PK X [⟨some (Str.ofString "default"), d, kp⟩] tk)
    (he : backTo pos (starEach [e] X.env) = (false, eval e X.env) :: backTo pos (starEach [] X.env) := by rfl) (hpl : (backTo pos (starEach [e] X.env)).any (·.1) = false := by rfl) :
    PE X (.Call (.Name "min" p) [e] [⟨some (Str.ofString "default"), d, kp⟩] pos) (tMinD (rMinD K) t tk) := by
  subst hK
  exact pe_minD hcm hg hm ha hk he hpl
theorem pe_minLK {K : PySem.W.Frag} (hK : X.K = K) (hcm : X.calm = true) (hu : X.A.units + 1 < cLine) (hg : Gl X "min") (hm : X.mg "min" = none) (ha : PA X [e] t) (hk : PK X [⟨some (Str.ofString "default"), d, kp⟩] tk)
    (he : backTo pos (starEach [e] X.env) = (false, eval e X.env) :: backTo pos (starEach [] X.env) := by rfl) (hpl : (backTo pos (starEach [e] X.env)).any (·.1) = false := by rfl) :
    PE X (.Call (.Name "min" p) [e] [⟨some (Str.ofString "default"), d, kp⟩] pos) (tMinD (rMinL K) t tk) := by
  subst hK
  exact pe_minL hcm hu hg hm ha hk he hpl
end
end LS

namespace LS
open PySem PySem.Spec PyProof.Rows L2
open Kp240 (Bobbin Machine)

/-! ### the text by places -/
def FunIs (K : PySem.W.Frag) (mg : Str → Option Value) (x : Str) (st : Stmt) : Prop := ∃ f fd, mg x = some (.ref f) ∧ Fun K x x st f fd
def MethIs (K : PySem.W.Frag) (C : Addr) (m qual : Str) (st : Stmt) : Prop := ∃ f fd, Meth K C m f ∧ Fun K m qual st f fd
section
variable {P : Program} {w : World} {K : PySem.W.Frag} {mg : Str → Option Value} {base : Heap}
theorem cal_mk {x : Str} {st : Stmt} {N ps : List Str} {k : Nat} {sp : Sp} (F : FunIs K mg x st) (S : FnScope N ps (defScope st))
    (hb : ∀ (kV doc pm : Value) (an : Option Addr) (cdv ct : Value) (us : List Value), us.length = ps.length → bindArgs (PySem.W.fnOf x x (defArgs st) (defBody st) (defScope st) .none kV doc pm an cdv ct) ⟨us, []⟩ = pure (ps.zip us))
    (len : ∀ vs H Q E, sp vs H Q E → vs.length = ps.length)
    (hbody : ∀ (f : Addr) (cdv : Value) (A : Around) (outer : List Env) (s : Shared) (H : Hp) (vs : List V) (Q : VK) (E : XK), Room k (A.deeper (envOfC x (defScope st) s.heap.objs.size f cdv)) → sp vs H Q E →
      ∃ t, PSs (cxOf CX0 P w K mg base N x (defScope st) f cdv A outer s H E).nox (defBody st) t ∧ t { nx := fun _ H' => Q .non H', rt := Q } (start N vs) H) : Cal P w K mg base (k + 1) x ps sp := by
  obtain ⟨f, fd, h, F⟩ := F
  exact ⟨f, fd, F.ok S len fun cdv A outer s H vs Q E => hbody f cdv A outer s H vs Q E, h, F.kp, F.binds hb⟩
theorem mth_mk {C : Addr} {m qual : Str} {st : Stmt} {N ps : List Str} {k : Nat} {sp : Sp} (F : MethIs K C m qual st) (c : Cls K C) (S : FnScope N ps (defScope st))
    (hb : ∀ (kV doc pm : Value) (an : Option Addr) (cdv ct : Value) (us : List Value), us.length = ps.length → bindArgs (PySem.W.fnOf m qual (defArgs st) (defBody st) (defScope st) .none kV doc pm an cdv ct) ⟨us, []⟩ = pure (ps.zip us))
    (len : ∀ vs H Q E, sp vs H Q E → vs.length = ps.length)
    (hbody : ∀ (f : Addr) (cdv : Value) (A : Around) (outer : List Env) (s : Shared) (H : Hp) (vs : List V) (Q : VK) (E : XK), Room k (A.deeper (envOfC qual (defScope st) s.heap.objs.size f cdv)) → sp vs H Q E →
      ∃ t, PSs (cxOf CX0 P w K mg base N qual (defScope st) f cdv A outer s H E).nox (defBody st) t ∧ t { nx := fun _ H' => Q .non H', rt := Q } (start N vs) H) : Mth P w K mg base (k + 1) C m ps sp := by
  obtain ⟨f, fd, h, F⟩ := F
  exact ⟨f, fd, F.ok S len fun cdv A outer s H vs Q E => hbody f cdv A outer s H vs Q E, h, c, F.binds hb⟩
theorem mkc_mk {C : Addr} {x qual : Str} {st : Stmt} {N ps : List Str} {k : Nat} {sp : Sp} (F : MethIs K C "__init__" qual st) (M : PySem.W.makesIn K C = true) (kp : PySem.W.keepIn K (.ref C) = true) (hx : mg x = some (.ref C)) (S : FnScope N ps (defScope st))
    (hb : ∀ (kV doc pm : Value) (an : Option Addr) (cdv ct : Value) (us : List Value), us.length = ps.length → bindArgs (PySem.W.fnOf "__init__" qual (defArgs st) (defBody st) (defScope st) .none kV doc pm an cdv ct) ⟨us, []⟩ = pure (ps.zip us))
    (len : ∀ vs H Q E, sp vs H Q E → vs.length = ps.length)
    (hbody : ∀ (f : Addr) (cdv : Value) (A : Around) (outer : List Env) (s : Shared) (H : Hp) (vs : List V) (Q : VK) (E : XK), Room k (A.deeper (envOfC qual (defScope st) s.heap.objs.size f cdv)) → sp vs H Q E →
      ∃ t, PSs (cxOf CX0 P w K mg base N qual (defScope st) f cdv A outer s H E).nox (defBody st) t ∧ t { nx := fun _ H' => Q .non H', rt := Q } (start N vs) H) : Mkc P w K mg base (k + 1) C x ps sp := by
  obtain ⟨f, fd, h, F⟩ := F
  exact ⟨f, fd, F.ok S len fun cdv A outer s H vs Q E => hbody f cdv A outer s H vs Q E, ⟨M, h.at_, h.fn, kp⟩, hx, F.binds hb⟩
end

/-! ### heaps -/
abbrev vi (n : Nat) : V := V.int (n : Int)
abbrev vl (l : List Nat) : List V := l.map vi
/-- a tracked list of numbers -/
def LN (H : Hp) (a : Addr) (l : List Nat) : Prop := H a = some (.lst (vl l))
theorem _root_.L2.Same.rfl' {H : Hp} : Same H H := fun _ _ h => h
theorem _root_.L2.Same.new {H : Hp} {p : Addr} {o : HO} (h : H p = none) : Same H (upd H p o) := fun b u e => by rw [upd_ne (ne_of_none e h)]; exact e
theorem _root_.L2.Same.add {H H' : Hp} {p : Addr} {o : HO} (s : Same H H') (h : H' p = none) : Same H (upd H' p o) := s.trans (Same.new h)
/-- what is new to H is written -/
theorem _root_.L2.Same.put {H H' : Hp} {p : Addr} {o : HO} (s : Same H H') (h : H p = none) : Same H (upd H' p o) := fun b u e => by rw [upd_ne (ne_of_none e h)]; exact s b u e
theorem LN.mono {H H' : Hp} {a : Addr} {l : List Nat} (h : LN H a l) (s : Same H H') : LN H' a l := s _ _ h
theorem LN.sq {K : PySem.W.Frag} {H : Hp} {a : Addr} {l : List Nat} (h : LN H a l) : SqL K H a (vl l) := SqL.of h
theorem vl_get {l : List Nat} {i : Nat} {x : V} (h : (vl l)[i]? = some x) : ∃ n, l[i]? = some n ∧ x = vi n := by
  rw [List.getElem?_map] at h
  cases e : l[i]? with
  | none => rw [e] at h; cases h
  | some n => rw [e] at h; exact ⟨n, rfl, (Option.some.inj h).symm⟩
theorem take_snoc {α : Type} : ∀ {l : List α} {i : Nat} {x : α}, l[i]? = some x → l.take (i + 1) = l.take i ++ [x]
  | [], i, x, h => by simp at h
  | a :: l, 0, x, h => by
    have e : a = x := Option.some.inj h
    subst e
    rfl
  | a :: l, i + 1, x, h => by
    have ih := take_snoc (l := l) (i := i) (x := x) h
    show a :: l.take (i + 1) = a :: l.take i ++ [x]
    rw [ih]
    rfl
theorem line1 {n : Nat} (h : n ≤ 1000000) : n ≤ sizeLine := Nat.le_trans h (by decide)
theorem line2 {n : Nat} (h : n < 1000000) : n < sizeLine := Nat.lt_of_lt_of_le h (by decide)

/-! ### a bobbin -/
def bobF (lay left : Nat) (j : Addr) : List (Str × V) := [("lay", vi lay), ("left", vi left), ("joints", .ref j)]
theorem bob_lay {a b : Nat} {j : Addr} : (bobF a b j).lookup ("lay" : Str) = some (vi a) := rfl
theorem bob_left {a b : Nat} {j : Addr} : (bobF a b j).lookup ("left" : Str) = some (vi b) := rfl
theorem bob_joints {a b : Nat} {j : Addr} : (bobF a b j).lookup ("joints" : Str) = some (.ref j) := rfl
theorem bob_put_left {a b : Nat} {j : Addr} {v : Nat} : putF "left" (vi v) (bobF a b j) = bobF a v j := rfl
theorem bob_put_joints {a b : Nat} {j j' : Addr} : putF "joints" (.ref j') (bobF a b j) = bobF a b j' := rfl
/-- a bobbin stands at a, its joints' list at j -/
structure BobAt (CB : Addr) (H : Hp) (a : Addr) (x : Bobbin) (j : Addr) : Prop where
  ins : ∃ dx, H a = some (.ins CB dx (bobF x.lay x.left j))
  lst : LN H j x.joints
/-- what holds of a bobbin -/
structure BobOk (x : Bobbin) : Prop where
  lo : 1000 ≤ x.lay
  hi : x.lay ≤ 2000
  left : x.left ≤ 100000
  few : x.joints.length ≤ 4
  up : x.joints.Pairwise (· < ·)
  below : ∀ j ∈ x.joints, j < x.left
theorem BobAt.mono {CB : Addr} {H H' : Hp} {a j : Addr} {x : Bobbin} (B : BobAt CB H a x j) (s : Same H H') : BobAt CB H' a x j := ⟨let ⟨d, h⟩ := B.ins; ⟨d, s _ _ h⟩, B.lst.mono s⟩

/-- what the text has -/
structure TxtB (K : PySem.W.Frag) (mg : Str → Option Value) (CB : Addr) : Prop where
  cB : Cls K CB
  n_lay : NoAttr K CB "lay"
  n_left : NoAttr K CB "left"
  n_joints : NoAttr K CB "joints"
  g_METRE : ∃ t, mg "METRE" = some (.int 1000 t)
  b_sorted : mg "sorted" = none

section
variable {P : Program} {w : World} {K : PySem.W.Frag} {mg : Str → Option Value} {base : Heap} {CB : Addr}

abbrev sPlace : Stmt := inClass (top 2) 1
theorem scPlace : FnScope ["self", "laid", "at"] ["self", "laid", "at"] (defScope sPlace) := ⟨rfl, rfl, rfl, by decide +kernel, rfl, by decide +kernel, by decide +kernel⟩
inductive spPlace (CB : Addr) (vs : List V) (H : Hp) (Q : VK) (_E : XK) : Prop
  | mk (a j : Addr) (x : Bobbin) (laid at_ : Nat) (z : Int) (_ : vs = [.ref a, vi laid, .int z]) (_ : z = (at_ : Int)) (_ : BobAt CB H a x j) (_ : BobOk x) (_ : Q (vi (laid + Kp240.strandOf x at_)) H) : spPlace CB vs H Q _E
theorem place_eq (laid at_ lay : Nat) : ((laid : Int) + (at_ : Int) * 1000 / (lay : Int)) = ((laid + at_ * 1000 / lay : Nat) : Int) := by
  simp
theorem ok_place (F : MethIs K CB "place" "Bobbin.place" sPlace) (T : TxtB K mg CB) : Mth P w K mg base 1 CB "place" ["self", "laid", "at"] (spPlace CB) := by
  refine mth_mk F T.cB scPlace (fun _ _ _ _ _ _ us hl => match us, hl with | [_, _, _], _ => rfl) (fun vs H Q E h => ?_) (fun f cdv A outer s H vs Q E hr h => ?_)
  · obtain ⟨a, j, x, laid, at_, z, rfl, _⟩ := h
    rfl
  · obtain ⟨a, j, x, laid, at_, z, rfl, rfl, B, ok, k⟩ := h
    have nd := scPlace.nd
    obtain ⟨dx, hH⟩ := B.ins
    refine ⟨_, (pss_one (ps_ret (pe_op op_add (pv 1) (pe_op op_fdiv (pe_op op_mul (pv 2) (pgi T.g_METRE)) (pe_fldK (K := K) rfl (pv 0) rfl))))), ?_⟩
    refine ⟨_, rfl, _, rfl, _, _, rfl, rfl, .inr ⟨by decide, by decide⟩, _, rfl, a, CB, dx, _, _, rfl, hH, T.cB, T.n_lay, bob_lay, _, _, rfl, rfl, ⟨?_, ?_⟩, _, _, rfl, rfl, ?_⟩
    · have := ok.lo; omega
    · have := ok.hi; omega
    · have e := place_eq laid at_ x.lay
      show Q (V.int _) H
      rw [e]
      exact k

abbrev sPlacesBehind : Stmt := inClass (top 2) 2
theorem scPlacesBehind : FnScope ["self", "laid", "metres", "at"] ["self", "laid", "metres"] (defScope sPlacesBehind) := ⟨rfl, rfl, rfl, by decide +kernel, rfl, by decide +kernel, by decide +kernel⟩
/-- the places of the joints that remain behind a cut -/
def placesCut (x : Bobbin) (laid n : Nat) : List Nat := (x.joints.filter fun j => decide (n ≤ j)).map fun j => laid + Kp240.strandOf x (j - n)
inductive spPlacesBehind (CB : Addr) (vs : List V) (H : Hp) (Q : VK) (_E : XK) : Prop
  | mk (a j : Addr) (x : Bobbin) (laid n : Nat) (_ : vs = [.ref a, vi laid, vi n]) (_ : BobAt CB H a x j) (_ : BobOk x) (_ : ∀ (H' : Hp) (r : Addr), Same H H' → H r = none → LN H' r (placesCut x laid n) → Q (.ref r) H') : spPlacesBehind CB vs H Q _E
theorem ok_places_behind (F : MethIs K CB "places_behind" "Bobbin.places_behind" sPlacesBehind) (T : TxtB K mg CB) (G_place : Mth P w K mg base 1 CB "place" ["self", "laid", "at"] (spPlace CB)) :
    Mth P w K mg base 2 CB "places_behind" ["self", "laid", "metres"] (spPlacesBehind CB) := by
  refine mth_mk F T.cB scPlacesBehind (fun _ _ _ _ _ _ us hl => match us, hl with | [_, _, _], _ => rfl) (fun vs H Q E h => ?_) (fun f cdv A outer s H vs Q E hr h => ?_)
  · obtain ⟨a, j, x, laid, at_, rfl, _⟩ := h
    rfl
  · obtain ⟨a, j, x, laid, n, rfl, B, ok, k⟩ := h
    have nd := scPlacesBehind.nd
    obtain ⟨dx, hH⟩ := B.ins
    refine ⟨_, (pss_one (ps_ret (pe_lc rfl nd (pi_listK (K := K) rfl (pe_fldK (K := K) rfl (pv 0) rfl)) (blkOk_by (own := [("at", 3)]) (by rfl)) (fun _ _ _ _ _ => (pg_name (i := 3) nd rfl (Or.inl rfl))) (fun _ _ _ _ _ => (pts_one (pt_cmpR op_ge (pv 3) (pv 2) (nomark _)))) (fun _ _ _ _ _ => (pmeth G_place hr (pv 0) (pa_cons (pv 1) (pa_cons (pe_op op_sub (pv 3) (pv 2)) pa_nil))))))), ?_⟩
    refine ⟨_, rfl, a, CB, dx, _, _, rfl, hH, T.cB, T.n_joints, bob_joints, j, rfl, ⟨_, B.lst.sq⟩, fun D hD => ?_⟩
    refine lc_list (K := K) (a := j) (xs := vl x.joints) (Qd := fun H' => Q (.ref D) H') (fun i H' => Same H H' ∧ H' D = some (.lst (vl (((x.joints.take i).filter fun j => decide (n ≤ j)).map fun j => laid + Kp240.strandOf x (j - n)))))
      ⟨Same.new hD, upd_same⟩ (fun i H' _ p => (B.lst.mono p.1).sq) ?_ ?_
    · rintro i y H' hi ⟨s1, hd⟩
      obtain ⟨q, hq, rfl⟩ := vl_get hi
      refine ⟨rfl, _, rfl, _, rfl, _, _, rfl, rfl, _, rfl, ?_⟩
      rw [take_snoc hq, List.filter_append, List.map_append] 
      by_cases hn : n ≤ q
      · have c1 : decide ((n : Int) ≤ (q : Int)) = true := decide_eq_true (by omega)
        rw [c1]
        refine iteT ?_
        refine ⟨_, rfl, a, dx, _, rfl, s1 _ _ hH, rfl, _, rfl, _, rfl, _, rfl, _, _, rfl, rfl, ?_⟩
        refine ⟨a, j, x, laid, q - n, _, rfl, by omega, B.mono s1, ok, _, hd, ?_, s1.put hD, ?_⟩
        · rw [List.length_map]
          exact line2 (Nat.lt_of_le_of_lt (by rw [List.length_map]; exact Nat.le_trans (List.length_filter_le _ _) (Nat.le_trans (List.length_take_le' _ _) ok.few)) (by decide))
        · rw [upd_same]
          have c3 : decide (n ≤ q) = true := decide_eq_true hn
          simp [c3]
      · have c1 : decide ((n : Int) ≤ (q : Int)) = false := decide_eq_false (by omega)
        rw [c1]
        refine iteF ⟨s1, ?_⟩
        have c3 : decide (n ≤ q) = false := decide_eq_false hn
        simp [c3, hd]
    · rintro H' ⟨s1, hd⟩
      refine k H' D s1 hD ?_
      rw [List.length_map, List.take_length] at hd
      exact hd
end
end LS

namespace LS
open PySem PySem.Spec PyProof.Rows L2
open Kp240 (Bobbin Machine)

/-! ### sorted lists of numbers -/
/-- two rising lists with the same members are one -/
theorem sorted_same : ∀ {l r : List Int}, l.Perm r → l.Pairwise (· ≤ ·) → r.Pairwise (· ≤ ·) → l = r
  | [], r, p, _, _ => (List.Perm.nil_eq p)
  | a :: l, [], p, _, _ => by have := p.length_eq; simp at this
  | a :: l, b :: r, p, hl, hr => by
    have hl' := List.pairwise_cons.mp hl
    have hr' := List.pairwise_cons.mp hr
    have e : a = b := by
      have h1 : a ∈ b :: r := p.mem_iff.mp (by simp)
      have h2 : b ∈ a :: l := p.mem_iff.mpr (by simp)
      rcases List.mem_cons.mp h1 with h1 | h1
      · exact h1
      · rcases List.mem_cons.mp h2 with h2 | h2
        · exact h2.symm
        · exact Int.le_antisymm (hl'.1 _ h2) (hr'.1 _ h1)
    subst e
    rw [sorted_same (List.Perm.cons_inv p) hl'.2 hr'.2]
def zs (l : List Nat) : List Int := l.map Int.ofNat
theorem vl_zs (l : List Nat) : vl l = (zs l).map V.int := by
  show l.map vi = (l.map Int.ofNat).map V.int
  rw [List.map_map]
  all_goals rfl
theorem zs_pair {l : List Nat} (h : l.Pairwise (· ≤ ·)) : (zs l).Pairwise (· ≤ ·) := by
  unfold zs
  rw [List.pairwise_map]
  exact h.imp fun h => Int.ofNat_le.mpr h
/-- where a place is put among the others -/
def put (l : List Nat) (a : Nat) : List Nat := l.filter (fun j => decide (j < a)) ++ [a] ++ l.filter (fun j => decide (a < j))
theorem put_perm : ∀ {l : List Nat} {a : Nat}, a ∉ l → (put l a).Perm (l ++ [a])
  | [], a, _ => by simp [put]
  | b :: l, a, h => by
    have hb : a ≠ b := fun e => h (by simp [e])
    have hl : a ∉ l := fun e => h (by simp [e])
    have ih := put_perm (l := l) (a := a) hl
    unfold put at ih ⊢
    by_cases c : b < a
    · have c2 : ¬ a < b := by omega
      simp only [List.filter_cons, c, c2, decide_true, decide_false, if_true, List.cons_append]
      simp only [Bool.false_eq_true, if_false]
      simp only [List.append_assoc, List.cons_append] at ih ⊢
      exact ih.cons b
    · have c2 : a < b := by omega
      simp only [List.filter_cons, c, c2, decide_true, decide_false, if_true]
      simp only [Bool.false_eq_true, if_false]
      refine List.Perm.trans ?_ (ih.cons b)
      simp only [List.append_assoc, List.cons_append, List.nil_append]
      refine List.Perm.trans ?_ (List.perm_middle (l₁ := l.filter fun j => decide (j < a)) (l₂ := a :: l.filter fun j => decide (a < j)) (a := b))
      exact List.Perm.append_left _ (List.Perm.swap _ _ _)
theorem put_up {l : List Nat} {a : Nat} (h : l.Pairwise (· < ·)) : (put l a).Pairwise (· < ·) := by
  unfold put
  rw [List.pairwise_append, List.pairwise_append]
  refine ⟨⟨h.filter _, by simp, fun x hx y hy => ?_⟩, h.filter _, fun x hx y hy => ?_⟩
  · simp at hx hy
    omega
  · simp at hx hy
    omega
theorem le_of_lt_pair {l : List Nat} (h : l.Pairwise (· < ·)) : l.Pairwise (· ≤ ·) := h.imp fun h => Nat.le_of_lt h
theorem put_len {l : List Nat} {a : Nat} (h : a ∉ l) : (put l a).length = l.length + 1 := by
  rw [(put_perm h).length_eq, List.length_append]
  rfl

section
variable {P : Program} {w : World} {K : PySem.W.Frag} {mg : Str → Option Value} {base : Heap} {CB : Addr}

abbrev sBInit : Stmt := inClass (top 2) 0
theorem scBInit : FnScope ["self", "lay", "left"] ["self", "lay", "left"] (defScope sBInit) := ⟨rfl, rfl, rfl, by decide +kernel, rfl, by decide +kernel, by decide +kernel⟩
inductive spBInit (CB : Addr) (vs : List V) (H : Hp) (Q : VK) (_E : XK) : Prop
  | mk (p dx : Addr) (lay left : Nat) (_ : vs = [.ref p, vi lay, vi left]) (_ : H p = some (.ins CB dx [])) (_ : ∀ (H' : Hp) (j : Addr), BobAt CB H' p ⟨lay, left, []⟩ j → H j = none → (∀ b o, H b = some o → b ≠ p → H' b = some o) → Q .non H') : spBInit CB vs H Q _E
theorem ok_binit {mgC : mg "Bobbin" = some (.ref CB)} (F : MethIs K CB "__init__" "Bobbin.__init__" sBInit) (M : PySem.W.makesIn K CB = true) (kp : PySem.W.keepIn K (.ref CB) = true) (T : TxtB K mg CB) : Mkc P w K mg base 1 CB "Bobbin" ["self", "lay", "left"] (spBInit CB) := by
  refine mkc_mk F M kp mgC scBInit (fun _ _ _ _ _ _ us hl => match us, hl with | [_, _, _], _ => rfl) (fun vs H Q E h => ?_) (fun f cdv A outer s H vs Q E hr h => ?_)
  · obtain ⟨a, j, x, laid, rfl, _⟩ := h
    rfl
  · obtain ⟨p, dx, lay, left, rfl, hp, k⟩ := h
    have nd := scBInit.nd
    refine ⟨_, (pss_cons (ps_fldK (K := K) rfl (pv 0) (pv 1) rfl)
      (pss_cons (ps_fldK (K := K) rfl (pv 0) (pv 2) rfl)
      (pss_one (ps_fldK (K := K) rfl (pv 0) (pe_lst pa_nil) rfl)))), ?_⟩
    refine ⟨_, rfl, _, rfl, p, CB, dx, [], rfl, hp, T.cB, T.n_lay, (by decide), ?_⟩
    refine ⟨_, rfl, _, rfl, p, CB, dx, _, rfl, upd_same, T.cB, T.n_left, (by show 1 < 1000; decide), ?_⟩
    refine ⟨Nat.zero_le _, fun j hj => ?_⟩
    have njp : p ≠ j := ne_of_none upd_same hj
    refine ⟨_, rfl, p, CB, dx, _, rfl, (by rw [upd_ne njp]; exact upd_same), T.cB, T.n_joints, (by show 2 < 1000; decide), ?_⟩
    have hj0 : H j = none := by
      rw [upd_ne njp.symm, upd_ne njp.symm] at hj
      exact hj
    refine k _ j ⟨⟨dx, upd_same⟩, ?_⟩ hj0 fun b o e hb => ?_
    · show upd _ p _ j = _
      rw [upd_ne njp.symm, upd_same]
      rfl
    · rw [upd_ne hb, upd_ne (ne_of_none e hj0), upd_ne hb, upd_ne hb]
      exact e

abbrev sAddJoint : Stmt := inClass (top 2) 6
theorem scAddJoint : FnScope ["self", "at"] ["self", "at"] (defScope sAddJoint) := ⟨rfl, rfl, rfl, by decide +kernel, rfl, by decide +kernel, by decide +kernel⟩
/-- behind a change of the bobbin at a: its joints' list is a new one -/
def ChB (CB : Addr) (H H' : Hp) (a : Addr) (x' : Bobbin) : Prop := ∃ j', BobAt CB H' a x' j' ∧ H j' = none ∧ ∀ b o, H b = some o → b ≠ a → H' b = some o
inductive spAddJoint (CB : Addr) (vs : List V) (H : Hp) (Q : VK) (_E : XK) : Prop
  | mk (a j : Addr) (x : Bobbin) (at_ : Nat) (_ : vs = [.ref a, vi at_]) (_ : BobAt CB H a x j) (_ : x.joints.Pairwise (· < ·)) (_ : x.joints.length ≤ 4) (_ : at_ ∉ x.joints) (_ : ∀ H' : Hp, ChB CB H H' a { x with joints := put x.joints at_ } → Q .non H') : spAddJoint CB vs H Q _E
theorem ok_add_joint (F : MethIs K CB "add_joint" "Bobbin.add_joint" sAddJoint) (T : TxtB K mg CB) : Mth P w K mg base 1 CB "add_joint" ["self", "at"] (spAddJoint CB) := by
  refine mth_mk F T.cB scAddJoint (fun _ _ _ _ _ _ us hl => match us, hl with | [_, _], _ => rfl) (fun vs H Q E h => ?_) (fun f cdv A outer s H vs Q E hr h => ?_)
  · obtain ⟨a, j, x, at_, rfl, _⟩ := h
    rfl
  · obtain ⟨a, j, x, at_, rfl, B, up, few, new, k⟩ := h
    have nd := scAddJoint.nd
    obtain ⟨dx, hH⟩ := B.ins
    refine ⟨_, (pss_one (ps_fldK (K := K) rfl (pv 0) (pe_callB (cr_sortedK (K := K) rfl) (by rfl) T.b_sorted bo_sorted (pa_cons (pe_op op_cat (pe_fldK (K := K) rfl (pv 0) rfl) (pe_lst (pa_cons (pv 1) pa_nil))) pa_nil)) rfl)), ?_⟩
    refine ⟨_, rfl, a, CB, dx, _, _, rfl, hH, T.cB, T.n_joints, bob_joints, _, rfl, (by show 1 ≤ sizeLine; decide), fun q hq => ?_⟩
    have s1 : Same H (upd H q (.lst [vi at_])) := Same.new hq
    refine ⟨j, q, _, _, rfl, rfl, s1 _ _ B.lst, upd_same, (by rw [List.length_map]; exact line1 (by show x.joints.length + 1 ≤ 1000000; omega)), fun r hr' => ?_⟩
    have s2 : Same H (upd (upd H q (.lst [vi at_])) r (.lst (vl x.joints ++ [vi at_]))) := s1.add hr'
    refine ⟨r, zs (x.joints ++ [at_]), rfl, ?_, ?_, fun ns u hp hs hu => ?_⟩
    · refine SqL.of ?_
      rw [upd_same, ← vl_zs]
      show _ = some (HO.lst ((x.joints ++ [at_]).map vi))
      rw [List.map_append]
      rfl
    · rw [zs, List.length_map, List.length_append]
      show x.joints.length + 1 < 64
      omega
    · have e : ns = zs (put x.joints at_) := by
        refine sorted_same (hp.trans ?_) hs (zs_pair (le_of_lt_pair (put_up up)))
        exact ((put_perm new).map Int.ofNat).symm
      subst e
      have s3 := s2.add (o := .lst ((zs (put x.joints at_)).map V.int)) hu
      refine ⟨_, rfl, a, CB, dx, _, rfl, s3 _ _ hH, T.cB, T.n_joints, (by show 3 < 1000; decide), ?_⟩
      have hau : u ≠ a := fun e => by rw [e] at hu; rw [s2 _ _ hH] at hu; cases hu
      have hun : H u = none := s2.free hu
      refine k _ ⟨u, ⟨⟨dx, upd_same⟩, ?_⟩, hun, fun b o e hb => ?_⟩
      · show upd _ a _ u = _
        rw [upd_ne hau, upd_same, ← vl_zs]
      · rw [upd_ne hb]
        exact s3 _ _ e

abbrev sLengthen : Stmt := inClass (top 2) 7
theorem scLengthen : FnScope ["self", "metres"] ["self", "metres"] (defScope sLengthen) := ⟨rfl, rfl, rfl, by decide +kernel, rfl, by decide +kernel, by decide +kernel⟩
inductive spLengthen (CB : Addr) (vs : List V) (H : Hp) (Q : VK) (_E : XK) : Prop
  | mk (a j : Addr) (x : Bobbin) (n : Nat) (_ : vs = [.ref a, vi n]) (_ : BobAt CB H a x j) (_ : BobOk x) (_ : (x.left ≠ 0 → x.joints.length ≤ 3)) (_ : ∀ (H' : Hp) (j' : Addr), BobAt CB H' a (Kp240.joined x n) j' → (j' = j ∨ H j' = none) → (∀ b o, H b = some o → b ≠ a → H' b = some o) → Q .non H') : spLengthen CB vs H Q _E
theorem ChB.neq {CB : Addr} {H H' : Hp} {a : Addr} {x x' : Bobbin} {j : Addr} (B : BobAt CB H a x j) : a ≠ j := by
  obtain ⟨dx, h⟩ := B.ins
  exact ne_of h B.lst (by intro z; cases z)
theorem put_end {l : List Nat} {a : Nat} (h : ∀ j ∈ l, j < a) : put l a = l ++ [a] := by
  unfold put
  rw [List.filter_eq_self.mpr (fun j hj => decide_eq_true (h j hj)), List.filter_eq_nil_iff.mpr (fun j hj => by have := h j hj; simp; omega), List.append_nil]
theorem ok_lengthen (F : MethIs K CB "lengthen" "Bobbin.lengthen" sLengthen) (T : TxtB K mg CB) (G_add_joint : Mth P w K mg base 1 CB "add_joint" ["self", "at"] (spAddJoint CB)) :
    Mth P w K mg base 2 CB "lengthen" ["self", "metres"] (spLengthen CB) := by
  refine mth_mk F T.cB scLengthen (fun _ _ _ _ _ _ us hl => match us, hl with | [_, _], _ => rfl) (fun vs H Q E h => ?_) (fun f cdv A outer s H vs Q E hr h => ?_)
  · obtain ⟨a, j, x, at_, rfl, _⟩ := h
    rfl
  · obtain ⟨a, j, x, n, rfl, B, ok, few, k⟩ := h
    have nd := scLengthen.nd
    obtain ⟨dx, hH⟩ := B.ins
    refine ⟨_, (pss_cons (ps_if (pt_cmpR op_gt (pe_fldK (K := K) rfl (pv 0) rfl) pe_int (nomark _)) (pss_one (ps_expr (pmeth G_add_joint hr (pv 0) (pa_cons (pe_fldK (K := K) rfl (pv 0) rfl) pa_nil)))) pss_nil)
      (pss_one (ps_fldaugK (K := K) rfl (pv 0) (pv 1) in_add))), ?_⟩
    refine ⟨_, rfl, a, CB, dx, _, _, rfl, hH, T.cB, T.n_left, bob_left, _, _, rfl, rfl, _, rfl, ?_⟩
    by_cases h0 : x.left = 0
    · have c : decide ((0 : Int) < (x.left : Int)) = false := decide_eq_false (by omega)
      show if decide ((0 : Int) < (x.left : Int)) = true then _ else _
      rw [c]
      refine iteF ?_
      refine ⟨_, rfl, a, CB, dx, _, _, rfl, hH, T.cB, T.n_left, bob_left, _, rfl, _, _, rfl, rfl, dx, _, hH, (by show 3 < 1000; decide), ?_⟩
      refine k _ j ⟨⟨dx, ?_⟩, ?_⟩ (.inl rfl) fun b o e hb => by rw [upd_ne hb]; exact e
      · rw [upd_same]
        have e : putF "left" (V.int ((x.left : Int) + (n : Int))) (bobF x.lay x.left j) = bobF x.lay (x.left + n) j := by
          have : ((x.left : Int) + (n : Int)) = ((x.left + n : Nat) : Int) := by omega
          rw [this]
          rfl
        rw [e]
        rfl
      · show upd _ a _ j = _
        have hj := ChB.neq (x' := x) (H' := H) B
        rw [upd_ne hj.symm]
        have : (Kp240.joined x n).joints = x.joints := by unfold Kp240.joined; simp [h0]
        rw [this]
        exact B.lst
    · have c : decide ((0 : Int) < (x.left : Int)) = true := decide_eq_true (by omega)
      show if decide ((0 : Int) < (x.left : Int)) = true then _ else _
      rw [c]
      refine iteT ?_
      have hb := ok.below
      have hnew : x.left ∉ x.joints := fun h => by have := hb _ h; omega
      refine ⟨_, rfl, a, dx, _, rfl, hH, rfl, _, rfl, a, CB, dx, _, _, rfl, hH, T.cB, T.n_left, bob_left, a, j, x, x.left, rfl, B, ok.up, (by have := few h0; omega), hnew, fun H1 ⟨j', B1, hj', fr⟩ => ?_⟩
      obtain ⟨dx1, hH1⟩ := B1.ins
      refine ⟨_, rfl, a, CB, dx1, _, _, rfl, hH1, T.cB, T.n_left, bob_left, _, rfl, _, _, rfl, rfl, dx1, _, hH1, (by show 3 < 1000; decide), ?_⟩
      refine k _ j' ⟨⟨dx1, ?_⟩, ?_⟩ (.inr hj') fun b o e hb => by rw [upd_ne hb]; exact fr b o e hb
      · rw [upd_same]
        have e : putF "left" (V.int ((x.left : Int) + (n : Int))) (bobF x.lay x.left j') = bobF x.lay (x.left + n) j' := by
          have : ((x.left : Int) + (n : Int)) = ((x.left + n : Nat) : Int) := by omega
          rw [this]
          rfl
        show some (HO.ins CB dx1 (putF "left" (V.int ((x.left : Int) + (n : Int))) (bobF x.lay x.left j'))) = _
        rw [e]
        rfl
      · show upd _ a _ j' = _
        have hj := ChB.neq (x' := x) (H' := H) B1
        rw [upd_ne hj.symm]
        have : (Kp240.joined x n).joints = put x.joints x.left := by unfold Kp240.joined; rw [put_end hb]; simp [h0]
        rw [this]
        exact B1.lst

abbrev sShorten : Stmt := inClass (top 2) 8
theorem scShorten : FnScope ["self", "metres", "at"] ["self", "metres"] (defScope sShorten) := ⟨rfl, rfl, rfl, by decide +kernel, rfl, by decide +kernel, by decide +kernel⟩
inductive spShorten (CB : Addr) (vs : List V) (H : Hp) (Q : VK) (_E : XK) : Prop
  | mk (a j : Addr) (x : Bobbin) (n : Nat) (_ : vs = [.ref a, vi n]) (_ : BobAt CB H a x j) (_ : x.joints.length ≤ 1000) (_ : n ≤ x.left) (_ : ∀ H' : Hp, ChB CB H H' a (Kp240.cutOff x n) → Q .non H') : spShorten CB vs H Q _E
theorem ok_shorten (F : MethIs K CB "shorten" "Bobbin.shorten" sShorten) (T : TxtB K mg CB) : Mth P w K mg base 1 CB "shorten" ["self", "metres"] (spShorten CB) := by
  refine mth_mk F T.cB scShorten (fun _ _ _ _ _ _ us hl => match us, hl with | [_, _], _ => rfl) (fun vs H Q E h => ?_) (fun f cdv A outer s H vs Q E hr h => ?_)
  · obtain ⟨a, j, x, at_, rfl, _⟩ := h
    rfl
  · obtain ⟨a, j, x, n, rfl, B, few, hle, k⟩ := h
    have nd := scShorten.nd
    obtain ⟨dx, hH⟩ := B.ins
    refine ⟨_, (pss_cons (ps_fldK (K := K) rfl (pv 0) (pe_lc rfl nd (pi_listK (K := K) rfl (pe_fldK (K := K) rfl (pv 0) rfl)) (blkOk_by (own := [("at", 2)]) (by rfl)) (fun _ _ _ _ _ => (pg_name (i := 2) nd rfl (Or.inl rfl))) (fun _ _ _ _ _ => (pts_one (pt_cmpR op_ge (pv 2) (pv 1) (nomark _)))) (fun _ _ _ _ _ => (pe_op op_sub (pv 2) (pv 1)))) rfl)
      (pss_one (ps_fldaugK (K := K) rfl (pv 0) (pv 1) in_sub))), ?_⟩
    refine ⟨_, rfl, a, CB, dx, _, _, rfl, hH, T.cB, T.n_joints, bob_joints, j, rfl, ⟨_, B.lst.sq⟩, fun D hD => ?_⟩
    refine lc_list (K := K) (a := j) (xs := vl x.joints) (fun i H' => Same H H' ∧ H' D = some (.lst (vl (((x.joints.take i).filter fun j => decide (n ≤ j)).map fun j => j - n))))
      ⟨Same.new hD, upd_same⟩ (fun i H' _ p => (B.lst.mono p.1).sq) ?_ ?_
    · rintro i y H' hi ⟨s1, hd⟩
      obtain ⟨q, hq, rfl⟩ := vl_get hi
      refine ⟨rfl, _, rfl, _, rfl, _, _, rfl, rfl, _, rfl, ?_⟩
      rw [take_snoc hq, List.filter_append, List.map_append]
      by_cases hn : n ≤ q
      · have c1 : decide ((n : Int) ≤ (q : Int)) = true := decide_eq_true (by omega)
        rw [c1]
        refine iteT ?_
        refine ⟨_, rfl, _, rfl, _, _, rfl, rfl, _, hd, ?_, s1.put hD, ?_⟩
        · rw [List.length_map]
          exact line2 (Nat.lt_of_le_of_lt (by rw [List.length_map]; exact Nat.le_trans (List.length_filter_le _ _) (Nat.le_trans (List.length_take_le' _ _) few)) (by decide))
        · rw [upd_same]
          have c3 : decide (n ≤ q) = true := decide_eq_true hn
          have c4 : ((q : Int) - (n : Int)) = ((q - n : Nat) : Int) := by omega
          simp [c3, c4]
      · have c1 : decide ((n : Int) ≤ (q : Int)) = false := decide_eq_false (by omega)
        rw [c1]
        refine iteF ⟨s1, ?_⟩
        have c3 : decide (n ≤ q) = false := decide_eq_false hn
        simp [c3, hd]
    · rintro H1 ⟨s1, hd⟩
      rw [List.length_map, List.take_length] at hd
      refine ⟨_, rfl, a, CB, dx, _, rfl, s1 _ _ hH, T.cB, T.n_joints, (by show 3 < 1000; decide), ?_⟩
      have haD : a ≠ D := ne_of_none hH hD
      refine ⟨_, rfl, a, CB, dx, _, _, rfl, upd_same, T.cB, T.n_left, bob_left, _, rfl, _, _, rfl, rfl, dx, _, upd_same, (by show 3 < 1000; decide), ?_⟩
      refine k _ ⟨D, ⟨⟨dx, ?_⟩, ?_⟩, hD, fun b o e hb => by rw [upd_ne hb, upd_ne hb]; exact s1 _ _ e⟩
      · rw [upd_same]
        have e : putF "left" (V.int ((x.left : Int) - (n : Int))) (bobF x.lay x.left D) = bobF x.lay (x.left - n) D := by
          have : ((x.left : Int) - (n : Int)) = ((x.left - n : Nat) : Int) := by omega
          rw [this]
          rfl
        show some (HO.ins CB dx (putF "left" (V.int ((x.left : Int) - (n : Int))) (bobF x.lay x.left D))) = _
        rw [e]
        rfl
      · show upd _ a _ D = _
        rw [upd_ne haD.symm, upd_ne haD.symm]
        exact hd
end
end LS

namespace LS
open PySem PySem.Spec PyProof.Rows L2
open Kp240 (Bobbin Machine)
section
variable {P : Program} {w : World} {K : PySem.W.Frag} {mg : Str → Option Value} {base : Heap} {CB : Addr}

abbrev sPlacesWithin : Stmt := inClass (top 2) 3
theorem scPlacesWithin : FnScope ["self", "laid", "metres", "at"] ["self", "laid", "metres"] (defScope sPlacesWithin) := ⟨rfl, rfl, rfl, by decide +kernel, rfl, by decide +kernel, by decide +kernel⟩
/-- the places of the joints that come by -/
def placesIn (x : Bobbin) (laid n : Nat) : List Nat := (x.joints.filter fun j => decide (j < n)).map fun j => laid + Kp240.strandOf x j
inductive spPlacesWithin (CB : Addr) (vs : List V) (H : Hp) (Q : VK) (_E : XK) : Prop
  | mk (a j : Addr) (x : Bobbin) (laid n : Nat) (_ : vs = [.ref a, vi laid, vi n]) (_ : BobAt CB H a x j) (_ : BobOk x) (_ : ∀ (H' : Hp) (r : Addr), Same H H' → H r = none → LN H' r (placesIn x laid n) → Q (.ref r) H') : spPlacesWithin CB vs H Q _E
theorem ok_places_within (F : MethIs K CB "places_within" "Bobbin.places_within" sPlacesWithin) (T : TxtB K mg CB) (G_place : Mth P w K mg base 1 CB "place" ["self", "laid", "at"] (spPlace CB)) :
    Mth P w K mg base 2 CB "places_within" ["self", "laid", "metres"] (spPlacesWithin CB) := by
  refine mth_mk F T.cB scPlacesWithin (fun _ _ _ _ _ _ us hl => match us, hl with | [_, _, _], _ => rfl) (fun vs H Q E h => ?_) (fun f cdv A outer s H vs Q E hr h => ?_)
  · obtain ⟨a, j, x, laid, at_, rfl, _⟩ := h
    rfl
  · obtain ⟨a, j, x, laid, n, rfl, B, ok, k⟩ := h
    have nd := scPlacesWithin.nd
    obtain ⟨dx, hH⟩ := B.ins
    refine ⟨_, (pss_one (ps_ret (pe_lc rfl nd (pi_listK (K := K) rfl (pe_fldK (K := K) rfl (pv 0) rfl)) (blkOk_by (own := [("at", 3)]) (by rfl)) (fun _ _ _ _ _ => (pg_name (i := 3) nd rfl (Or.inl rfl))) (fun _ _ _ _ _ => (pts_one (pt_cmpR op_lt (pv 3) (pv 2) (nomark _)))) (fun _ _ _ _ _ => (pmeth G_place hr (pv 0) (pa_cons (pv 1) (pa_cons (pv 3) pa_nil))))))), ?_⟩
    refine ⟨_, rfl, a, CB, dx, _, _, rfl, hH, T.cB, T.n_joints, bob_joints, j, rfl, ⟨_, B.lst.sq⟩, fun D hD => ?_⟩
    refine lc_list (K := K) (a := j) (xs := vl x.joints) (Qd := fun H' => Q (.ref D) H') (fun i H' => Same H H' ∧ H' D = some (.lst (vl (((x.joints.take i).filter fun j => decide (j < n)).map fun j => laid + Kp240.strandOf x j))))
      ⟨Same.new hD, upd_same⟩ (fun i H' _ p => (B.lst.mono p.1).sq) ?_ ?_
    · rintro i y H' hi ⟨s1, hd⟩
      obtain ⟨q, hq, rfl⟩ := vl_get hi
      refine ⟨rfl, _, rfl, _, rfl, _, _, rfl, rfl, _, rfl, ?_⟩
      rw [take_snoc hq, List.filter_append, List.map_append] 
      by_cases hn : q < n
      · have c1 : decide ((q : Int) < (n : Int)) = true := decide_eq_true (by omega)
        rw [c1]
        refine iteT ?_
        refine ⟨_, rfl, a, dx, _, rfl, s1 _ _ hH, rfl, _, rfl, _, rfl, ?_⟩
        refine ⟨a, j, x, laid, q, _, rfl, rfl, B.mono s1, ok, _, hd, ?_, s1.put hD, ?_⟩
        · rw [List.length_map]
          exact line2 (Nat.lt_of_le_of_lt (by rw [List.length_map]; exact Nat.le_trans (List.length_filter_le _ _) (Nat.le_trans (List.length_take_le' _ _) ok.few)) (by decide))
        · rw [upd_same]
          have c3 : decide (q < n) = true := decide_eq_true hn
          simp [c3]
      · have c1 : decide ((q : Int) < (n : Int)) = false := decide_eq_false (by omega)
        rw [c1]
        refine iteF ⟨s1, ?_⟩
        have c3 : decide (q < n) = false := decide_eq_false hn
        simp [c3, hd]
    · rintro H' ⟨s1, hd⟩
      refine k H' D s1 hD ?_
      rw [List.length_map, List.take_length] at hd
      exact hd

abbrev sWireFor : Stmt := inClass (top 2) 4
theorem scWireFor : FnScope ["self", "metres"] ["self", "metres"] (defScope sWireFor) := ⟨rfl, rfl, rfl, by decide +kernel, rfl, by decide +kernel, by decide +kernel⟩
inductive spWireFor (CB : Addr) (vs : List V) (H : Hp) (Q : VK) (_E : XK) : Prop
  | mk (a j : Addr) (x : Bobbin) (n : Nat) (_ : vs = [.ref a, vi n]) (_ : BobAt CB H a x j) (_ : BobOk x) (_ : Q (vi (Kp240.wireFor x n)) H) : spWireFor CB vs H Q _E
theorem ok_wire_for (F : MethIs K CB "wire_for" "Bobbin.wire_for" sWireFor) (T : TxtB K mg CB) : Mth P w K mg base 1 CB "wire_for" ["self", "metres"] (spWireFor CB) := by
  refine mth_mk F T.cB scWireFor (fun _ _ _ _ _ _ us hl => match us, hl with | [_, _], _ => rfl) (fun vs H Q E h => ?_) (fun f cdv A outer s H vs Q E hr h => ?_)
  · obtain ⟨a, j, x, n, rfl, _⟩ := h
    rfl
  · obtain ⟨a, j, x, n, rfl, B, ok, k⟩ := h
    have nd := scWireFor.nd
    obtain ⟨dx, hH⟩ := B.ins
    refine ⟨_, (pss_one (ps_ret (pe_op op_fdiv (pe_op op_sub (pe_op op_add (pe_op op_mul (pv 1) (pe_fldK (K := K) rfl (pv 0) rfl)) (pgi T.g_METRE)) pe_int) (pgi T.g_METRE)))), ?_⟩
    refine ⟨_, rfl, _, rfl, a, CB, dx, _, _, rfl, hH, T.cB, T.n_lay, bob_lay, _, _, rfl, rfl, .inr ⟨?_, ?_⟩, _, _, rfl, rfl, _, _, rfl, rfl, _, _, rfl, rfl, ⟨by decide, by decide⟩, ?_⟩
    · have := ok.lo; omega
    · have := ok.hi; omega
    · have e : (((n : Int) * (x.lay : Int) + 1000 - 1) / 1000 : Int) = ((Kp240.wireFor x n : Nat) : Int) := by
        unfold Kp240.wireFor
        have e1 : ((n : Int) * (x.lay : Int)) = ((n * x.lay : Nat) : Int) := by simp
        rw [e1]
        generalize n * x.lay = q
        omega
      show Q (V.int _) H
      rw [e]
      exact k

abbrev sBLasts : Stmt := inClass (top 2) 5
theorem scBLasts : FnScope ["self"] ["self"] (defScope sBLasts) := ⟨rfl, rfl, rfl, by decide +kernel, rfl, by decide +kernel, by decide +kernel⟩
inductive spBLasts (CB : Addr) (vs : List V) (H : Hp) (Q : VK) (_E : XK) : Prop
  | mk (a j : Addr) (x : Bobbin) (_ : vs = [.ref a]) (_ : BobAt CB H a x j) (_ : BobOk x) (_ : Q (vi (Kp240.strandOf x x.left)) H) : spBLasts CB vs H Q _E
theorem ok_blasts (F : MethIs K CB "lasts_for" "Bobbin.lasts_for" sBLasts) (T : TxtB K mg CB) : Mth P w K mg base 1 CB "lasts_for" ["self"] (spBLasts CB) := by
  refine mth_mk F T.cB scBLasts (fun _ _ _ _ _ _ us hl => match us, hl with | [_], _ => rfl) (fun vs H Q E h => ?_) (fun f cdv A outer s H vs Q E hr h => ?_)
  · obtain ⟨a, j, x, rfl, _⟩ := h
    rfl
  · obtain ⟨a, j, x, rfl, B, ok, k⟩ := h
    have nd := scBLasts.nd
    obtain ⟨dx, hH⟩ := B.ins
    refine ⟨_, (pss_one (ps_ret (pe_op op_fdiv (pe_op op_mul (pe_fldK (K := K) rfl (pv 0) rfl) (pgi T.g_METRE)) (pe_fldK (K := K) rfl (pv 0) rfl)))), ?_⟩
    refine ⟨_, rfl, a, CB, dx, _, _, rfl, hH, T.cB, T.n_left, bob_left, _, _, rfl, rfl, .inr ⟨by decide, by decide⟩, _, rfl, a, CB, dx, _, _, rfl, hH, T.cB, T.n_lay, bob_lay, _, _, rfl, rfl, ⟨?_, ?_⟩, ?_⟩
    · have := ok.lo; omega
    · have := ok.hi; omega
    · have e : ((x.left : Int) * 1000 / (x.lay : Int)) = ((Kp240.strandOf x x.left : Nat) : Int) := by
        unfold Kp240.strandOf
        simp
      show Q (V.int _) H
      rw [e]
      exact k
end
end LS

namespace LS
open PySem PySem.Spec PyProof.Rows L2
open Kp240 (Bobbin Machine)

/-- each of the one at least g from each of the other -/
def far (g : Nat) (l r : List Nat) : Bool := l.all fun p => r.all fun q => decide (g ≤ Kp240.apart p q)
theorem abs_apart (p q : Nat) : (if ((p : Int) - (q : Int)) < 0 then -((p : Int) - (q : Int)) else (p : Int) - (q : Int)) = ((Kp240.apart p q : Nat) : Int) := by
  unfold Kp240.apart
  split <;> omega
theorem apart_le {p q : Nat} (h : p ≤ q) : Kp240.apart p q = q - p := by unfold Kp240.apart; omega
theorem apart_comm (p q : Nat) : Kp240.apart p q = Kp240.apart q p := by unfold Kp240.apart; omega

structure TxtN (mg : Str → Option Value) : Prop where
  b_abs : mg "abs" = none
  b_len : mg "len" = none
  b_sorted : mg "sorted" = none
  b_range : mg "range" = none
  b_enumerate : mg "enumerate" = none
  b_min : mg "min" = none

/-- a list of lists of numbers -/
inductive LLs (H : Hp) : List Addr → List (List Nat) → Prop
  | nil : LLs H [] []
  | cons {a : Addr} {as : List Addr} {g : List Nat} {gs : List (List Nat)} : LN H a g → LLs H as gs → LLs H (a :: as) (g :: gs)
theorem LLs.mono {H H' : Hp} (s : Same H H') : ∀ {as gs}, LLs H as gs → LLs H' as gs
  | _, _, .nil => .nil
  | _, _, .cons h t => .cons (h.mono s) (LLs.mono s t)
theorem LLs.length {H : Hp} : ∀ {as gs}, LLs H as gs → as.length = gs.length
  | _, _, .nil => rfl
  | _, _, .cons _ t => congrArg (· + 1) (LLs.length t)
theorem LLs.get {H : Hp} : ∀ {as gs} {i : Nat} {g : List Nat}, LLs H as gs → gs[i]? = some g → ∃ a, as[i]? = some a ∧ LN H a g
  | _, _, _, _, .nil, h => by simp at h
  | _, _, 0, _, .cons h _, e => by simp at e; subst e; exact ⟨_, rfl, h⟩
  | _, _, i + 1, g, .cons _ t, e => LLs.get (i := i) t (by simpa using e)
theorem LLs.getA {H : Hp} : ∀ {as gs} {i : Nat} {a : Addr}, LLs H as gs → as[i]? = some a → ∃ g, gs[i]? = some g ∧ LN H a g
  | _, _, _, _, .nil, h => by simp at h
  | _, _, 0, _, .cons h _, e => by simp at e; subst e; exact ⟨_, rfl, h⟩
  | _, _, i + 1, g, .cons _ t, e => LLs.getA (i := i) t (by simpa using e)
theorem LLs.snoc {H : Hp} {a : Addr} {g : List Nat} (h : LN H a g) : ∀ {as gs}, LLs H as gs → LLs H (as ++ [a]) (gs ++ [g])
  | _, _, .nil => .cons h .nil
  | _, _, .cons q t => .cons q (LLs.snoc h t)
theorem LLs.set {H : Hp} {a : Addr} {g : List Nat} (h : LN H a g) : ∀ {as gs} (i : Nat), LLs H as gs → LLs H (as.set i a) (gs.set i g)
  | _, _, _, .nil => .nil
  | _, _, 0, .cons _ t => .cons h t
  | _, _, i + 1, .cons q t => .cons q (LLs.set h i t)
def LLN (H : Hp) (r : Addr) (gs : List (List Nat)) : Prop := ∃ as, H r = some (.lst (as.map V.ref)) ∧ LLs H as gs
theorem LLN.mono {H H' : Hp} {r : Addr} {gs : List (List Nat)} (h : LLN H r gs) (s : Same H H') : LLN H' r gs := let ⟨as, h1, h2⟩ := h; ⟨as, s _ _ h1, h2.mono s⟩
theorem refs_get {as : List Addr} {i : Nat} {x : V} (h : (as.map V.ref)[i]? = some x) : ∃ a, as[i]? = some a ∧ x = .ref a := by
  rw [List.getElem?_map] at h
  cases e : as[i]? with
  | none => rw [e] at h; cases h
  | some n => rw [e] at h; exact ⟨n, rfl, (Option.some.inj h).symm⟩

section
variable {P : Program} {w : World} {K : PySem.W.Frag} {mg : Str → Option Value} {base : Heap} {CB : Addr}

abbrev sApart : Stmt := top 4
theorem scApart : FnScope ["places", "others", "gap", "place", "other"] ["places", "others", "gap"] (defScope sApart) := ⟨rfl, rfl, rfl, by decide +kernel, rfl, by decide +kernel, by decide +kernel⟩
inductive spApart (vs : List V) (H : Hp) (Q : VK) (_E : XK) : Prop
  | mk (a b : Addr) (ps qs : List Nat) (g : Nat) (_ : vs = [.ref a, .ref b, vi g]) (_ : LN H a ps) (_ : LN H b qs) (_ : Q (.bl (far g ps qs)) H) : spApart  vs H Q _E
theorem far_take {g : Nat} {ps qs : List Nat} {i : Nat} {p : Nat} (h : ps[i]? = some p) : far g (ps.take (i + 1)) qs = (far g (ps.take i) qs && qs.all fun q => decide (g ≤ Kp240.apart p q)) := by
  rw [take_snoc h, far, List.all_append]
  simp [far]
theorem all_false {α : Type} {l : List α} {f : α → Bool} {x : α} (h : x ∈ l) (e : f x = false) : l.all f = false := by
  rw [List.all_eq_false]
  exact ⟨x, h, by rw [e]; exact Bool.false_ne_true⟩
theorem ok_apart (F : FunIs K mg "apart" sApart) (T : TxtN mg) : Cal P w K mg base 1 "apart" ["places", "others", "gap"] spApart := by
  refine cal_mk F scApart (fun _ _ _ _ _ _ us hl => match us, hl with | [_, _, _], _ => rfl) (fun vs H Q E h => ?_) (fun f cdv A outer s H vs Q E hr h => ?_)
  · obtain ⟨a, b, ps, qs, g, rfl, _⟩ := h
    rfl
  · obtain ⟨a, b, ps, qs, g, rfl, ha, hb, k⟩ := h
    have nd := scApart.nd
    refine ⟨_, (pss_cons (ps_for PassesOwn.never rfl (pi_listK (K := K) rfl (pv 0)) (pg_name (i := 3) nd rfl (Or.inl rfl)) (pss_one (ps_for PassesOwn.never rfl (pi_listK (K := K) rfl (pv 1)) (pg_name (i := 4) nd rfl (Or.inl rfl)) (pss_one (ps_if (pt_cmpR op_lt (pe_callB call_abs (by rfl) T.b_abs bo_abs (pa_cons (pe_op op_sub (pv 3) (pv 4)) pa_nil)) (pv 2) (nomark _)) (pss_one (ps_ret pe_bl)) pss_nil)))))
      (pss_one (ps_ret pe_bl))), ?_⟩
    refine ⟨_, rfl, a, rfl, ⟨_, ha.sq⟩, for_list (K := K) (a := a) (xs := vl ps) (fun i σ H' => (∃ v v' : Option V, σ = [some (.ref a), some (.ref b), some (vi g), v, v']) ∧ H' = H ∧ far g (ps.take i) qs = true)
      ⟨⟨none, none, rfl⟩, rfl, rfl⟩ (fun i σ H' _ p => by rw [p.2.1]; exact ha.sq) ?_ ?_⟩
    · rintro i y σ H' hi ⟨⟨v, v', rfl⟩, rfl, hf⟩
      obtain ⟨p, hp, rfl⟩ := vl_get hi
      refine ⟨_, rfl, b, rfl, ⟨_, hb.sq⟩, for_list (K := K) (a := b) (xs := vl qs) (fun i σ H1 => (∃ v' : Option V, σ = [some (.ref a), some (.ref b), some (vi g), some (vi p), v']) ∧ H1 = H' ∧ (qs.take i).all (fun q => decide (g ≤ Kp240.apart p q)) = true)
        ⟨⟨v', rfl⟩, rfl, rfl⟩ (fun i σ H' _ p => by rw [p.2.1]; exact hb.sq) ?_ ?_⟩
      · rintro j y σ H1 hj ⟨⟨v', rfl⟩, rfl, hg⟩
        obtain ⟨q, hq, rfl⟩ := vl_get hj
        refine ⟨_, rfl, _, rfl, _, _, rfl, rfl, _, rfl, _, rfl, _, _, rfl, rfl, _, rfl, ?_⟩
        rw [abs_apart]
        by_cases c : Kp240.apart p q < g
        · rw [decide_eq_true (show ((Kp240.apart p q : Nat) : Int) < (g : Int) by omega)]
          refine iteT ?_
          have e : far g ps qs = false := all_false (List.mem_of_getElem? hp) (all_false (List.mem_of_getElem? hq) (decide_eq_false (by omega)))
          rw [e] at k
          exact k
        · rw [decide_eq_false (show ¬ ((Kp240.apart p q : Nat) : Int) < (g : Int) by omega)]
          refine iteF ⟨⟨_, rfl⟩, rfl, ?_⟩
          rw [take_snoc hq, List.all_append, hg]
          simp
          omega
      · rintro σ H1 ⟨⟨v', rfl⟩, rfl, hg⟩
        refine ⟨⟨_, _, rfl⟩, rfl, ?_⟩
        rw [List.length_map, List.take_length] at hg
        rw [far_take hp, hf, hg]
        rfl
    · rintro σ H1 ⟨⟨v, v', rfl⟩, rfl, hf⟩
      rw [List.length_map, List.take_length] at hf
      rw [hf] at k
      exact k

/-- of a rising list the neighbours tell -/
theorem clear_iff {g : Nat} : ∀ {l : List Nat}, Kp240.clear g l = true ↔ l.Pairwise fun p q => g ≤ Kp240.apart p q
  | [] => by simp [Kp240.clear]
  | p :: l => by
    rw [Kp240.clear, Bool.and_eq_true, List.pairwise_cons, clear_iff (l := l), List.all_eq_true]
    simp
theorem clear_perm {g : Nat} {l r : List Nat} (h : l.Perm r) : Kp240.clear g l = Kp240.clear g r := by
  rw [Bool.eq_iff_iff, clear_iff, clear_iff]
  exact h.pairwise_iff fun h => by rw [apart_comm]; exact h
/-- neighbours far enough apart, up to the i-th -/
def nbr (g : Nat) (l : List Nat) (i : Nat) : Prop := ∀ k p q, k < i → l[k]? = some p → l[k + 1]? = some q → g ≤ q - p
theorem clear_nbr {g : Nat} : ∀ {l : List Nat}, l.Pairwise (· ≤ ·) → (Kp240.clear g l = true ↔ nbr g l l.length)
  | [], _ => by simp [Kp240.clear, nbr]
  | [p], _ => by
    simp [Kp240.clear, nbr]
  | p :: q :: l, h => by
    have h1 := List.pairwise_cons.mp h
    have h2 := List.pairwise_cons.mp h1.2
    have hpq : p ≤ q := h1.1 q (by simp)
    have ih := clear_nbr (g := g) (l := q :: l) h1.2
    rw [Kp240.clear, Bool.and_eq_true, ih, List.all_eq_true]
    constructor
    · rintro ⟨a, b⟩ k x y hk hx hy
      cases k with
      | zero =>
        simp at hx hy
        subst hx hy
        have := of_decide_eq_true (a q (by simp))
        rw [apart_le hpq] at this
        exact this
      | succ k => exact b k x y (by simpa using hk) (by simpa using hx) (by simpa using hy)
    · intro n
      have b : nbr g (q :: l) (q :: l).length := fun k x y hk hx hy => n (k + 1) x y (by simpa using hk) (by simpa using hx) (by simpa using hy)
      refine ⟨fun x hx => ?_, b⟩
      have c := n 0 p q (by simp) rfl rfl
      have hpx : p ≤ x := h1.1 x hx
      refine decide_eq_true ?_
      rw [apart_le hpx]
      rcases List.mem_cons.mp hx with e | e
      · subst e; exact c
      · have h3 := h2.1 x e
        omega
def natsOf (l : List Int) : List Nat := l.map Int.toNat
theorem perm_nats {ns : List Int} {l : List Nat} (h : ns.Perm (zs l)) : ∃ l', ns = zs l' ∧ l'.Perm l := by
  have e1 : ns = zs (natsOf ns) := by
    unfold zs natsOf
    rw [List.map_map]
    have : ∀ x ∈ ns, (Int.ofNat ∘ Int.toNat) x = x := fun x hx => by
      have hx' : x ∈ zs l := h.mem_iff.mp hx
      unfold zs at hx'
      obtain ⟨n, _, rfl⟩ := List.mem_map.mp hx'
      rfl
    conv => lhs; rw [← List.map_id ns]
    exact (List.map_congr_left fun x hx => (this x hx)).symm
  refine ⟨natsOf ns, e1, ?_⟩
  have := h.map Int.toNat
  unfold zs at this
  rw [List.map_map] at this
  have e2 : l.map (Int.toNat ∘ Int.ofNat) = l := by
    conv => rhs; rw [← List.map_id l]
    exact List.map_congr_left fun x _ => rfl
  rw [e2] at this
  exact this
theorem zs_le {l : List Nat} (h : (zs l).Pairwise (· ≤ ·)) : l.Pairwise (· ≤ ·) := by
  unfold zs at h
  rw [List.pairwise_map] at h
  exact h.imp fun h => Int.ofNat_le.mp h
/-- how far each lies from the one next to it -/
def diffs (l : List Nat) : List Nat := (List.range (l.length - 1)).map fun i => l.getD (i + 1) 0 - l.getD i 0
theorem mem_diffs {l : List Nat} {m : Nat} : m ∈ diffs l ↔ ∃ i p q, l[i]? = some p ∧ l[i + 1]? = some q ∧ m = q - p := by
  unfold diffs
  rw [List.mem_map]
  constructor
  · rintro ⟨i, hi, rfl⟩
    have hi := List.mem_range.mp hi
    have e1 : l[i]? = some l[i] := List.getElem?_eq_getElem (by omega)
    have e2 : l[i + 1]? = some l[i + 1] := List.getElem?_eq_getElem (by omega)
    exact ⟨i, _, _, e1, e2, by rw [List.getD_eq_getElem?_getD, List.getD_eq_getElem?_getD, e1, e2]; rfl⟩
  · rintro ⟨i, p, q, e1, e2, rfl⟩
    obtain ⟨h2, _⟩ := List.getElem?_eq_some_iff.mp e2
    exact ⟨i, List.mem_range.mpr (by omega), by rw [List.getD_eq_getElem?_getD, List.getD_eq_getElem?_getD, e1, e2]; rfl⟩
theorem clear_diffs {g : Nat} {l : List Nat} (up : l.Pairwise (· ≤ ·)) : Kp240.clear g l = true ↔ ∀ m ∈ diffs l, g ≤ m := by
  rw [clear_nbr up]
  constructor
  · intro n m hm
    obtain ⟨i, p, q, e1, e2, rfl⟩ := mem_diffs.mp hm
    exact n i p q (by have := (List.getElem?_eq_some_iff.mp e1).1; omega) e1 e2
  · intro h i p q _ e1 e2
    exact h _ (mem_diffs.mpr ⟨i, p, q, e1, e2, rfl⟩)
theorem diffs_len (l : List Nat) : (diffs l).length = l.length - 1 := by
  unfold diffs
  rw [List.length_map, List.length_range]

abbrev sSteps : Stmt := top 5
theorem scSteps : FnScope ["places", "rising", "k"] ["places"] (defScope sSteps) := ⟨rfl, rfl, rfl, by decide +kernel, rfl, by decide +kernel, by decide +kernel⟩
inductive spSteps (vs : List V) (H : Hp) (Q : VK) (_E : XK) : Prop
  | mk (a : Addr) (ps : List Nat) (_ : vs = [.ref a]) (_ : LN H a ps) (_ : ps.length ≤ 900000) (_ : ∀ (H' : Hp) (r : Addr) (l : List Nat), Same H H' → H r = none → l.Perm ps → l.Pairwise (· ≤ ·) → LN H' r (diffs l) → Q (.ref r) H') : spSteps  vs H Q _E
theorem ok_steps (F : FunIs K mg "steps" sSteps) (T : TxtN mg) : Cal P w K mg base 1 "steps" ["places"] spSteps := by
  refine cal_mk F scSteps (fun _ _ _ _ _ _ us hl => match us, hl with | [_], _ => rfl) (fun vs H Q E h => ?_) (fun f cdv A outer s H vs Q E hr h => ?_)
  · obtain ⟨a, ps, rfl, _⟩ := h
    rfl
  · obtain ⟨a, ps, rfl, ha, few, k⟩ := h
    have nd := scSteps.nd
    refine ⟨_, (pss_cons (ps_set (i := 1) nd rfl (Or.inr rfl) (pe_callB (cr_sortedAK (K := K) rfl) (by rfl) T.b_sorted bo_sorted (pa_cons (pv 0) pa_nil)))
      (pss_one (ps_ret (pe_lc rfl nd (pi_range2 rfl T.b_range (pa_cons pe_int (pa_cons (pe_callB (call_len_seqK (K := K) rfl) (by rfl) T.b_len bo_len (pa_cons (pv 1) pa_nil)) pa_nil))) (blkOk_by (own := [("k", 2)]) (by rfl)) (fun _ _ _ _ _ => (pg_name (i := 2) nd rfl (Or.inl rfl))) (fun _ _ _ _ _ => pts_nil) (fun _ _ _ _ _ => (pe_op op_sub (pe_ix (ix_listK (K := K) rfl) (pv 1) (pv 2) (fun _ _ => rfl)) (pe_ix (ix_listK (K := K) rfl) (pv 1) (pe_op op_sub (pv 2) pe_int) (fun _ _ => rfl)))))))), ?_⟩
    refine ⟨_, rfl, a, zs ps, rfl, (by rw [← vl_zs]; exact ha.sq), (by rw [zs, List.length_map]; exact line1 (by omega)), fun ns r hp hs hr' => ?_⟩
    obtain ⟨l, rfl, hl⟩ := perm_nats hp
    have up := zs_le hs
    have s1 : Same H (upd H r (.lst ((zs l).map V.int))) := Same.new hr'
    have h1 : LN (upd H r (.lst ((zs l).map V.int))) r l := by show upd _ r _ r = _; rw [upd_same, vl_zs]
    have hlen : l.length ≤ 900000 := by rw [hl.length_eq]; exact few
    generalize upd H r (.lst ((zs l).map V.int)) = H1 at h1 s1 ⊢
    refine ⟨_, rfl, r, _, rfl, .inl h1.sq, 1, _, rfl, ⟨by decide, by decide, by rw [List.length_map]; omega, by rw [List.length_map]; omega⟩, fun D hD => ?_⟩
    refine lc_range (lo := 1) (n := _) (Qd := fun H' => Q (.ref D) H') (fun i H' => Same H1 H' ∧ H' D = some (.lst (vl ((List.range i).map fun i => l.getD (i + 1) 0 - l.getD i 0)))) ⟨Same.new hD, upd_same⟩ ?_ ?_
    · rintro i H' hi ⟨s2, hd⟩
      rw [List.length_map] at hi
      have hi' : i + 1 < l.length := by omega
      obtain ⟨q, hq⟩ : ∃ q, l[i + 1]? = some q := ⟨_, List.getElem?_eq_getElem hi'⟩
      obtain ⟨p, hp'⟩ : ∃ p, l[i]? = some p := ⟨_, List.getElem?_eq_getElem (by omega)⟩
      have hpq : p ≤ q := by
        have := List.pairwise_iff_getElem.mp up i (i + 1) (by omega) hi' (by omega)
        rw [List.getElem?_eq_some_iff] at hq hp'
        obtain ⟨_, rfl⟩ := hq
        obtain ⟨_, rfl⟩ := hp'
        exact this
      have h2 := h1.mono s2
      refine ⟨rfl, yesI ?_⟩
      refine ⟨_, rfl, _, rfl, r, _, _, vi q, rfl, rfl, h2.sq, at_of (j := i + 1) (by show (1 : Int) + i = _; omega) (by rw [List.getElem?_map, hq]; rfl), _, rfl, _, rfl, _, _, rfl, rfl, r, _, _, vi p, rfl, rfl, h2.sq, at_of (j := i) (by show (1 : Int) + i - 1 = _; omega) (by rw [List.getElem?_map, hp']; rfl), _, _, rfl, rfl, ?_⟩
      have e : ((q : Int) - (p : Int)) = ((q - p : Nat) : Int) := by omega
      refine ⟨_, hd, ?_, s2.put hD, ?_⟩
      · rw [List.length_map, List.length_map, List.length_range]
        exact line2 (by omega)
      · rw [upd_same, List.range_succ, List.map_append]
        show some (HO.lst (vl _ ++ [V.int ((q : Int) - (p : Int))])) = some (HO.lst ((List.map _ _ ++ [_]).map vi))
        have ed : l.getD (i + 1) 0 - l.getD i 0 = q - p := by rw [List.getD_eq_getElem?_getD, List.getD_eq_getElem?_getD, hp', hq]; rfl
        rw [List.map_append, e]
        show _ = some (HO.lst (_ ++ [vi (l.getD (i + 1) 0 - l.getD i 0)]))
        rw [ed]
    · rintro H' ⟨s2, hd⟩
      refine k H' D l (s1.trans s2) (s1.free hD) hl up ?_
      have e : (((vl l).length : Int) - 1).toNat = l.length - 1 := by rw [List.length_map]; omega
      rw [e] at hd
      exact hd

abbrev sApartWithin : Stmt := top 6
theorem scApartWithin : FnScope ["places", "gap"] ["places", "gap"] (defScope sApartWithin) := ⟨rfl, rfl, rfl, by decide +kernel, rfl, by decide +kernel, by decide +kernel⟩
inductive spApartWithin (vs : List V) (H : Hp) (Q : VK) (_E : XK) : Prop
  | mk (a : Addr) (ps : List Nat) (g : Nat) (_ : vs = [.ref a, vi g]) (_ : LN H a ps) (_ : ps.length < 64) (_ : ∀ H' : Hp, Same H H' → Q (.bl (Kp240.clear g ps)) H') : spApartWithin  vs H Q _E
theorem ok_apart_within (F : FunIs K mg "apart_within" sApartWithin) (T : TxtN mg) (G_steps : Cal P w K mg base 1 "steps" ["places"] spSteps) : Cal P w K mg base 2 "apart_within" ["places", "gap"] spApartWithin := by
  refine cal_mk F scApartWithin (fun _ _ _ _ _ _ us hl => match us, hl with | [_, _], _ => rfl) (fun vs H Q E h => ?_) (fun f cdv A outer s H vs Q E hr h => ?_)
  · obtain ⟨a, ps, g, rfl, _⟩ := h
    rfl
  · obtain ⟨a, ps, g, rfl, ha, few, k⟩ := h
    have nd := scApartWithin.nd
    refine ⟨_, (pss_one (ps_ret (pe_cmpR op_ge (pe_minDK (K := K) rfl rfl (by rfl) T.b_min (pa_cons (pcall G_steps hr rfl (pa_cons (pv 0) pa_nil)) pa_nil) (pk_cons (pv 1) pk_nil)) (pv 1) (nomark _)))), ?_⟩
    refine ⟨_, rfl, a, ps, rfl, ha, by omega, fun H1 r l s1 hr1 hl up hL => ?_⟩
    have k1 := k H1 s1
    rw [← clear_perm hl] at k1
    refine ⟨_, rfl, r, zs (diffs l), (g : Int), rfl, rfl, (by rw [← vl_zs]; exact hL.sq), fun e => ?_, fun m hm hmin => ?_⟩
    · refine ⟨_, rfl, _, _, rfl, rfl, ?_⟩
      have e0 : diffs l = [] := List.length_eq_zero_iff.mp (by have := congrArg List.length e; rw [zs, List.length_map] at this; exact this)
      have e1 : Kp240.clear g l = true := (clear_diffs up).mpr fun m hm => by rw [e0] at hm; cases hm
      rw [e1] at k1
      show Q (.bl (decide ((g : Int) ≤ (g : Int)))) H1
      rw [decide_eq_true (Int.le_refl _)]
      exact k1
    · refine ⟨_, rfl, _, _, rfl, rfl, ?_⟩
      obtain ⟨d, hd, rfl⟩ := List.mem_map.mp hm
      have e1 : decide ((g : Int) ≤ Int.ofNat d) = Kp240.clear g l := by
        rw [Bool.eq_iff_iff, clear_diffs up, decide_eq_true_iff]
        constructor
        · intro h x hx
          have h2 := hmin (Int.ofNat x) (List.mem_map.mpr ⟨x, hx, rfl⟩)
          have := Int.ofNat_le.mp h2
          have := Int.ofNat_le.mp h
          omega
        · intro h
          exact Int.ofNat_le.mpr (h d hd)
      show Q (.bl (decide ((g : Int) ≤ Int.ofNat d))) H1
      rw [e1]
      exact k1
end
end LS

namespace LS
open PySem PySem.Spec PyProof.Rows L2
open Kp240 (Bobbin Machine)

/-- over enumerate of a list that the body leaves as it is -/
theorem for_enum {K : PySem.W.Frag} {a : Addr} {xs : List V} {g : TG} {tb : TS} {D : Ends} {σ : L2.St} {H : Hp} (Pv : Nat → L2.St → Hp → Prop) (h0 : Pv 0 σ H) (hl : ∀ i σ H, i ≤ xs.length → Pv i σ H → SqL K H a xs)
    (hs : ∀ i x σ H T, xs[i]? = some x → Pv i σ H → H T = none → g (.ref T) σ (upd H T (.tup [.int (i : Nat), x])) fun σ2 H2 => tb { D with nx := Pv (i + 1), ct := Pv (i + 1), bk := D.nx } σ2 H2) (hd : ∀ σ H, Pv xs.length σ H → D.nx σ H) :
    ∃ W : Nat → Nat → L2.St → Hp → Prop, (∃ m, W 0 m σ H) ∧ ∀ i m σ H, W i m σ H →
      ((Ite K a).stop i H ∧ D.nx σ H) ∨ ((Ite K a).go i H ∧ ∃ N : L2.St → Hp → Prop, (∀ σ' H', N σ' H' → ∃ m', m' < m ∧ W (i + 1) m' σ' H') ∧ ∀ x H', (Ite K a).yld i H x H' → g x σ H' fun σ2 H2 => tb { D with nx := N, ct := N, bk := D.nx } σ2 H2) := by
  refine ⟨fun i m σ H => m = xs.length - i ∧ i ≤ xs.length ∧ Pv i σ H, ⟨xs.length, by simp, Nat.zero_le _, h0⟩, ?_⟩
  rintro i m σ H ⟨rfl, hi, p⟩
  have q := hl i σ H hi p
  by_cases hlt : i < xs.length
  · refine .inr ⟨⟨xs, xs[i], q, by simp [hlt]⟩, Pv (i + 1), fun σ' H' p' => ⟨xs.length - (i + 1), by omega, rfl, hlt, p'⟩, fun x H' y => ?_⟩
    obtain ⟨T, z, rfl, hT, rfl, hz⟩ := y
    exact hs i z σ H T (hz xs q) p hT
  · have e : i = xs.length := by omega
    subst e
    exact .inl ⟨⟨xs, q, Nat.le_refl _⟩, hd σ H p⟩
theorem lc_enum {K : PySem.W.Frag} {a : Addr} {xs : List V} {g : TG} {tt : TT} {te : TE} {vs : List Nat} {σ : L2.St} {H1 : Hp} {D : Addr} {Qd : Hp → Prop} (Pv : Nat → Hp → Prop) (h0 : Pv 0 (upd H1 D (.lst []))) (hl : ∀ i H, i ≤ xs.length → Pv i H → SqL K H a xs)
    (hs : ∀ i x H T, xs[i]? = some x → Pv i H → H T = none → g (.ref T) (wipe σ vs) (upd H T (.tup [.int (i : Nat), x])) fun σ2 H2 => wipe σ2 vs = wipe σ vs ∧ tt σ2 H2 fun b H3 =>
      if b = true then te σ2 H3 fun y H4 => ∃ acc, H4 D = some (.lst acc) ∧ acc.length < sizeLine ∧ Pv (i + 1) (upd H4 D (.lst (acc ++ [y]))) else Pv (i + 1) H3)
    (hd : ∀ H, Pv xs.length H → Qd H) :
    ∃ W : Nat → Nat → Hp → Prop, (∃ m, W 0 m (upd H1 D (.lst []))) ∧ ∀ i m H, W i m H →
      ((Ite K a).stop i H ∧ Qd H) ∨ ((Ite K a).go i H ∧ ∃ Nx : Hp → Prop, (∀ H', Nx H' → ∃ m', m' < m ∧ W (i + 1) m' H') ∧ ∀ x H', (Ite K a).yld i H x H' → g x (wipe σ vs) H' fun σ2 H2 => wipe σ2 vs = wipe σ vs ∧ tt σ2 H2 fun b H3 =>
        if b = true then te σ2 H3 fun y H4 => ∃ acc, H4 D = some (.lst acc) ∧ acc.length < sizeLine ∧ Nx (upd H4 D (.lst (acc ++ [y]))) else Nx H3) := by
  refine ⟨fun i m H => m = xs.length - i ∧ i ≤ xs.length ∧ Pv i H, ⟨xs.length, by simp, Nat.zero_le _, h0⟩, ?_⟩
  rintro i m H ⟨rfl, hi, p⟩
  have q := hl i H hi p
  by_cases hlt : i < xs.length
  · refine .inr ⟨⟨xs, xs[i], q, by simp [hlt]⟩, Pv (i + 1), fun H' p' => ⟨xs.length - (i + 1), by omega, rfl, hlt, p'⟩, fun x H' y => ?_⟩
    obtain ⟨T, z, rfl, hT, rfl, hz⟩ := y
    exact hs i z H T (hz xs q) p hT
  · have e : i = xs.length := by omega
    subst e
    exact .inl ⟨⟨xs, q, Nat.le_refl _⟩, hd H p⟩

section
variable {P : Program} {w : World} {K : PySem.W.Frag} {mg : Str → Option Value} {base : Heap} {CB : Addr}

abbrev sFineAlone : Stmt := top 7
theorem scFineAlone : FnScope ["group", "passed", "gap"] ["group", "passed", "gap"] (defScope sFineAlone) := ⟨rfl, rfl, rfl, by decide +kernel, rfl, by decide +kernel, by decide +kernel⟩
def alone (g : Nat) (ps qs : List Nat) : Bool := Kp240.clear g ps && far g ps qs
inductive spFineAlone (vs : List V) (H : Hp) (Q : VK) (_E : XK) : Prop
  | mk (a b : Addr) (ps qs : List Nat) (g : Nat) (_ : vs = [.ref a, .ref b, vi g]) (_ : LN H a ps) (_ : LN H b qs) (_ : ps.length < 64) (_ : ∀ H' : Hp, Same H H' → Q (.bl (alone g ps qs)) H') : spFineAlone  vs H Q _E
theorem ok_fine_alone (F : FunIs K mg "fine_alone" sFineAlone) (G_apart : Cal P w K mg base 1 "apart" ["places", "others", "gap"] spApart) (G_apart_within : Cal P w K mg base 2 "apart_within" ["places", "gap"] spApartWithin) :
    Cal P w K mg base 3 "fine_alone" ["group", "passed", "gap"] spFineAlone := by
  refine cal_mk F scFineAlone (fun _ _ _ _ _ _ us hl => match us, hl with | [_, _, _], _ => rfl) (fun vs H Q E h => ?_) (fun f cdv A outer s H vs Q E hr h => ?_)
  · obtain ⟨a, b, ps, qs, g, rfl, _⟩ := h
    rfl
  · obtain ⟨a, b, ps, qs, g, rfl, ha, hb, few, k⟩ := h
    have nd := scFineAlone.nd
    refine ⟨_, (pss_one (ps_ret (pe_and (pcall G_apart_within hr rfl (pa_cons (pv 0) (pa_cons (pv 2) pa_nil))) (pe_one (pcall G_apart hr rfl (pa_cons (pv 0) (pa_cons (pv 1) (pa_cons (pv 2) pa_nil)))))))), ?_⟩
    refine ⟨_, rfl, _, rfl, a, ps, g, rfl, ha, few, fun H1 s1 => ⟨_, rfl, ?_⟩⟩
    have k1 := k H1 s1
    unfold alone at k1
    cases e : Kp240.clear g ps with
    | false =>
      rw [e] at k1
      exact iteF k1
    | true =>
      rw [e] at k1
      exact iteT ⟨_, rfl, _, rfl, _, rfl, a, b, ps, qs, g, rfl, ha.mono s1, hb.mono s1, k1⟩

abbrev sBeside : Stmt := top 8
theorem scBeside : FnScope ["groups", "b", "gap", "other", "group"] ["groups", "b", "gap"] (defScope sBeside) := ⟨rfl, rfl, rfl, by decide +kernel, rfl, by decide +kernel, by decide +kernel⟩
def beside (g : Nat) (gs : List (List Nat)) (b : Nat) : Bool := (List.range gs.length).all fun o => decide (o = b) || far g (gs.getD b []) (gs.getD o [])
inductive spBeside (vs : List V) (H : Hp) (Q : VK) (_E : XK) : Prop
  | mk (r : Addr) (gs : List (List Nat)) (b g : Nat) (_ : vs = [.ref r, vi b, vi g]) (_ : LLN H r gs) (_ : b < gs.length) (_ : ∀ H' : Hp, Same H H' → Q (.bl (beside g gs b)) H') : spBeside  vs H Q _E
theorem getD_of {α : Type} {l : List α} {i : Nat} {x d : α} (h : l[i]? = some x) : l.getD i d = x := by
  rw [List.getD_eq_getElem?_getD, h]
  rfl
theorem ok_beside (F : FunIs K mg "fine_beside_others" sBeside) (T : TxtN mg) (G_apart : Cal P w K mg base 1 "apart" ["places", "others", "gap"] spApart) :
    Cal P w K mg base 2 "fine_beside_others" ["groups", "b", "gap"] spBeside := by
  refine cal_mk F scBeside (fun _ _ _ _ _ _ us hl => match us, hl with | [_, _, _], _ => rfl) (fun vs H Q E h => ?_) (fun f cdv A outer s H vs Q E hr h => ?_)
  · obtain ⟨r, gs, b, g, rfl, _⟩ := h
    rfl
  · obtain ⟨r, gs, b, g, rfl, ⟨as, hr0, hg⟩, hb, k⟩ := h
    have nd := scBeside.nd
    obtain ⟨gb, hgb⟩ : ∃ x, gs[b]? = some x := ⟨_, List.getElem?_eq_getElem hb⟩
    obtain ⟨ab, hab, hLb⟩ := hg.get hgb
    refine ⟨_, (pss_cons (ps_for PassesOwn.never rfl (pi_enumK (K := K) rfl rfl T.b_enumerate (pa_cons (pv 0) pa_nil)) (pg_tupK (K := K) (n := 2) rfl rfl (pgs_cons (pg_name (i := 3) nd rfl (Or.inl rfl)) (pgs_cons (pg_name (i := 4) nd rfl (Or.inl rfl)) pgs_nil))) (pss_one (ps_if (PW.pt (pw_and (pt_cmpR op_ne (pv 3) (pv 1) (nomark _)) (pw_and1 (pt_not (pt_val (pcall G_apart hr rfl (pa_cons (pe_ix (ix_listK (K := K) rfl) (pv 0) (pv 1) (fun _ _ => rfl)) (pa_cons (pv 4) (pa_cons (pv 2) pa_nil))))))))) (pss_one (ps_ret pe_bl)) pss_nil)))
      (pss_one (ps_ret pe_bl))), ?_⟩
    refine ⟨_, rfl, r, _, rfl, SqL.of hr0, for_enum (K := K) (a := r) (xs := as.map V.ref) (fun i σ H' => (∃ v v' : Option V, σ = [some (.ref r), some (vi b), some (vi g), v, v']) ∧ Same H H' ∧ ∀ o, o < i → (decide (o = b) || far g (gs.getD b []) (gs.getD o [])) = true)
      ⟨⟨none, none, rfl⟩, Same.rfl', fun o ho => absurd ho (by omega)⟩ (fun i σ H' _ p => SqL.of (p.2.1 _ _ hr0)) ?_ ?_⟩
    · rintro i y σ H1 T' hi ⟨⟨v, v', rfl⟩, s1, hn⟩ hT
      obtain ⟨c, hc, rfl⟩ := refs_get hi
      obtain ⟨gc, hgc, hLc⟩ := hg.getA hc
      have s2 : Same H (upd H1 T' (.tup [.int (i : Nat), .ref c])) := s1.add hT
      refine ⟨T', _, rfl, SqT.of upd_same, rfl, _, _, rfl, _, _, rfl, rfl, ?_⟩
      refine ⟨_, rfl, _, rfl, rfl, _, rfl, ?_⟩
      have dn : (!decide (V.int (i : Int) = V.int (b : Int))) = !decide (i = b) := by
        congr 1
        by_cases e : i = b
        · subst e; simp
        · rw [decide_eq_false e, decide_eq_false (fun q => e (by injection q with q; omega))]
      have hlt : i < gs.length := (List.getElem?_eq_some_iff.mp hgc).1
      show if (!decide (V.int (i : Int) = V.int (b : Int))) = true then _ else _
      rw [dn]
      by_cases e : i = b
      · rw [decide_eq_true e]
        refine iteF (iteF ⟨⟨_, _, rfl⟩, s2, fun o ho => ?_⟩)
        by_cases eo : o = i
        · rw [eo, decide_eq_true e]
          rfl
        · exact hn o (by omega)
      · rw [decide_eq_false e]
        refine iteT ?_
        refine ⟨_, rfl, _, rfl, r, _, _, .ref ab, rfl, rfl, SqL.of (s2 _ _ hr0), atI_nat (by rw [List.getElem?_map, hab]; rfl), _, rfl, _, rfl, ab, c, gb, gc, g, rfl, hLb.mono s2, hLc.mono s2, _, rfl, ?_⟩
        cases ef : far g gb gc with
        | true =>
          refine iteF ⟨⟨_, _, rfl⟩, s2, fun o ho => ?_⟩
          by_cases eo : o = i
          · rw [eo, decide_eq_false e, getD_of hgb, getD_of hgc, ef]
            rfl
          · exact hn o (by omega)
        | false =>
          refine iteT ?_
          have k1 := k _ s2
          have e2 : beside g gs b = false := all_false (x := i) (List.mem_range.mpr hlt) (by rw [decide_eq_false e, getD_of hgb, getD_of hgc, ef]; rfl)
          rw [e2] at k1
          exact k1
    · rintro σ H1 ⟨⟨v, v', rfl⟩, s1, hn⟩
      rw [List.length_map, hg.length] at hn
      have k1 := k _ s1
      have e2 : beside g gs b = true := List.all_eq_true.mpr fun o ho => hn o (List.mem_range.mp ho)
      rw [e2] at k1
      exact k1

abbrev sBad : Stmt := top 9
theorem scBad : FnScope ["groups", "passed", "gap", "found", "b", "group"] ["groups", "passed", "gap"] (defScope sBad) := ⟨rfl, rfl, rfl, by decide +kernel, rfl, by decide +kernel, by decide +kernel⟩
def okB (g : Nat) (gs : List (List Nat)) (qs : List Nat) (b : Nat) : Bool := alone g (gs.getD b []) qs && beside g gs b
def badOf (g : Nat) (gs : List (List Nat)) (qs : List Nat) : List Nat := (List.range gs.length).filter fun b => !okB g gs qs b
inductive spBad (vs : List V) (H : Hp) (Q : VK) (_E : XK) : Prop
  | mk (r p : Addr) (gs : List (List Nat)) (qs : List Nat) (g : Nat) (_ : vs = [.ref r, .ref p, vi g]) (_ : LLN H r gs) (_ : LN H p qs) (_ : gs.length ≤ 1000) (_ : (∀ x ∈ gs, x.length < 64)) (_ : ∀ (H' : Hp) (l : Addr), Same H H' → H l = none → LN H' l (badOf g gs qs) → Q (.ref l) H') : spBad  vs H Q _E
theorem ok_bad (F : FunIs K mg "bad_bobbins" sBad) (T : TxtN mg) (G_fine_alone : Cal P w K mg base 3 "fine_alone" ["group", "passed", "gap"] spFineAlone) (G_fine_beside_others : Cal P w K mg base 2 "fine_beside_others" ["groups", "b", "gap"] spBeside) :
    Cal P w K mg base 4 "bad_bobbins" ["groups", "passed", "gap"] spBad := by
  refine cal_mk F scBad (fun _ _ _ _ _ _ us hl => match us, hl with | [_, _, _], _ => rfl) (fun vs H Q E h => ?_) (fun f cdv A outer s H vs Q E hr h => ?_)
  · obtain ⟨r, p, gs, qs, g, rfl, _⟩ := h
    rfl
  · obtain ⟨r, p, gs, qs, g, rfl, ⟨as, hr0, hg⟩, hp, hlen, few, k⟩ := h
    have nd := scBad.nd
    refine ⟨_, (pss_cons (ps_set (i := 3) nd rfl (Or.inl rfl) (pe_lst pa_nil))
      (pss_cons (ps_for PassesOwn.never rfl (pi_enumK (K := K) rfl rfl T.b_enumerate (pa_cons (pv 0) pa_nil)) (pg_tupK (K := K) (n := 2) rfl rfl (pgs_cons (pg_name (i := 4) nd rfl (Or.inl rfl)) (pgs_cons (pg_name (i := 5) nd rfl (Or.inl rfl)) pgs_nil))) (pss_one (ps_if (pt_not (PW.pt (pw_and (pt_val (pcall G_fine_alone hr rfl (pa_cons (pv 5) (pa_cons (pv 1) (pa_cons (pv 2) pa_nil))))) (pw_and1 (pt_val (pcall G_fine_beside_others hr rfl (pa_cons (pv 0) (pa_cons (pv 4) (pa_cons (pv 2) pa_nil))))))))) (pss_one (ps_expr (pe_bmK (K := K) rfl PySem.F.plainAttrs_list PySem.F.slot_list_append PySem.F.type_list_append mt_append (pv 3) (pa_cons (pv 4) pa_nil)))) pss_nil)))
      (pss_one (ps_ret (pv 3))))), ?_⟩
    refine ⟨Nat.zero_le _, fun l hl => ?_⟩
    refine ⟨_, rfl, r, _, rfl, SqL.of ((Same.new hl) _ _ hr0), for_enum (K := K) (a := r) (xs := as.map V.ref) (fun i σ H' => (∃ v v' : Option V, σ = [some (.ref r), some (.ref p), some (vi g), some (.ref l), v, v']) ∧ Same H H' ∧ LN H' l ((List.range i).filter fun b => !okB g gs qs b))
      ⟨⟨none, none, rfl⟩, Same.new hl, upd_same⟩ (fun i σ H' _ p => SqL.of (p.2.1 _ _ hr0)) ?_ ?_⟩
    · rintro i y σ H1 T' hi ⟨⟨v, v', rfl⟩, s1, hn⟩ hT
      obtain ⟨c, hc, rfl⟩ := refs_get hi
      obtain ⟨gc, hgc, hLc⟩ := hg.getA hc
      have sT : Same H1 (upd H1 T' (.tup [.int (i : Nat), .ref c])) := Same.new hT
      have s2 : Same H (upd H1 T' (.tup [.int (i : Nat), .ref c])) := s1.add hT
      have hn2 := hn.mono sT
      have hlt : i < gs.length := (List.getElem?_eq_some_iff.mp hgc).1
      refine ⟨T', _, rfl, SqT.of upd_same, rfl, _, _, rfl, _, _, rfl, rfl, ?_⟩
      generalize upd H1 T' (.tup [.int (i : Nat), .ref c]) = H2 at s2 hn2 ⊢
      have step : ∀ H4 : Hp, Same H2 H4 → (okB g gs qs i = true → (∃ v v' : Option V, [some (V.ref r), some (.ref p), some (vi g), some (.ref l), some (.int (i : Nat)), some (.ref c)] = [some (.ref r), some (.ref p), some (vi g), some (.ref l), v, v']) ∧ Same H H4 ∧ LN H4 l ((List.range (i + 1)).filter fun b => !okB g gs qs b)) := fun H4 s4 e => by
        refine ⟨⟨_, _, rfl⟩, s2.trans s4, ?_⟩
        rw [List.range_succ, List.filter_append]
        simp only [List.filter_cons, e, List.filter_nil]
        simp
        exact hn2.mono s4
      have bad : ∀ H4 : Hp, Same H2 H4 → okB g gs qs i = false → H4 l = some (.lst (vl ((List.range i).filter fun b => !okB g gs qs b))) ∧ (vl ((List.range i).filter fun b => !okB g gs qs b)).length < sizeLine ∧
          (∃ v v' : Option V, [some (V.ref r), some (.ref p), some (vi g), some (.ref l), some (.int (i : Nat)), some (.ref c)] = [some (.ref r), some (.ref p), some (vi g), some (.ref l), v, v']) ∧ Same H (upd H4 l (.lst (vl ((List.range i).filter fun b => !okB g gs qs b) ++ [V.int (i : Nat)]))) ∧ LN (upd H4 l (.lst (vl ((List.range i).filter fun b => !okB g gs qs b) ++ [V.int (i : Nat)]))) l ((List.range (i + 1)).filter fun b => !okB g gs qs b) := fun H4 s4 e => by
        refine ⟨hn2.mono s4, ?_, ⟨_, _, rfl⟩, (s2.trans s4).put hl, ?_⟩
        · rw [List.length_map]
          exact line2 (Nat.lt_of_le_of_lt (List.length_filter_le _ _) (by rw [List.length_range]; omega))
        · show upd _ l _ l = _
          rw [upd_same, List.range_succ, List.filter_append]
          simp only [List.filter_cons, e, List.filter_nil]
          simp
      refine ⟨_, rfl, _, rfl, _, rfl, c, p, gc, qs, g, rfl, hLc.mono s2, hp.mono s2, few gc (List.mem_of_getElem? hgc), fun H3 s3 => ⟨_, rfl, ?_⟩⟩
      cases ea : alone g gc qs with
      | false =>
        refine iteF (iteT ?_)
        have eo : okB g gs qs i = false := by unfold okB; rw [getD_of hgc, ea]; rfl
        obtain ⟨b1, b2, b3⟩ := bad H3 s3 eo
        exact ⟨_, rfl, .inl ⟨rfl, _, SqL.of b1⟩, _, rfl, l, _, _, rfl, rfl, b1, b2, b3⟩
      | true =>
        refine iteT ?_
        refine ⟨_, rfl, _, rfl, _, rfl, r, gs, i, g, rfl, ⟨as, (s2.trans s3) _ _ hr0, hg.mono (s2.trans s3)⟩, hlt, fun H4 s4 => ⟨_, rfl, ?_⟩⟩
        cases eb : beside g gs i with
        | true =>
          have eo : okB g gs qs i = true := by unfold okB; rw [getD_of hgc, ea, eb]; rfl
          exact iteF (step H4 (s3.trans s4) eo)
        | false =>
          have eo : okB g gs qs i = false := by unfold okB; rw [getD_of hgc, ea, eb]; rfl
          obtain ⟨b1, b2, b3⟩ := bad H4 (s3.trans s4) eo
          exact iteT ⟨_, rfl, .inl ⟨rfl, _, SqL.of b1⟩, _, rfl, l, _, _, rfl, rfl, b1, b2, b3⟩
    · rintro σ H1 ⟨⟨v, v', rfl⟩, s1, hn⟩
      rw [List.length_map, hg.length] at hn
      exact ⟨_, rfl, k H1 l s1 hl hn⟩

abbrev sAllFine : Stmt := top 10
theorem scAllFine : FnScope ["groups", "passed", "gap"] ["groups", "passed", "gap"] (defScope sAllFine) := ⟨rfl, rfl, rfl, by decide +kernel, rfl, by decide +kernel, by decide +kernel⟩
inductive spAllFine (vs : List V) (H : Hp) (Q : VK) (_E : XK) : Prop
  | mk (r p : Addr) (gs : List (List Nat)) (qs : List Nat) (g : Nat) (_ : vs = [.ref r, .ref p, vi g]) (_ : LLN H r gs) (_ : LN H p qs) (_ : gs.length ≤ 1000) (_ : (∀ x ∈ gs, x.length < 64)) (_ : ∀ H' : Hp, Same H H' → Q (.bl (badOf g gs qs).isEmpty) H') : spAllFine  vs H Q _E
theorem len0 (l : List Nat) : decide (V.int ((vl l).length : Nat) = V.int 0) = l.isEmpty := by
  cases l with
  | nil => rfl
  | cons a l => exact decide_eq_false fun q => by injection q with q; simp at q; omega
theorem ok_all_fine (F : FunIs K mg "all_fine" sAllFine) (T : TxtN mg) (G_bad_bobbins : Cal P w K mg base 4 "bad_bobbins" ["groups", "passed", "gap"] spBad) :
    Cal P w K mg base 5 "all_fine" ["groups", "passed", "gap"] spAllFine := by
  refine cal_mk F scAllFine (fun _ _ _ _ _ _ us hl => match us, hl with | [_, _, _], _ => rfl) (fun vs H Q E h => ?_) (fun f cdv A outer s H vs Q E hr h => ?_)
  · obtain ⟨r, p, gs, qs, g, rfl, _⟩ := h
    rfl
  · obtain ⟨r, p, gs, qs, g, rfl, hg, hp, hlen, few, k⟩ := h
    have nd := scAllFine.nd
    refine ⟨_, (pss_one (ps_ret (pe_cmpR op_eq (pe_callB (call_len_seqK (K := K) rfl) (by rfl) T.b_len bo_len (pa_cons (pcall G_bad_bobbins hr rfl (pa_cons (pv 0) (pa_cons (pv 1) (pa_cons (pv 2) pa_nil)))) pa_nil)) pe_int (nomark _)))), ?_⟩
    refine ⟨_, rfl, _, rfl, _, rfl, r, p, gs, qs, g, rfl, hg, hp, hlen, few, fun H1 l s1 hl hL => ⟨l, _, rfl, .inl hL.sq, rfl, ?_⟩⟩
    show Q (.bl (decide (V.int ((vl (badOf g gs qs)).length : Nat) = V.int 0))) H1
    rw [len0]
    exact k H1 s1
end
end LS

namespace LS
open PySem PySem.Spec PyProof.Rows L2
open Kp240 (Bobbin Machine)

structure TxtW (K : PySem.W.Frag) (mg : Str → Option Value) (CB : Addr) : Prop extends TxtB K mg CB where
  b_abs : mg "abs" = none
  b_len : mg "len" = none
  b_range : mg "range" = none
  b_enumerate : mg "enumerate" = none
  b_min : mg "min" = none
  g_MOST_CUT : ∃ t, mg "MOST_CUT" = some (.int 8 t)

/-- a list of lists of lists of numbers -/
inductive L3s (H : Hp) : List Addr → List (List (List Nat)) → Prop
  | nil : L3s H [] []
  | cons {a : Addr} {as : List Addr} {g : List (List Nat)} {gs : List (List (List Nat))} : LLN H a g → L3s H as gs → L3s H (a :: as) (g :: gs)
theorem L3s.mono {H H' : Hp} (s : Same H H') : ∀ {as gs}, L3s H as gs → L3s H' as gs
  | _, _, .nil => .nil
  | _, _, .cons h t => .cons (h.mono s) (L3s.mono s t)
theorem L3s.length {H : Hp} : ∀ {as gs}, L3s H as gs → as.length = gs.length
  | _, _, .nil => rfl
  | _, _, .cons _ t => congrArg (· + 1) (L3s.length t)
theorem L3s.get {H : Hp} : ∀ {as gs} {i : Nat} {g : List (List Nat)}, L3s H as gs → gs[i]? = some g → ∃ a, as[i]? = some a ∧ LLN H a g
  | _, _, _, _, .nil, h => by simp at h
  | _, _, 0, _, .cons h _, e => by simp at e; subst e; exact ⟨_, rfl, h⟩
  | _, _, i + 1, g, .cons _ t, e => L3s.get (i := i) t (by simpa using e)
theorem L3s.getA {H : Hp} : ∀ {as gs} {i : Nat} {a : Addr}, L3s H as gs → as[i]? = some a → ∃ g, gs[i]? = some g ∧ LLN H a g
  | _, _, _, _, .nil, h => by simp at h
  | _, _, 0, _, .cons h _, e => by simp at e; subst e; exact ⟨_, rfl, h⟩
  | _, _, i + 1, g, .cons _ t, e => L3s.getA (i := i) t (by simpa using e)
theorem L3s.snoc {H : Hp} {a : Addr} {g : List (List Nat)} (h : LLN H a g) : ∀ {as gs}, L3s H as gs → L3s H (as ++ [a]) (gs ++ [g])
  | _, _, .nil => .cons h .nil
  | _, _, .cons q t => .cons q (L3s.snoc h t)
def LL3 (H : Hp) (r : Addr) (gs : List (List (List Nat))) : Prop := ∃ as, H r = some (.lst (as.map V.ref)) ∧ L3s H as gs
theorem LL3.mono {H H' : Hp} {r : Addr} {gs : List (List (List Nat))} (h : LL3 H r gs) (s : Same H H') : LL3 H' r gs := let ⟨as, h1, h2⟩ := h; ⟨as, s _ _ h1, h2.mono s⟩

/-- what of H' is new to H -/
def New (H H' : Hp) : Hp := fun b => match H b with
  | none => H' b
  | some _ => none
theorem New.at {H H' : Hp} {b : Addr} (h : H b = none) : New H H' b = H' b := by unfold New; rw [h]
theorem New.no {H H' : Hp} {b : Addr} {o : HO} (h : H b = some o) : New H H' b = none := by unfold New; rw [h]
theorem New.of {H H' : Hp} {b : Addr} {o : HO} (h : New H H' b = some o) : H b = none ∧ H' b = some o := by
  cases e : H b with
  | none => rw [New.at e] at h; exact ⟨rfl, h⟩
  | some u => rw [New.no e] at h; cases h
theorem New.sub {H H' : Hp} : Same (New H H') H' := fun b o h => (New.of h).2
theorem New.step {H H1 H2 : Hp} (s : Same H1 H2) : Same (New H H1) (New H H2) := fun b o h => by
  obtain ⟨h1, h2⟩ := New.of h
  rw [New.at h1]
  exact s _ _ h2
theorem New.put {H H1 : Hp} {D : Addr} {o u : HO} (h : H D = some u) : New H (upd H1 D o) = New H H1 := by
  funext b
  by_cases e : b = D
  · subst e
    rw [New.no h, New.no h]
  · cases q : H b with
    | none => rw [New.at q, New.at q, upd_ne e]
    | some v => rw [New.no q, New.no q]
theorem New.weak {H H1 H2 : Hp} (s : Same H H1) : Same (New H1 H2) (New H H2) := fun b o h => by
  obtain ⟨h1, h2⟩ := New.of h
  rw [New.at (s.free h1)]
  exact h2
theorem New.dom {H H1 H2 : Hp} (s : ∀ b, H1 b = none → H b = none) : Same (New H1 H2) (New H H2) := fun b o h => by
  obtain ⟨h1, h2⟩ := New.of h
  rw [New.at (s b h1)]
  exact h2
theorem LN.new {H H' : Hp} {r : Addr} {l : List Nat} (h : H r = none) (q : LN H' r l) : LN (New H H') r l := by
  show New H H' r = _
  rw [New.at h]
  exact q

section
variable {P : Program} {w : World} {K : PySem.W.Frag} {mg : Str → Option Value} {base : Heap} {CB : Addr}

abbrev sOptionsOf : Stmt := top 13
theorem scOptionsOf : FnScope ["bobbin", "laid", "metres"] ["bobbin", "laid"] (defScope sOptionsOf) := ⟨rfl, rfl, rfl, by decide +kernel, rfl, by decide +kernel, by decide +kernel⟩
def optsOf (x : Bobbin) (laid : Nat) : List (List Nat) := (List.range (min 8 x.left + 1)).map fun n => placesCut x laid n
inductive spOptionsOf (CB : Addr) (vs : List V) (H : Hp) (Q : VK) (_E : XK) : Prop
  | mk (a j : Addr) (x : Bobbin) (laid : Nat) (_ : vs = [.ref a, vi laid]) (_ : BobAt CB H a x j) (_ : BobOk x) (_ : ∀ (H' : Hp) (r : Addr), Same H H' → LLN (New H H') r (optsOf x laid) → Q (.ref r) H') : spOptionsOf CB vs H Q _E
theorem min_eq (n : Nat) : (if (n : Int) < (8 : Int) then (n : Int) else 8) + 1 = ((min 8 n + 1 : Nat) : Int) := by
  split <;> omega
theorem ok_options_of (F : FunIs K mg "options_of" sOptionsOf) (T : TxtW K mg CB) (G_places_behind : Mth P w K mg base 2 CB "places_behind" ["self", "laid", "metres"] (spPlacesBehind CB)) :
    Cal P w K mg base 3 "options_of" ["bobbin", "laid"] (spOptionsOf CB) := by
  refine cal_mk F scOptionsOf (fun _ _ _ _ _ _ us hl => match us, hl with | [_, _], _ => rfl) (fun vs H Q E h => ?_) (fun f cdv A outer s H vs Q E hr h => ?_)
  · obtain ⟨a, j, x, laid, rfl, _⟩ := h
    rfl
  · obtain ⟨a, j, x, laid, rfl, B, ok, k⟩ := h
    have nd := scOptionsOf.nd
    obtain ⟨dx, hH⟩ := B.ins
    refine ⟨_, (pss_one (ps_ret (pe_lc rfl nd (pi_range1 rfl T.b_range (pa_cons (pe_op op_add (pe_callB (call_min2 rfl) (by rfl) T.b_min bo_min (pa_cons (pgi T.g_MOST_CUT) (pa_cons (pe_fldK (K := K) rfl (pv 0) rfl) pa_nil))) pe_int) pa_nil)) (blkOk_by (own := [("metres", 2)]) (by rfl)) (fun _ _ _ _ _ => (pg_name (i := 2) nd rfl (Or.inl rfl))) (fun _ _ _ _ _ => pts_nil) (fun _ _ _ _ _ => (pmeth G_places_behind hr (pv 0) (pa_cons (pv 1) (pa_cons (pv 2) pa_nil))))))), ?_⟩
    refine ⟨_, rfl, a, CB, dx, _, _, rfl, hH, T.cB, T.n_left, bob_left, _, _, rfl, _, _, rfl, rfl, _, rfl, ?_, ?_, fun D hD => ?_⟩
    · rw [min_eq]; omega
    · rw [min_eq]; have := ok.left; omega
    · rw [min_eq]
      refine lc_range (lo := 0) (n := _) (Qd := fun H' => Q (.ref D) H') (fun i H' => Same H H' ∧ ∃ as, H' D = some (.lst (as.map V.ref)) ∧ LLs (New (upd H D (.lst [])) H') as ((List.range i).map fun n => placesCut x laid n))
        ⟨Same.new hD, [], upd_same, .nil⟩ ?_ ?_
      · rintro i H1 hi ⟨s1, as, hd, hL⟩
        refine ⟨rfl, yesI ?_⟩
        refine ⟨_, rfl, a, dx, _, rfl, s1 _ _ hH, rfl, _, rfl, _, rfl, a, j, x, laid, i, (by simp), B.mono s1, ok, fun H2 r s2 hr2 hLr => ?_⟩
        have hrD : r ≠ D := fun e => by rw [e] at hr2; rw [hd] at hr2; cases hr2
        refine ⟨_, s2 _ _ hd, ?_, (s1.trans s2).put hD, as ++ [r], ?_, ?_⟩
        · rw [List.length_map, hL.length, List.length_map, List.length_range]
          exact line2 (by simp at hi; omega)
        · rw [upd_same, List.map_append]
          rfl
        · rw [List.range_succ, List.map_append, New.put (u := .lst []) upd_same]
          exact LLs.snoc (hLr.new (by rw [upd_ne hrD]; exact s1.free hr2)) (hL.mono (New.step s2))
      · rintro H1 ⟨s1, as, hd, hL⟩
        refine k H1 D s1 ⟨as, by rw [New.at hD]; exact hd, ?_⟩
        have := hL.mono (New.weak (Same.new hD))
        simpa [optsOf] using this

abbrev sCutsFine : Stmt := top 14
theorem scCutsFine : FnScope ["groups", "passed", "gap", "metres", "group"] ["groups", "passed", "gap"] (defScope sCutsFine) := ⟨rfl, rfl, rfl, by decide +kernel, rfl, by decide +kernel, by decide +kernel⟩
def cutsOf (g : Nat) (gs : List (List Nat)) (qs : List Nat) : List Nat := (List.range gs.length).filter fun n => alone g (gs.getD n []) qs
inductive spCutsFine (vs : List V) (H : Hp) (Q : VK) (_E : XK) : Prop
  | mk (r p : Addr) (gs : List (List Nat)) (qs : List Nat) (g : Nat) (_ : vs = [.ref r, .ref p, vi g]) (_ : LLN H r gs) (_ : LN H p qs) (_ : gs.length ≤ 1000) (_ : (∀ x ∈ gs, x.length < 64)) (_ : ∀ (H' : Hp) (l : Addr), Same H H' → H l = none → LN H' l (cutsOf g gs qs) → Q (.ref l) H') : spCutsFine  vs H Q _E
theorem ok_cuts_fine_alone (F : FunIs K mg "cuts_fine_alone" sCutsFine) (T : TxtW K mg CB) (G_fine_alone : Cal P w K mg base 3 "fine_alone" ["group", "passed", "gap"] spFineAlone) :
    Cal P w K mg base 4 "cuts_fine_alone" ["groups", "passed", "gap"] spCutsFine := by
  refine cal_mk F scCutsFine (fun _ _ _ _ _ _ us hl => match us, hl with | [_, _, _], _ => rfl) (fun vs H Q E h => ?_) (fun f cdv A outer s H vs Q E hr h => ?_)
  · obtain ⟨r, p, gs, qs, g, rfl, _⟩ := h
    rfl
  · obtain ⟨r, p, gs, qs, g, rfl, ⟨as, hr0, hg⟩, hp, hlen, few, k⟩ := h
    have nd := scCutsFine.nd
    refine ⟨_, (pss_one (ps_ret (pe_lc rfl nd (pi_enumK (K := K) rfl rfl T.b_enumerate (pa_cons (pv 0) pa_nil)) (blkOk_by (own := [("metres", 3), ("group", 4)]) (by rfl)) (fun _ _ _ _ _ => (pg_tupK (K := K) (n := 2) rfl rfl (pgs_cons (pg_name (i := 3) nd rfl (Or.inl rfl)) (pgs_cons (pg_name (i := 4) nd rfl (Or.inl rfl)) pgs_nil)))) (fun _ _ _ _ _ => (pts_one (pt_val (pcall G_fine_alone hr rfl (pa_cons (pv 4) (pa_cons (pv 1) (pa_cons (pv 2) pa_nil))))))) (fun _ _ _ _ _ => (pv 3))))), ?_⟩
    refine ⟨_, rfl, r, _, rfl, SqL.of hr0, fun D hD => ?_⟩
    refine lc_enum (K := K) (a := r) (xs := as.map V.ref) (Qd := fun H' => Q (.ref D) H') (fun i H' => Same H H' ∧ LN H' D ((List.range i).filter fun n => alone g (gs.getD n []) qs))
      ⟨Same.new hD, upd_same⟩ (fun i H' _ p => SqL.of (p.1 _ _ hr0)) ?_ ?_
    · rintro i y H1 T' hi ⟨s1, hn⟩ hT
      obtain ⟨c, hc, rfl⟩ := refs_get hi
      obtain ⟨gc, hgc, hLc⟩ := hg.getA hc
      have sT : Same H1 (upd H1 T' (.tup [.int (i : Nat), .ref c])) := Same.new hT
      have s2 : Same H (upd H1 T' (.tup [.int (i : Nat), .ref c])) := s1.add hT
      have hn2 := hn.mono sT
      have hlt : i < gs.length := (List.getElem?_eq_some_iff.mp hgc).1
      refine ⟨T', _, rfl, SqT.of upd_same, rfl, _, _, rfl, _, _, rfl, rfl, rfl, ?_⟩
      generalize upd H1 T' (.tup [.int (i : Nat), .ref c]) = H2 at s2 hn2 ⊢
      refine ⟨_, rfl, _, rfl, _, rfl, c, p, gc, qs, g, rfl, hLc.mono s2, hp.mono s2, few gc (List.mem_of_getElem? hgc), fun H3 s3 => ⟨_, rfl, ?_⟩⟩
      rw [List.range_succ, List.filter_append]
      cases ea : alone g gc qs with
      | false =>
        refine iteF ⟨s2.trans s3, ?_⟩
        have e : alone g (gs.getD i []) qs = false := by rw [getD_of hgc]; exact ea
        simp only [List.filter_cons, e, List.filter_nil]
        simp
        exact hn2.mono s3
      | true =>
        refine iteT ⟨_, rfl, _, hn2.mono s3, ?_, (s2.trans s3).put hD, ?_⟩
        · rw [List.length_map]
          exact line2 (Nat.lt_of_le_of_lt (List.length_filter_le _ _) (by rw [List.length_range]; omega))
        · have e : alone g (gs.getD i []) qs = true := by rw [getD_of hgc]; exact ea
          show upd _ D _ D = _
          rw [upd_same]
          simp only [List.filter_cons, e, List.filter_nil]
          simp
    · rintro H1 ⟨s1, hn⟩
      rw [List.length_map, hg.length] at hn
      exact k H1 D s1 hD hn
end
end LS

namespace LS
open PySem PySem.Spec PyProof.Rows L2
open Kp240 (Bobbin Machine)

def key (b m l n : Nat) : List Key := [Sum.inl (b : Int), Sum.inl (m : Int), Sum.inl (l : Int), Sum.inl (n : Int)]
theorem key_inj {b m l n b' m' l' n' : Nat} : key b m l n = key b' m' l' n' ↔ b = b' ∧ m = m' ∧ l = l' ∧ n = n' := by
  unfold key
  constructor
  · intro h
    simp at h
    omega
  · rintro ⟨rfl, rfl, rfl, rfl⟩
    rfl
/-- a dict that has just the keys of M -/
def DictAt (H : Hp) (d : Addr) (N : Nat) (M : Nat → Nat → Nat → Nat → Prop) : Prop := ∃ kvs, H d = some (.dT kvs) ∧ kvs.length ≤ N ∧ ∀ b m l n, (valV kvs (key b m l n)).isSome = true ↔ M b m l n
theorem DictAt.mono {H H' : Hp} {d : Addr} {N : Nat} {M : Nat → Nat → Nat → Nat → Prop} (h : DictAt H d N M) (s : Same H H') : DictAt H' d N M := let ⟨kvs, h1, h2⟩ := h; ⟨kvs, s _ _ h1, h2⟩
theorem DictAt.imp {H : Hp} {d : Addr} {N N' : Nat} {M M' : Nat → Nat → Nat → Nat → Prop} (h : DictAt H d N M) (hN : N ≤ N') (hM : ∀ b m l n, M b m l n ↔ M' b m l n) : DictAt H d N' M' :=
  let ⟨kvs, h1, h2, h3⟩ := h; ⟨kvs, h1, Nat.le_trans h2 hN, fun b m l n => (h3 b m l n).trans (hM b m l n)⟩
/-- of which pairs of cuts the two bobbins lie far enough apart -/
def agM (g : Nat) (O : List (List (List Nat))) (S : List (List Nat)) (b m l n : Nat) : Prop :=
  m ∈ S.getD b [] ∧ n ∈ S.getD l [] ∧ far g ((O.getD b []).getD m []) ((O.getD l []).getD n []) = true
structure OptOk (O : List (List (List Nat))) (S : List (List Nat)) : Prop where
  len : S.length = O.length
  four : O.length ≤ 4
  ten : ∀ s ∈ S, s.length ≤ 10
  has : ∀ b s m, S[b]? = some s → m ∈ s → m < (O.getD b []).length

section
variable {P : Program} {w : World} {K : PySem.W.Frag} {mg : Str → Option Value} {base : Heap} {CB : Addr}

abbrev sAgreeing : Stmt := top 15
theorem scAgreeing : FnScope ["options", "single", "gap", "agreeing", "later", "b", "metres", "more"] ["options", "single", "gap"] (defScope sAgreeing) := ⟨rfl, rfl, rfl, by decide +kernel, rfl, by decide +kernel, by decide +kernel⟩
inductive spAgreeing (vs : List V) (H : Hp) (Q : VK) (_E : XK) : Prop
  | mk (ro rs : Addr) (O : List (List (List Nat))) (S : List (List Nat)) (g : Nat) (_ : vs = [.ref ro, .ref rs, vi g]) (_ : LL3 H ro O) (_ : LLN H rs S) (_ : OptOk O S) (_ : ∀ (H' : Hp) (d : Addr), Same H H' → H d = none → DictAt H' d 5000 (fun b m l n => b < l ∧ l < O.length ∧ agM g O S b m l n) → Q (.ref d) H') : spAgreeing  vs H Q _E
theorem mem_take {α : Type} {l : List α} {i : Nat} {x y : α} (h : l[i]? = some x) : y ∈ l.take (i + 1) ↔ y ∈ l.take i ∨ y = x := by
  rw [take_snoc h, List.mem_append, List.mem_singleton]
theorem ok_agreeing_cuts (F : FunIs K mg "agreeing_cuts" sAgreeing) (T : TxtW K mg CB) (G_apart : Cal P w K mg base 1 "apart" ["places", "others", "gap"] spApart) :
    Cal P w K mg base 2 "agreeing_cuts" ["options", "single", "gap"] spAgreeing := by
  refine cal_mk F scAgreeing (fun _ _ _ _ _ _ us hl => match us, hl with | [_, _, _], _ => rfl) (fun vs H Q E h => ?_) (fun f cdv A outer s H vs Q E hr h => ?_)
  · obtain ⟨ro, rs, O, S, g, rfl, _⟩ := h
    rfl
  · obtain ⟨ro, rs, O, S, g, rfl, ⟨ao, ho, hO⟩, ⟨as, hs, hS⟩, ok, k⟩ := h
    have nd := scAgreeing.nd
    have hu := hu_of hr
    have lenO := hO.length
    have four := ok.four
    refine ⟨_, (pss_cons (ps_set (i := 3) nd rfl (Or.inl rfl) pe_dnewT)
      (pss_cons (ps_for PassesOwn.never rfl (pi_range1 rfl T.b_range (pa_cons (pe_callB (call_len_seqK (K := K) rfl) (by rfl) T.b_len bo_len (pa_cons (pv 0) pa_nil)) pa_nil)) (pg_name (i := 4) nd rfl (Or.inl rfl)) (pss_one (ps_for PassesOwn.never rfl (pi_range1 rfl T.b_range (pa_cons (pv 4) pa_nil)) (pg_name (i := 5) nd rfl (Or.inl rfl)) (pss_one (ps_for PassesOwn.never rfl (pi_listK (K := K) rfl (pe_ix (ix_listK (K := K) rfl) (pv 1) (pv 5) (fun _ _ => rfl))) (pg_name (i := 6) nd rfl (Or.inl rfl)) (pss_one (ps_for PassesOwn.never rfl (pi_listK (K := K) rfl (pe_ix (ix_listK (K := K) rfl) (pv 1) (pv 4) (fun _ _ => rfl))) (pg_name (i := 7) nd rfl (Or.inl rfl)) (pss_one (ps_if (pt_val (pcall G_apart hr rfl (pa_cons (pe_ix (ix_listK (K := K) rfl) (pe_ix (ix_listK (K := K) rfl) (pv 0) (pv 5) (fun _ _ => rfl)) (pv 6) (fun _ _ => rfl)) (pa_cons (pe_ix (ix_listK (K := K) rfl) (pe_ix (ix_listK (K := K) rfl) (pv 0) (pv 4) (fun _ _ => rfl)) (pv 7) (fun _ _ => rfl)) (pa_cons (pv 2) pa_nil))))) (pss_one (ps_dput hu (pv 3) (pe_tup (pa_cons (pv 5) (pa_cons (pv 6) (pa_cons (pv 4) (pa_cons (pv 7) pa_nil))))) pe_bl rfl)) pss_nil)))))))))
      (pss_one (ps_ret (pv 3))))), ?_⟩
    intro d hd
    have s0 : Same H (upd H d (.dT [])) := Same.new hd
    refine ⟨_, rfl, ro, _, rfl, .inl (SqL.of (s0 _ _ ho)), _, rfl, by rw [List.length_map]; omega, by rw [List.length_map]; omega, ?_⟩
    refine for_range (lo := 0) (fun L σ H' => (∃ v4 v5 v6 v7 : Option V, σ = [some (.ref ro), some (.ref rs), some (vi g), some (.ref d), v4, v5, v6, v7]) ∧ Same H H' ∧ DictAt H' d (L * 1000) (fun b m l n => b < l ∧ l < L ∧ agM g O S b m l n))
      ⟨⟨_, _, _, _, rfl⟩, s0, [], upd_same, Nat.zero_le _, fun b m l n => ⟨fun h => (by cases h), fun h => (by omega)⟩⟩ ?_ ?_
    · rintro L σ H1 hL ⟨⟨v4, v5, v6, v7, rfl⟩, s1, hD1⟩
      simp only [List.length_map, Int.toNat_natCast, lenO] at hL
      obtain ⟨SL, hSL⟩ : ∃ x, S[L]? = some x := ⟨_, List.getElem?_eq_getElem (by rw [ok.len]; exact hL)⟩
      obtain ⟨OL, hOL⟩ : ∃ x, O[L]? = some x := ⟨_, List.getElem?_eq_getElem hL⟩
      obtain ⟨aSL, haSL, hLSL⟩ := hS.get hSL
      obtain ⟨aOL, haOL, aos, hLOL, hLOLs⟩ := hO.get hOL
      have tenL := ok.ten SL (List.mem_of_getElem? hSL)
      refine ⟨_, rfl, _, rfl, by omega, by omega, ?_⟩
      refine for_range (lo := 0) (fun B σ H' => (∃ v5 v6 v7 : Option V, σ = [some (.ref ro), some (.ref rs), some (vi g), some (.ref d), some (.int (0 + (L : Nat))), v5, v6, v7]) ∧ Same H H' ∧ DictAt H' d (L * 1000 + B * 100) (fun b m l n => b < l ∧ (l < L ∨ (l = L ∧ b < B)) ∧ agM g O S b m l n))
        ⟨⟨_, _, _, rfl⟩, s1, hD1.imp (by omega) fun b m l n => ⟨fun h => ⟨h.1, .inl h.2.1, h.2.2⟩, fun h => ⟨h.1, by omega, h.2.2⟩⟩⟩ ?_ ?_
      · rintro B σ H2 hB ⟨⟨v5, v6, v7, rfl⟩, s2, hD2⟩
        have hBL : B < L := by omega
        obtain ⟨SB, hSB⟩ : ∃ x, S[B]? = some x := ⟨_, List.getElem?_eq_getElem (by rw [ok.len]; omega)⟩
        obtain ⟨OB, hOB⟩ : ∃ x, O[B]? = some x := ⟨_, List.getElem?_eq_getElem (by omega)⟩
        obtain ⟨aSB, haSB, hLSB⟩ := hS.get hSB
        obtain ⟨aOB, haOB, aos', hLOB, hLOBs⟩ := hO.get hOB
        have tenB := ok.ten SB (List.mem_of_getElem? hSB)
        refine ⟨_, rfl, _, rfl, rs, _, _, .ref aSB, rfl, rfl, SqL.of (s2 _ _ hs), at_of (j := B) (by omega) (by rw [List.getElem?_map, haSB]; rfl), aSB, rfl, ⟨_, (hLSB.mono s2).sq⟩, ?_⟩
        refine for_list (K := K) (a := aSB) (xs := vl SB) (fun i σ H' => (∃ v6 v7 : Option V, σ = [some (.ref ro), some (.ref rs), some (vi g), some (.ref d), some (.int (0 + (L : Nat))), some (.int (0 + (B : Nat))), v6, v7]) ∧ Same H H' ∧
            DictAt H' d (L * 1000 + B * 100 + i * 10) (fun b m l n => (b < l ∧ (l < L ∨ (l = L ∧ b < B)) ∧ agM g O S b m l n) ∨ (l = L ∧ b = B ∧ m ∈ SB.take i ∧ agM g O S b m l n)))
          ⟨⟨_, _, rfl⟩, s2, hD2.imp (by omega) fun b m l n => ⟨fun h => .inl h, fun h => h.elim id fun h => by simp at h⟩⟩ (fun i σ H' _ p => (hLSB.mono p.2.1).sq) ?_ ?_
        · rintro i y σ H3 hi ⟨⟨v6, v7, rfl⟩, s3, hD3⟩
          obtain ⟨mi, hmi, rfl⟩ := vl_get hi
          have hi' : i < SB.length := (List.getElem?_eq_some_iff.mp hmi).1
          have hmO := ok.has B SB mi hSB (List.mem_of_getElem? hmi)
          rw [getD_of hOB] at hmO
          obtain ⟨gB, hgB⟩ : ∃ x, OB[mi]? = some x := ⟨_, List.getElem?_eq_getElem hmO⟩
          obtain ⟨agB, hagB, hLgB⟩ := hLOBs.get hgB
          refine ⟨_, rfl, _, rfl, rs, _, _, .ref aSL, rfl, rfl, SqL.of (s3 _ _ hs), at_of (j := L) (by omega) (by rw [List.getElem?_map, haSL]; rfl), aSL, rfl, ⟨_, (hLSL.mono s3).sq⟩, ?_⟩
          refine for_list (K := K) (a := aSL) (xs := vl SL) (fun j σ H' => (∃ v7 : Option V, σ = [some (.ref ro), some (.ref rs), some (vi g), some (.ref d), some (.int (0 + (L : Nat))), some (.int (0 + (B : Nat))), some (vi mi), v7]) ∧ Same H H' ∧
              DictAt H' d (L * 1000 + B * 100 + i * 10 + j) (fun b m l n => ((b < l ∧ (l < L ∨ (l = L ∧ b < B)) ∧ agM g O S b m l n) ∨ (l = L ∧ b = B ∧ m ∈ SB.take i ∧ agM g O S b m l n)) ∨ (l = L ∧ b = B ∧ m = mi ∧ n ∈ SL.take j ∧ agM g O S b m l n)))
            ⟨⟨_, rfl⟩, s3, hD3.imp (by omega) fun b m l n => ⟨fun h => .inl h, fun h => h.elim id fun h => by simp at h⟩⟩ (fun i σ H' _ p => (hLSL.mono p.2.1).sq) ?_ ?_
          · rintro j y σ H4 hj ⟨⟨v7, rfl⟩, s4, hD4⟩
            obtain ⟨nj, hnj, rfl⟩ := vl_get hj
            have hj' : j < SL.length := (List.getElem?_eq_some_iff.mp hnj).1
            have hnO := ok.has L SL nj hSL (List.mem_of_getElem? hnj)
            rw [getD_of hOL] at hnO
            obtain ⟨gL, hgL⟩ : ∃ x, OL[nj]? = some x := ⟨_, List.getElem?_eq_getElem hnO⟩
            obtain ⟨agL, hagL, hLgL⟩ := hLOLs.get hgL
            refine ⟨_, rfl, _, rfl, ro, _, _, .ref aOB, rfl, rfl, SqL.of (s4 _ _ ho), at_of (j := B) (by omega) (by rw [List.getElem?_map, haOB]; rfl), _, rfl, aOB, _, _, .ref agB, rfl, rfl, SqL.of (s4 _ _ hLOB), atI_nat (by rw [List.getElem?_map, hagB]; rfl),
              _, rfl, _, rfl, ro, _, _, .ref aOL, rfl, rfl, SqL.of (s4 _ _ ho), at_of (j := L) (by omega) (by rw [List.getElem?_map, haOL]; rfl), _, rfl, aOL, _, _, .ref agL, rfl, rfl, SqL.of (s4 _ _ hLOL), atI_nat (by rw [List.getElem?_map, hagL]; rfl), _, rfl,
              agB, agL, gB, gL, g, rfl, hLgB.mono s4, hLgL.mono s4, _, rfl, ?_⟩
            have eB : (O.getD B []).getD mi [] = gB := by rw [getD_of hOB, getD_of hgB]
            have eL : (O.getD L []).getD nj [] = gL := by rw [getD_of hOL, getD_of hgL]
            cases ef : far g gB gL with
            | false =>
              refine iteF ⟨⟨_, rfl⟩, s4, hD4.imp (by omega) fun b m l n => or_congr Iff.rfl ?_⟩
              rw [mem_take hnj]
              constructor
              · rintro ⟨h1, h2, h3, h4, h5⟩
                exact ⟨h1, h2, h3, .inl h4, h5⟩
              · rintro ⟨h1, h2, h3, h4 | h4, h5⟩
                · exact ⟨h1, h2, h3, h4, h5⟩
                · exfalso
                  subst h1 h2 h3 h4
                  have := h5.2.2
                  rw [eB, eL, ef] at this
                  cases this
            | true =>
              refine iteT ?_
              refine ⟨_, rfl, _, rfl, _, rfl, _, rfl, _, rfl, (by show 4 ≤ sizeLine; decide), fun p hp => ?_⟩
              obtain ⟨kvs, hk1, hk2, hk3⟩ := hD4
              have sp : Same H4 (upd H4 p (.tup [.int (0 + (B : Nat)), vi mi, .int (0 + (L : Nat)), vi nj])) := Same.new hp
              have hkl : kvs.length ≤ 100000 := by omega
              refine ⟨d, _, rfl, DPut.t (k := key B mi L nj) (sp _ _ hk1) (by rw [upd_same]; simp [key, kV]) (line2 (by omega)), ?_⟩
              refine ⟨⟨_, rfl⟩, (s4.trans sp).put hd, _, upd_same, Nat.le_trans (length_putK _ _ _) (by omega), fun b m l n => ?_⟩
              rw [valV_put]
              dsimp only
              rw [mem_take hnj]
              by_cases e : key b m l n = key B mi L nj
              · rw [if_pos e]
                obtain ⟨rfl, rfl, rfl, rfl⟩ := key_inj.mp e
                refine ⟨fun _ => .inr ⟨rfl, rfl, rfl, .inr rfl, ?_, ?_, ?_⟩, fun _ => rfl⟩
                · rw [getD_of hSB]; exact List.mem_of_getElem? hmi
                · rw [getD_of hSL]; exact List.mem_of_getElem? hnj
                · rw [eB, eL]; exact ef
              · rw [if_neg e, hk3]
                dsimp only
                refine or_congr Iff.rfl ⟨fun ⟨h1, h2, h3, h4, h5⟩ => ⟨h1, h2, h3, .inl h4, h5⟩, ?_⟩
                rintro ⟨h1, h2, h3, h4 | h4, h5⟩
                · exact ⟨h1, h2, h3, h4, h5⟩
                · exact absurd (key_inj.mpr ⟨h2, h3, h1, h4⟩) e
          · rintro σ H4 ⟨⟨v7, rfl⟩, s4, hD4⟩
            rw [List.length_map, List.take_length] at hD4
            refine ⟨⟨_, _, rfl⟩, s4, hD4.imp (by omega) fun b m l n => ?_⟩
            rw [mem_take hmi]
            constructor
            · rintro ((h | ⟨h1, h2, h3, h4⟩) | ⟨h1, h2, h3, h4, h5⟩)
              · exact .inl h
              · exact .inr ⟨h1, h2, .inl h3, h4⟩
              · exact .inr ⟨h1, h2, .inr h3, h5⟩
            · rintro (h | ⟨h1, h2, h3 | h3, h4⟩)
              · exact .inl (.inl h)
              · exact .inl (.inr ⟨h1, h2, h3, h4⟩)
              · refine .inr ⟨h1, h2, h3, ?_, h4⟩
                have := h4.2.1
                rw [h1, getD_of hSL] at this
                exact this
        · rintro σ H3 ⟨⟨v6, v7, rfl⟩, s3, hD3⟩
          rw [List.length_map, List.take_length] at hD3
          refine ⟨⟨_, _, _, rfl⟩, s3, hD3.imp (by omega) fun b m l n => ?_⟩
          constructor
          · rintro (⟨h1, h2, h3⟩ | ⟨h1, h2, h3, h4⟩)
            · exact ⟨h1, by omega, h3⟩
            · exact ⟨by omega, by omega, h4⟩
          · rintro ⟨h1, h2, h3⟩
            by_cases e : l = L ∧ b = B
            · refine .inr ⟨e.1, e.2, ?_, h3⟩
              have := h3.1
              rw [e.2, getD_of hSB] at this
              exact this
            · exact .inl ⟨h1, by omega, h3⟩
      · rintro σ H2 ⟨⟨v5, v6, v7, rfl⟩, s2, hD2⟩
        refine ⟨⟨_, _, _, _, rfl⟩, s2, hD2.imp (by omega) fun b m l n => ⟨fun h => ⟨h.1, by omega, h.2.2⟩, fun h => ⟨h.1, by omega, h.2.2⟩⟩⟩
    · rintro σ H1 ⟨⟨v4, v5, v6, v7, rfl⟩, s1, hD1⟩
      refine ⟨_, rfl, k H1 d s1 hd (hD1.imp ?_ fun b m l n => ?_)⟩
      · simp only [List.length_map, Int.toNat_natCast, lenO]; omega
      · simp only [List.length_map, Int.toNat_natCast, lenO]

abbrev sAgrees : Stmt := top 16
theorem scAgrees : FnScope ["agreeing", "chosen", "metres", "b", "taken"] ["agreeing", "chosen", "metres"] (defScope sAgrees) := ⟨rfl, rfl, rfl, by decide +kernel, rfl, by decide +kernel, by decide +kernel⟩
def agr (M : Nat → Nat → Nat → Nat → Bool) (w : List Nat) (n : Nat) : Bool := (List.range w.length).all fun b => M b (w.getD b 0) w.length n
inductive spAgrees (vs : List V) (H : Hp) (Q : VK) (_E : XK) : Prop
  | mk (d c : Addr) (w : List Nat) (n N : Nat) (M : Nat → Nat → Nat → Nat → Bool) (_ : vs = [.ref d, .ref c, vi n]) (_ : DictAt H d N (fun b m l n => M b m l n = true)) (_ : LN H c w) (_ : ∀ H' : Hp, Same H H' → Q (.bl (agr M w n)) H') : spAgrees  vs H Q _E
theorem ok_agrees (F : FunIs K mg "agrees" sAgrees) (T : TxtW K mg CB) : Cal P w K mg base 1 "agrees" ["agreeing", "chosen", "metres"] spAgrees := by
  refine cal_mk F scAgrees (fun _ _ _ _ _ _ us hl => match us, hl with | [_, _, _], _ => rfl) (fun vs H Q E h => ?_) (fun f cdv A outer s H vs Q E hr h => ?_)
  · obtain ⟨d, c, w, n, N, M, rfl, _⟩ := h
    rfl
  · obtain ⟨d, c, w, n, N, M, rfl, ⟨kvs, hd, _, hk⟩, hw, k⟩ := h
    have nd := scAgrees.nd
    have hu := hu_of hr
    refine ⟨_, (pss_cons (ps_for PassesOwn.never rfl (pi_enumK (K := K) rfl rfl T.b_enumerate (pa_cons (pv 1) pa_nil)) (pg_tupK (K := K) (n := 2) rfl rfl (pgs_cons (pg_name (i := 3) nd rfl (Or.inl rfl)) (pgs_cons (pg_name (i := 4) nd rfl (Or.inl rfl)) pgs_nil))) (pss_one (ps_if (pt_cmp (pc_dnotin hu (pe_tup (pa_cons (pv 3) (pa_cons (pv 4) (pa_cons (pe_callB (call_len_seqK (K := K) rfl) (by rfl) T.b_len bo_len (pa_cons (pv 1) pa_nil)) (pa_cons (pv 2) pa_nil))))) (pv 0))) (pss_one (ps_ret pe_bl)) pss_nil)))
      (pss_one (ps_ret pe_bl))), ?_⟩
    refine ⟨_, rfl, c, _, rfl, hw.sq, for_enum (K := K) (a := c) (xs := vl w) (fun i σ H' => (∃ v v' : Option V, σ = [some (.ref d), some (.ref c), some (vi n), v, v']) ∧ Same H H' ∧ ∀ o, o < i → M o (w.getD o 0) w.length n = true)
      ⟨⟨none, none, rfl⟩, Same.rfl', fun o ho => absurd ho (by omega)⟩ (fun i σ H' _ p => (hw.mono p.2.1).sq) ?_ ?_⟩
    · rintro i y σ H1 T' hi ⟨⟨v, v', rfl⟩, s1, hn⟩ hT
      obtain ⟨m, hm, rfl⟩ := vl_get hi
      have s2 : Same H (upd H1 T' (.tup [.int (i : Nat), vi m])) := s1.add hT
      have hlt : i < w.length := (List.getElem?_eq_some_iff.mp hm).1
      refine ⟨T', _, rfl, SqT.of upd_same, rfl, _, _, rfl, _, _, rfl, rfl, ?_⟩
      generalize upd H1 T' (.tup [.int (i : Nat), vi m]) = H2 at s2 ⊢
      refine ⟨_, rfl, _, rfl, _, rfl, c, _, rfl, .inl (hw.mono s2).sq, _, rfl, (by show 4 ≤ sizeLine; decide), fun p hp => ?_⟩
      have s3 : Same H (upd H2 p (.tup [.int (i : Nat), vi m, .int ((vl w).length : Nat), vi n])) := s2.add hp
      refine ⟨_, rfl, d, _, rfl, DGet.t (k := key i m w.length n) (s3 _ _ hd) (by rw [upd_same]; simp [key, kV]), _, rfl, ?_⟩
      have k1 := k _ s3
      generalize upd H2 p (.tup [.int (i : Nat), vi m, .int ((vl w).length : Nat), vi n]) = H3 at s3 k1 ⊢
      cases e : M i m w.length n with
      | true =>
        have e1 : (valV kvs (key i m w.length n)).isSome = true := (hk _ _ _ _).mpr e
        rw [e1]
        refine iteF ⟨⟨_, _, rfl⟩, s3, fun o ho => ?_⟩
        by_cases eo : o = i
        · rw [eo, getD_of hm]
          exact e
        · exact hn o (by omega)
      | false =>
        have e1 : (valV kvs (key i m w.length n)).isSome = false := by
          cases q : (valV kvs (key i m w.length n)).isSome with
          | false => rfl
          | true =>
            have : M i m w.length n = true := (hk _ _ _ _).mp q
            rw [e] at this
            cases this
        rw [e1]
        refine iteT ?_
        have e2 : agr M w n = false := all_false (x := i) (List.mem_range.mpr hlt) (by rw [getD_of hm]; exact e)
        rw [e2] at k1
        exact k1
    · rintro σ H1 ⟨⟨v, v', rfl⟩, s1, hn⟩
      rw [List.length_map] at hn
      have k1 := k _ s1
      have e2 : agr M w n = true := List.all_eq_true.mpr fun o ho => hn o (List.mem_range.mp ho)
      rw [e2] at k1
      exact k1
end
end LS

namespace LS
open PySem PySem.Spec PyProof.Rows L2
open Kp240 (Bobbin Machine)

/-- the first way that begins as w and cuts rest of the bobbins behind -/
def wot (M : Nat → Nat → Nat → Nat → Bool) : List (List Nat) → List Nat → Nat → Option (List Nat)
  | [], w, rest => if rest = 0 then some w else none
  | s :: more, w, rest => s.findSome? fun n => if (rest ≤ n + 8 * more.length ∧ n ≤ rest) ∧ agr M w n = true then wot M more (w ++ [n]) (rest - n) else none
theorem find_hit {α β : Type} {f : α → Option β} : ∀ {l : List α} {i : Nat} {x : α} {r : β}, (l.take i).findSome? f = none → l[i]? = some x → f x = some r → l.findSome? f = some r
  | [], i, x, r, _, h, _ => by simp at h
  | a :: l, 0, x, r, _, h, e => by
    simp at h
    subst h
    simp [e]
  | a :: l, i + 1, x, r, hn, h, e => by
    simp only [List.take_succ_cons, List.findSome?_cons] at hn ⊢
    cases q : f a with
    | some y => rw [q] at hn; cases hn
    | none =>
      rw [q] at hn
      exact find_hit hn (by simpa using h) e
theorem find_step {α β : Type} {f : α → Option β} {l : List α} {i : Nat} {x : α} (hn : (l.take i).findSome? f = none) (h : l[i]? = some x) (e : f x = none) : (l.take (i + 1)).findSome? f = none := by
  rw [take_snoc h, List.findSome?_append, hn]
  simp [e]
theorem drop_get {α : Type} {l : List α} {i : Nat} {x : α} (h : l[i]? = some x) : l.drop i = x :: l.drop (i + 1) := by
  obtain ⟨h1, rfl⟩ := List.getElem?_eq_some_iff.mp h
  exact List.drop_eq_getElem_cons h1

section
variable {P : Program} {w : World} {K : PySem.W.Frag} {mg : Str → Option Value} {base : Heap} {CB : Addr}
theorem cal_never {x : Str} {st : Stmt} {ps : List Str} {k : Nat} (F : FunIs K mg x st)
    (hb : ∀ (kV doc pm : Value) (an : Option Addr) (cdv ct : Value) (us : List Value), us.length = ps.length → bindArgs (PySem.W.fnOf x x (defArgs st) (defBody st) (defScope st) .none kV doc pm an cdv ct) ⟨us, []⟩ = pure (ps.zip us)) :
    Cal P w K mg base k x ps (fun _ _ _ _ => False) := by
  obtain ⟨f, fd, h, F⟩ := F
  exact ⟨f, fd, ⟨fun _ _ _ _ z => z.elim, fun _ _ _ _ _ _ _ _ _ _ _ _ _ z => z.elim⟩, h, F.kp, F.binds hb⟩

abbrev sWot : Stmt := top 17
theorem scWot : FnScope ["single", "agreeing", "chosen", "rest", "b", "room_behind", "metres", "way"] ["single", "agreeing", "chosen", "rest"] (defScope sWot) := ⟨rfl, rfl, rfl, by decide +kernel, rfl, by decide +kernel, by decide +kernel⟩
inductive spWot (n : Nat) (vs : List V) (H : Hp) (Q : VK) (_E : XK) : Prop
  | mk (rs d c : Addr) (S : List (List Nat)) (w : List Nat) (N rest : Nat) (M : Nat → Nat → Nat → Nat → Bool) (z : Int) (_ : vs = [.ref rs, .ref d, .ref c, .int z]) (_ : z = (rest : Int)) (_ : LLN H rs S) (_ : DictAt H d N (fun b m l n => M b m l n = true)) (_ : LN H c w) (_ : S.length = w.length + n) (_ : S.length ≤ 1000) (_ : (∀ H' : Hp, Same H H' → wot M (S.drop w.length) w rest = none → Q .non H')) (_ : (∀ (H' : Hp) (a : Addr) (r : List Nat), Same H H' → wot M (S.drop w.length) w rest = some r → LN H' a r → Q (.ref a) H')) : spWot n vs H Q _E
def spRec : Nat → Sp
  | 0 => fun _ _ _ _ => False
  | n + 1 => spWot n
theorem eqI (a b : Nat) : decide (V.int (a : Int) = V.int (b : Int)) = decide (a = b) := by
  by_cases e : a = b
  · subst e; simp
  · rw [decide_eq_false e, decide_eq_false (fun q => e (by injection q with q; omega))]
theorem wot_step {n : Nat} (F : FunIs K mg "way_of_total" sWot) (T : TxtW K mg CB) (G_agrees : Cal P w K mg base 1 "agrees" ["agreeing", "chosen", "metres"] spAgrees) (G_way_of_total : Cal P w K mg base (n + 1) "way_of_total" ["single", "agreeing", "chosen", "rest"] (spRec n)) :
    Cal P w K mg base (n + 2) "way_of_total" ["single", "agreeing", "chosen", "rest"] (spWot n) := by
  refine cal_mk F scWot (fun _ _ _ _ _ _ us hl => match us, hl with | [_, _, _, _], _ => rfl) (fun vs H Q E h => ?_) (fun f cdv A outer s H vs Q E hr h => ?_)
  · obtain ⟨rs, d, c, S, w, N, rest, M, z, rfl, _⟩ := h
    rfl
  · obtain ⟨rs, d, c, S, w, N, rest, M, z, rfl, rfl, ⟨as, hs, hS⟩, hd, hw, hlen, hsm, kn, ks⟩ := h
    have nd := scWot.nd
    have lenS := hS.length
    refine ⟨_, (pss_cons (ps_set (i := 4) nd rfl (Or.inl rfl) (pe_callB (call_len_seqK (K := K) rfl) (by rfl) T.b_len bo_len (pa_cons (pv 2) pa_nil)))
      (pss_cons (ps_if (pt_cmpR op_eq (pv 4) (pe_callB (call_len_seqK (K := K) rfl) (by rfl) T.b_len bo_len (pa_cons (pv 0) pa_nil)) (nomark _)) (pss_one (ps_ret (pe_ifExp (pt_cmpR op_eq (pv 3) pe_int (nomark _)) (pv 2) pe_non))) pss_nil)
      (pss_cons (ps_set (i := 5) nd rfl (Or.inl rfl) (pe_op op_mul (pgi T.g_MOST_CUT) (pe_op op_sub (pe_op op_sub (pe_callB (call_len_seqK (K := K) rfl) (by rfl) T.b_len bo_len (pa_cons (pv 0) pa_nil)) (pv 4)) pe_int)))
      (pss_cons (ps_for PassesOwn.never rfl (pi_listK (K := K) rfl (pe_ix (ix_listK (K := K) rfl) (pv 0) (pv 4) (fun _ _ => rfl))) (pg_name (i := 6) nd rfl (Or.inl rfl)) (pss_one (ps_if (PW.pt (pw_and (pt_chain op_le op_le (pe_op op_sub (pv 3) (pv 5)) (pv 6) (pv 3)) (pw_and1 (pt_val (pcall G_agrees hr rfl (pa_cons (pv 1) (pa_cons (pv 2) (pa_cons (pv 6) pa_nil)))))))) (pss_cons (ps_set (i := 7) nd rfl (Or.inl rfl) (pcall G_way_of_total hr rfl (pa_cons (pv 0) (pa_cons (pv 1) (pa_cons (pe_op op_cat (pv 2) (pe_lst (pa_cons (pv 6) pa_nil))) (pa_cons (pe_op op_sub (pv 3) (pv 6)) pa_nil))))))
      (pss_one (ps_if (pt_cmpR op_notN (pv 7) pe_non (nomark _)) (pss_one (ps_ret (pv 7))) pss_nil))) pss_nil)))
      (pss_one (ps_ret pe_non)))))), ?_⟩
    refine ⟨_, rfl, c, _, rfl, .inl hw.sq, ?_⟩
    refine ⟨_, rfl, _, rfl, rs, _, rfl, .inl (SqL.of hs), rfl, _, rfl, ?_⟩
    show if decide (V.int ((vl w).length : Nat) = V.int ((as.map V.ref).length : Nat)) = true then _ else _
    rw [eqI, List.length_map, List.length_map, lenS]
    by_cases h0 : w.length = S.length
    · rw [decide_eq_true h0]
      refine iteT ?_
      refine ⟨_, rfl, rfl, _, rfl, ?_⟩
      show if decide (V.int (rest : Int) = V.int ((0 : Nat) : Int)) = true then _ else _
      rw [eqI]
      have e0 : S.drop w.length = [] := List.drop_eq_nil_of_le (by omega)
      rw [e0] at kn ks
      by_cases r0 : rest = 0
      · rw [decide_eq_true r0]
        refine iteT ⟨_, rfl, ks H c w Same.rfl' (by unfold wot; rw [if_pos r0]) hw⟩
      · rw [decide_eq_false r0]
        exact iteF (kn H Same.rfl' (by unfold wot; rw [if_neg r0]))
    · rw [decide_eq_false h0]
      refine iteF ?_
      cases n with
      | zero => exact absurd hlen.symm h0
      | succ n =>
        have hlt : w.length < S.length := by omega
        obtain ⟨SB, hSB⟩ : ∃ x, S[w.length]? = some x := ⟨_, List.getElem?_eq_getElem hlt⟩
        obtain ⟨aSB, haSB, hLSB⟩ := hS.get hSB
        rw [drop_get hSB] at kn ks
        have lenD : (S.drop (w.length + 1)).length = n := by rw [List.length_drop]; omega
        refine ⟨_, rfl, rs, _, rfl, .inl (SqL.of hs), _, rfl, _, _, rfl, rfl, _, _, rfl, rfl, _, _, rfl, rfl, .inl ⟨by decide, by decide⟩, ?_⟩
        have eroom : (8 : Int) * (((as.map V.ref).length : Nat) - (w.length : Nat) - 1) = ((8 * n : Nat) : Int) := by
          rw [List.length_map, lenS]; omega
        refine ⟨_, rfl, _, rfl, rs, _, _, .ref aSB, rfl, rfl, SqL.of hs, at_of (j := w.length) rfl (by rw [List.getElem?_map, haSB]; rfl), aSB, rfl, ⟨_, hLSB.sq⟩, ?_⟩
        let f : Nat → Option (List Nat) := fun n' => if (rest ≤ n' + 8 * (S.drop (w.length + 1)).length ∧ n' ≤ rest) ∧ agr M w n' = true then wot M (S.drop (w.length + 1)) (w ++ [n']) (rest - n') else none
        have kn' : ∀ H' : Hp, Same H H' → SB.findSome? f = none → Q .non H' := kn
        have ks' : ∀ (H' : Hp) (a : Addr) (r : List Nat), Same H H' → SB.findSome? f = some r → LN H' a r → Q (.ref a) H' := ks
        refine for_list (K := K) (a := aSB) (xs := vl SB) (fun i σ H' => (∃ v6 v7 : Option V, σ = [some (.ref rs), some (.ref d), some (.ref c), some (vi rest), some (.int (w.length : Nat)), some (.int ((8 : Int) * (((as.map V.ref).length : Nat) - (w.length : Nat) - 1))), v6, v7]) ∧ Same H H' ∧ (SB.take i).findSome? f = none)
          ⟨⟨_, _, rfl⟩, Same.rfl', rfl⟩ (fun i σ H' _ p => (hLSB.mono p.2.1).sq) ?_ ?_
        · rintro i y σ H1 hi ⟨⟨v6, v7, rfl⟩, s1, hn⟩
          obtain ⟨m, hm, rfl⟩ := vl_get hi
          have next : ∀ (v7 : Option V) (H2 : Hp), Same H H2 → f m = none → (∃ v6 v7' : Option V, [some (V.ref rs), some (.ref d), some (.ref c), some (vi rest), some (.int (w.length : Nat)), some (.int ((8 * n : Nat) : Int)), some (vi m), v7] = [some (.ref rs), some (.ref d), some (.ref c), some (vi rest), some (.int (w.length : Nat)), some (.int ((8 * n : Nat) : Int)), v6, v7']) ∧ Same H H2 ∧ (SB.take (i + 1)).findSome? f = none :=
            fun v7 H2 s2 e => ⟨⟨_, _, rfl⟩, s2, find_step hn hm e⟩
          refine ⟨_, rfl, _, rfl, _, _, rfl, rfl, _, rfl, _, _, rfl, rfl, _, rfl, ?_⟩
          rw [eroom]
          by_cases c1 : rest ≤ m + 8 * n
          · rw [decide_eq_true (show (rest : Int) - ((8 * n : Nat) : Int) ≤ (m : Int) by omega)]
            refine iteT ⟨_, rfl, _, _, rfl, rfl, _, rfl, ?_⟩
            by_cases c2 : m ≤ rest
            · rw [decide_eq_true (show (m : Int) ≤ (rest : Int) by omega)]
              refine iteT ?_
              refine ⟨_, rfl, _, rfl, _, rfl, d, c, w, m, N, M, rfl, hd.mono s1, hw.mono s1, fun H2 s2 => ⟨_, rfl, ?_⟩⟩
              cases c3 : agr M w m with
              | false =>
                refine iteF (next _ H2 (s1.trans s2) ?_)
                show (if _ then _ else _) = _
                rw [if_neg (fun h => by rw [c3] at h; exact absurd h.2 Bool.false_ne_true)]
              | true =>
                refine iteT ?_
                have ef : f m = wot M (S.drop (w.length + 1)) (w ++ [m]) (rest - m) := if_pos ⟨⟨by rw [lenD]; exact c1, c2⟩, c3⟩
                have s12 := s1.trans s2
                refine ⟨_, rfl, _, rfl, _, rfl, _, rfl, (by show 1 ≤ sizeLine; decide), fun q hq => ?_⟩
                have sq := s12.add (o := .lst [vi m]) hq
                refine ⟨c, q, _, _, rfl, rfl, sq _ _ hw, upd_same, (by rw [List.length_map]; exact line1 (by show w.length + 1 ≤ 1000000; omega)), fun u hu' => ?_⟩
                have su := sq.add (o := .lst (vl w ++ [vi m])) hu'
                have hu2 : LN (upd (upd H2 q (.lst [vi m])) u (.lst (vl w ++ [vi m]))) u (w ++ [m]) := by
                  show upd _ u _ u = _
                  rw [upd_same]
                  show _ = some (HO.lst ((w ++ [m]).map vi))
                  rw [List.map_append]
                  rfl
                generalize upd (upd H2 q (.lst [vi m])) u (.lst (vl w ++ [vi m])) = H3 at su hu2 ⊢
                have hw1 : (w ++ [m]).length = w.length + 1 := by rw [List.length_append]; rfl
                refine ⟨_, rfl, _, rfl, _, _, rfl, rfl, rs, d, u, S, w ++ [m], N, rest - m, M, _, rfl, by omega, ⟨as, su _ _ hs, hS.mono su⟩, hd.mono su, hu2, by rw [hw1]; omega, hsm, fun H4 s4 e4 => ?_, fun H4 a r s4 e4 hr4 => ?_⟩
                · rw [hw1] at e4
                  refine ⟨_, rfl, rfl, _, rfl, ?_⟩
                  exact iteF (next _ H4 (su.trans s4) (ef.trans e4))
                · rw [hw1] at e4
                  refine ⟨_, rfl, rfl, _, rfl, ?_⟩
                  exact iteT ⟨_, rfl, ks' H4 a r (su.trans s4) (find_hit hn hm (ef.trans e4)) hr4⟩
            · rw [decide_eq_false (show ¬ (m : Int) ≤ (rest : Int) by omega)]
              refine iteF (iteF (next _ H1 s1 ?_))
              show (if _ then _ else _) = _
              rw [if_neg (fun h => c2 h.1.2)]
          · rw [decide_eq_false (show ¬ (rest : Int) - ((8 * n : Nat) : Int) ≤ (m : Int) by omega)]
            refine iteF ⟨_, rfl, iteF (iteF (next _ H1 s1 ?_))⟩
            show (if _ then _ else _) = _
            rw [if_neg (fun h => c1 (by have := h.1.1; rw [lenD] at this; exact this))]
        · rintro σ H1 ⟨⟨v6, v7, rfl⟩, s1, hn⟩
          rw [List.length_map, List.take_length] at hn
          exact kn' H1 s1 hn
theorem ok_way_of_total (F : FunIs K mg "way_of_total" sWot) (T : TxtW K mg CB) (G_agrees : Cal P w K mg base 1 "agrees" ["agreeing", "chosen", "metres"] spAgrees) : ∀ n, Cal P w K mg base (n + 2) "way_of_total" ["single", "agreeing", "chosen", "rest"] (spWot n)
  | 0 => wot_step F T G_agrees (cal_never F fun _ _ _ _ _ _ us hl => match us, hl with | [_, _, _, _], _ => rfl)
  | n + 1 => wot_step F T G_agrees (ok_way_of_total F T G_agrees n)
end
end LS

namespace LS
open PySem PySem.Spec PyProof.Rows L2
open Kp240 (Bobbin Machine)

def agB (g : Nat) (O : List (List (List Nat))) (S : List (List Nat)) (b m l n : Nat) : Bool :=
  decide (b < l) && (decide (l < O.length) && (decide (m ∈ S.getD b []) && (decide (n ∈ S.getD l []) && far g ((O.getD b []).getD m []) ((O.getD l []).getD n []))))
theorem agB_iff {g : Nat} {O : List (List (List Nat))} {S : List (List Nat)} {b m l n : Nat} : (b < l ∧ l < O.length ∧ agM g O S b m l n) ↔ agB g O S b m l n = true := by
  unfold agB agM
  simp only [Bool.and_eq_true, decide_eq_true_eq]
def singles (g : Nat) (O : List (List (List Nat))) (qs : List Nat) : List (List Nat) := O.map fun o => cutsOf g o qs
def leastM (g : Nat) (O : List (List (List Nat))) (qs : List Nat) : Option (List Nat) := (List.range (8 * O.length + 1)).findSome? fun t => wot (agB g O (singles g O qs)) (singles g O qs) [] t
theorem range_get {n i : Nat} (h : i < n) : (List.range n)[i]? = some i := by
  rw [List.getElem?_range h]

section
variable {P : Program} {w : World} {K : PySem.W.Frag} {mg : Str → Option Value} {base : Heap} {CB : Addr}
abbrev sLeastWay : Stmt := top 18
theorem scLeastWay : FnScope ["options", "passed", "gap", "single", "agreeing", "total", "way", "groups"] ["options", "passed", "gap"] (defScope sLeastWay) := ⟨rfl, rfl, rfl, by decide +kernel, rfl, by decide +kernel, by decide +kernel⟩
inductive spLeastWay (vs : List V) (H : Hp) (Q : VK) (_E : XK) : Prop
  | mk (ro p : Addr) (O : List (List (List Nat))) (qs : List Nat) (g : Nat) (_ : vs = [.ref ro, .ref p, vi g]) (_ : LL3 H ro O) (_ : LN H p qs) (_ : O.length ≤ 4) (_ : (∀ o ∈ O, o.length ≤ 9 ∧ ∀ x ∈ o, x.length < 64)) (_ : (∀ H' : Hp, Same H H' → leastM g O qs = none → Q .non H')) (_ : (∀ (H' : Hp) (a : Addr) (r : List Nat), Same H H' → leastM g O qs = some r → LN H' a r → Q (.ref a) H')) : spLeastWay  vs H Q _E
theorem ok_least_way (F : FunIs K mg "least_way" sLeastWay) (T : TxtW K mg CB) (G_cuts_fine_alone : Cal P w K mg base 4 "cuts_fine_alone" ["groups", "passed", "gap"] spCutsFine) (G_agreeing_cuts : Cal P w K mg base 2 "agreeing_cuts" ["options", "single", "gap"] spAgreeing)
    (GW : ∀ n, Cal P w K mg base (n + 2) "way_of_total" ["single", "agreeing", "chosen", "rest"] (spWot n)) : Cal P w K mg base 8 "least_way" ["options", "passed", "gap"] spLeastWay := by
  refine cal_mk F scLeastWay (fun _ _ _ _ _ _ us hl => match us, hl with | [_, _, _], _ => rfl) (fun vs H Q E h => ?_) (fun f cdv A outer s H vs Q E hr h => ?_)
  · obtain ⟨ro, p, O, qs, g, rfl, _⟩ := h
    rfl
  · obtain ⟨ro, p, O, qs, g, rfl, ⟨ao, ho, hO⟩, hp, four, few, kn, ks⟩ := h
    have nd := scLeastWay.nd
    have lenO := hO.length
    have G_way_of_total := GW O.length
    refine ⟨_, (pss_cons (ps_setLc (i := 3) rfl nd rfl rfl (sw_true rfl rfl rfl (by decide +kernel)) (pi_listK (K := K) rfl (pv 0)) (blkOk_by (own := [("groups", 7)]) (by rfl)) (fun _ _ _ _ _ => (pg_name (i := 7) nd rfl (Or.inl rfl))) (fun _ _ _ _ _ => pts_nil) (fun _ _ _ _ _ => (pcall G_cuts_fine_alone hr rfl (pa_cons (pv 7) (pa_cons (pv 1) (pa_cons (pv 2) pa_nil))))))
      (pss_cons (ps_set (i := 4) nd rfl (Or.inl rfl) (pcall G_agreeing_cuts hr rfl (pa_cons (pv 0) (pa_cons (pv 3) (pa_cons (pv 2) pa_nil)))))
      (pss_cons (ps_for PassesOwn.never rfl (pi_range1 rfl T.b_range (pa_cons (pe_op op_add (pe_op op_mul (pgi T.g_MOST_CUT) (pe_callB (call_len_seqK (K := K) rfl) (by rfl) T.b_len bo_len (pa_cons (pv 0) pa_nil))) pe_int) pa_nil)) (pg_name (i := 5) nd rfl (Or.inl rfl)) (pss_cons (ps_set (i := 6) nd rfl (Or.inl rfl) (pcall G_way_of_total hr rfl (pa_cons (pv 3) (pa_cons (pv 4) (pa_cons (pe_lst pa_nil) (pa_cons (pv 5) pa_nil))))))
      (pss_one (ps_if (pt_cmpR op_notN (pv 6) pe_non (nomark _)) (pss_one (ps_ret (pv 6))) pss_nil))))
      (pss_one (ps_ret pe_non))))), ?_⟩
    refine ⟨_, rfl, ro, rfl, ⟨_, SqL.of ho⟩, fun D hD => ?_⟩
    refine lc_list (K := K) (a := ro) (xs := ao.map V.ref) (fun i H' => Same H H' ∧ ∃ as, H' D = some (.lst (as.map V.ref)) ∧ LLs (New (upd H D (.lst [])) H') as ((O.take i).map fun o => cutsOf g o qs))
      ⟨Same.new hD, [], upd_same, .nil⟩ (fun i H' _ p => SqL.of (p.1 _ _ ho)) ?_ ?_
    · rintro i y H1 hi ⟨s1, as, hd, hL⟩
      obtain ⟨c, hc, rfl⟩ := refs_get hi
      obtain ⟨o, hoc, hLo⟩ := hO.getA hc
      have fo := few o (List.mem_of_getElem? hoc)
      refine ⟨rfl, yesI ?_⟩
      refine ⟨_, rfl, _, rfl, _, rfl, c, p, o, qs, g, rfl, hLo.mono s1, hp.mono s1, by omega, fo.2, fun H2 l s2 hl hLl => ?_⟩
      have hlD : l ≠ D := fun e => by rw [e] at hl; rw [hd] at hl; cases hl
      refine ⟨_, s2 _ _ hd, ?_, (s1.trans s2).put hD, as ++ [l], ?_, ?_⟩
      · have := hL.length
        rw [List.length_map] at this ⊢
        have h2 : (O.take i).length ≤ O.length := List.length_take_le' _ _
        exact line2 (by omega)
      · rw [upd_same, List.map_append]
        rfl
      · rw [take_snoc hoc, List.map_append, New.put (u := .lst []) upd_same]
        exact LLs.snoc (hLl.new (by rw [upd_ne hlD]; exact s1.free hl)) (hL.mono (New.step s2))
    · rintro H1 ⟨s1, as, hd, hL⟩
      rw [List.length_map, lenO, List.take_length] at hL
      have hS : LLN H1 D (singles g O qs) := ⟨as, hd, hL.mono New.sub⟩
      have opt : OptOk O (singles g O qs) := by
        refine ⟨List.length_map _, four, fun s hs => ?_, fun b s m hb hm => ?_⟩
        · obtain ⟨o, ho', rfl⟩ := List.mem_map.mp hs
          have := (few o ho').1
          have h2 : (cutsOf g o qs).length ≤ o.length := by
            unfold cutsOf
            exact Nat.le_trans (List.length_filter_le _ _) (by rw [List.length_range]; exact Nat.le_refl _)
          omega
        · unfold singles at hb
          rw [List.getElem?_map] at hb
          cases e : O[b]? with
          | none => rw [e] at hb; cases hb
          | some o =>
            rw [e] at hb
            cases hb
            rw [getD_of e]
            unfold cutsOf at hm
            exact List.mem_range.mp (List.mem_filter.mp hm).1
      refine ⟨_, rfl, _, rfl, _, rfl, ro, D, O, singles g O qs, g, rfl, ⟨ao, s1 _ _ ho, hO.mono s1⟩, hS, opt, fun H2 d s2 hd2 hDict => ?_⟩
      have s12 := s1.trans s2
      refine ⟨_, rfl, ro, _, rfl, .inl (SqL.of (s12 _ _ ho)), _, _, rfl, rfl, .inl ⟨by decide, by decide⟩, _, _, rfl, rfl, _, rfl, by rw [List.length_map]; omega, by rw [List.length_map]; omega, ?_⟩
      have en : ((8 : Int) * ((ao.map V.ref).length : Nat) + 1).toNat = 8 * O.length + 1 := by rw [List.length_map, lenO]; omega
      let f : Nat → Option (List Nat) := fun t => wot (agB g O (singles g O qs)) (singles g O qs) [] t
      refine for_range (lo := 0) (n := ((8 : Int) * ((ao.map V.ref).length : Nat) + 1).toNat) (fun i σ H' => (∃ v5 v6 : Option V, σ = [some (.ref ro), some (.ref p), some (vi g), some (.ref D), some (.ref d), v5, v6, none]) ∧ Same H2 H' ∧ ((List.range (8 * O.length + 1)).take i).findSome? f = none)
        ⟨⟨_, _, rfl⟩, Same.rfl', rfl⟩ ?_ ?_
      · rintro i σ H3 hi ⟨⟨v5, v6, rfl⟩, s3, hn⟩
        rw [en] at hi
        have hri := range_get hi
        refine ⟨_, rfl, _, rfl, (by show 0 ≤ sizeLine; decide), fun q hq => ?_⟩
        have s4 := s3.add (o := .lst []) hq
        have lenS : (singles g O qs).length = ([] : List Nat).length + O.length := by rw [opt.len]; simp
        refine ⟨_, rfl, D, d, q, singles g O qs, [], 5000, i, agB g O (singles g O qs), _, rfl, by omega, (hS.mono s2).mono s4, ?_, upd_same, lenS, by rw [opt.len]; omega, fun H5 s5 e5 => ?_, fun H5 a r s5 e5 hr5 => ?_⟩
        · exact (hDict.imp (Nat.le_refl _) fun b m l n => agB_iff).mono s4
        · refine ⟨_, rfl, rfl, _, rfl, ?_⟩
          exact iteF ⟨⟨_, _, rfl⟩, s4.trans s5, find_step hn hri e5⟩
        · refine ⟨_, rfl, rfl, _, rfl, ?_⟩
          exact iteT ⟨_, rfl, ks H5 a r (s12.trans (s4.trans s5)) (find_hit hn hri e5) hr5⟩
      · rintro σ H3 ⟨⟨v5, v6, rfl⟩, s3, hn⟩
        rw [en] at hn
        rw [List.take_of_length_le (by rw [List.length_range]; exact Nat.le_refl _)] at hn
        exact kn H3 (s12.trans s3) hn
end
end LS

namespace LS
open Kp240 (Bobbin Machine)

/-! ### far, near -/
theorem far_iff {g : Nat} {l r : List Nat} : far g l r = true ↔ ∀ p ∈ l, ∀ q ∈ r, g ≤ Kp240.apart p q := by
  unfold far
  simp [List.all_eq_true]
theorem far_comm {g : Nat} {l r : List Nat} : far g l r = far g r l := by
  rw [Bool.eq_iff_iff, far_iff, far_iff]
  exact ⟨fun h p hp q hq => by rw [apart_comm]; exact h q hq p hp, fun h p hp q hq => by rw [apart_comm]; exact h q hq p hp⟩
theorem near_iff {g : Nat} {l r : List Nat} : Kp240.near g l r = true ↔ ∃ p ∈ l, ∃ q ∈ r, Kp240.apart p q < g := by
  unfold Kp240.near
  simp [List.any_eq_true]
theorem not_near {g : Nat} {l r : List Nat} : (!Kp240.near g l r) = true ↔ ∀ p ∈ l, ∀ q ∈ r, g ≤ Kp240.apart p q := by
  rw [Bool.not_eq_true', ← Bool.not_eq_true, near_iff]
  constructor
  · intro h p hp q hq
    by_cases c : Kp240.apart p q < g
    · exact absurd ⟨p, hp, q, hq, c⟩ h
    · omega
  · rintro h ⟨p, hp, q, hq, c⟩
    have := h p hp q hq
    omega
/-- what fine says, group by group -/
theorem fine_groups {g : Nat} {gone : List Nat} {gs : List (List Nat)} :
    (Kp240.clear g gs.flatten && !Kp240.near g gone gs.flatten) = true ↔ (∀ x ∈ gs, alone g x gone = true) ∧ gs.Pairwise fun a b => far g a b = true := by
  rw [Bool.and_eq_true, clear_iff, not_near, List.pairwise_flatten]
  unfold alone
  constructor
  · rintro ⟨⟨h1, h2⟩, h3⟩
    refine ⟨fun x hx => ?_, h2.imp fun h => far_iff.mpr h⟩
    rw [Bool.and_eq_true, clear_iff, far_iff]
    exact ⟨h1 x hx, fun p hp q hq => by rw [apart_comm]; exact h3 q hq p (List.mem_flatten.mpr ⟨x, hx, hp⟩)⟩
  · rintro ⟨h1, h2⟩
    refine ⟨⟨fun x hx => ?_, h2.imp fun h => far_iff.mp h⟩, fun p hp q hq => ?_⟩
    · have := h1 x hx
      rw [Bool.and_eq_true, clear_iff] at this
      exact this.1
    · obtain ⟨x, hx, hq'⟩ := List.mem_flatten.mp hq
      have := h1 x hx
      rw [Bool.and_eq_true, far_iff] at this
      rw [apart_comm]
      exact this.2 q hq' p hp
theorem getD_mem {gs : List (List Nat)} {b : Nat} (h : b < gs.length) : gs.getD b [] ∈ gs := by
  rw [List.getD_eq_getElem?_getD, List.getElem?_eq_getElem h]
  exact List.getElem_mem h
theorem getD_lt {α : Type} {l : List α} {b : Nat} {d : α} (h : b < l.length) : l.getD b d = l[b] := by
  rw [List.getD_eq_getElem?_getD, List.getElem?_eq_getElem h]
  rfl
theorem beside_iff {g : Nat} {gs : List (List Nat)} {b : Nat} : beside g gs b = true ↔ ∀ o, o < gs.length → o ≠ b → far g (gs.getD b []) (gs.getD o []) = true := by
  unfold beside
  rw [List.all_eq_true]
  constructor
  · intro h o ho hb
    have := h o (List.mem_range.mpr ho)
    rw [decide_eq_false hb] at this
    exact this
  · intro h o ho
    by_cases e : o = b
    · rw [decide_eq_true e]; rfl
    · rw [decide_eq_false e]
      exact h o (List.mem_range.mp ho) e
theorem pair_beside {g : Nat} {gs : List (List Nat)} : (gs.Pairwise fun a b => far g a b = true) ↔ ∀ b, b < gs.length → beside g gs b = true := by
  rw [List.pairwise_iff_getElem]
  constructor
  · intro h b hb
    refine beside_iff.mpr fun o ho hne => ?_
    rw [getD_lt hb, getD_lt ho]
    rcases Nat.lt_or_gt_of_ne hne with c | c
    · rw [far_comm]; exact h o b ho hb c
    · exact h b o hb ho c
  · intro h i j hi hj hij
    have := beside_iff.mp (h i hi) j hj (by omega)
    rw [getD_lt hi, getD_lt hj] at this
    exact this
theorem bad_empty {g : Nat} {gone : List Nat} {gs : List (List Nat)} : (badOf g gs gone).isEmpty = (Kp240.clear g gs.flatten && !Kp240.near g gone gs.flatten) := by
  rw [Bool.eq_iff_iff, fine_groups, pair_beside, List.isEmpty_iff]
  unfold badOf
  rw [List.filter_eq_nil_iff]
  unfold okB
  constructor
  · intro h
    have h' : ∀ b, b < gs.length → alone g (gs.getD b []) gone = true ∧ beside g gs b = true := fun b hb => by
      have := h b (List.mem_range.mpr hb)
      simp only [Bool.not_eq_true', Bool.not_eq_false] at this
      rw [Bool.and_eq_true] at this
      exact this
    refine ⟨fun x hx => ?_, fun b hb => (h' b hb).2⟩
    obtain ⟨b, hb, rfl⟩ := List.getElem_of_mem hx
    have := (h' b hb).1
    rw [getD_lt hb] at this
    exact this
  · rintro ⟨h1, h2⟩ b hb
    have hb := List.mem_range.mp hb
    rw [h1 _ (getD_mem hb), h2 b hb]
    simp
/-! ### the bad ones -/
theorem clear_count {g : Nat} : ∀ {l : List Nat}, Kp240.clear g l = true ↔ ∀ p ∈ l, (l.filter fun q => decide (Kp240.apart p q < g)).length ≤ 1
  | [] => by simp [Kp240.clear]
  | a :: l => by
    rw [Kp240.clear, Bool.and_eq_true, clear_count (l := l), List.all_eq_true]
    have cons : ∀ p, ((a :: l).filter fun q => decide (Kp240.apart p q < g)).length = (if Kp240.apart p a < g then 1 else 0) + (l.filter fun q => decide (Kp240.apart p q < g)).length := fun p => by
      rw [List.filter_cons]
      by_cases c : Kp240.apart p a < g
      · simp [c]; omega
      · simp [c]
    constructor
    · rintro ⟨h1, h2⟩ p hp
      rw [cons]
      rcases List.mem_cons.mp hp with e | e
      · subst e
        have : (l.filter fun q => decide (Kp240.apart p q < g)) = [] := List.filter_eq_nil_iff.mpr fun q hq => by
          have := of_decide_eq_true (h1 q hq)
          simp
          omega
        rw [this]
        split <;> simp
      · have := of_decide_eq_true (h1 p e)
        rw [apart_comm] at this
        rw [if_neg (by omega)]
        have := h2 p e
        omega
    · intro h
      refine ⟨fun q hq => ?_, fun p hp => ?_⟩
      · refine decide_eq_true ?_
        by_cases c : Kp240.apart a q < g
        · exfalso
          have h1 := h a (by simp)
          rw [cons, if_pos (by unfold Kp240.apart; omega)] at h1
          have : q ∈ l.filter fun q => decide (Kp240.apart a q < g) := List.mem_filter.mpr ⟨hq, decide_eq_true c⟩
          have := List.length_pos_of_mem this
          omega
        · omega
      · have h1 := h p (by simp [hp])
        rw [cons] at h1
        omega
theorem not_okB {g : Nat} {gone : List Nat} {gs : List (List Nat)} {b : Nat} (hb : b < gs.length) :
    (!okB g gs gone b) = ((gs.getD b []).any fun p => Kp240.near g [p] gone || (List.range gs.length).any fun c => if c = b then decide (2 ≤ ((gs.getD b []).filter fun q => decide (Kp240.apart p q < g)).length) else Kp240.near g [p] (gs.getD c [])) := by
  rw [Bool.eq_iff_iff, Bool.not_eq_true']
  unfold okB alone
  rw [← Bool.not_eq_true, Bool.and_eq_true, Bool.and_eq_true, clear_count, far_iff, beside_iff, List.any_eq_true]
  constructor
  · intro h
    by_cases h1 : ∀ p ∈ gs.getD b [], ((gs.getD b []).filter fun q => decide (Kp240.apart p q < g)).length ≤ 1
    · by_cases h2 : ∀ p ∈ gs.getD b [], ∀ q ∈ gone, g ≤ Kp240.apart p q
      · by_cases h3 : ∀ o, o < gs.length → o ≠ b → far g (gs.getD b []) (gs.getD o []) = true
        · exact absurd ⟨⟨h1, h2⟩, h3⟩ h
        · obtain ⟨o, h3⟩ := Classical.not_forall.mp h3
          obtain ⟨ho, h3⟩ := Classical.not_imp.mp h3
          obtain ⟨hne, h3⟩ := Classical.not_imp.mp h3
          rw [far_iff] at h3
          obtain ⟨p, h3⟩ := Classical.not_forall.mp h3
          obtain ⟨hp, h3⟩ := Classical.not_imp.mp h3
          obtain ⟨q, h3⟩ := Classical.not_forall.mp h3
          obtain ⟨hq, h3⟩ := Classical.not_imp.mp h3
          refine ⟨p, hp, ?_⟩
          rw [Bool.or_eq_true, List.any_eq_true]
          refine .inr ⟨o, List.mem_range.mpr ho, ?_⟩
          rw [if_neg hne, near_iff]
          exact ⟨p, by simp, q, hq, by omega⟩
      · obtain ⟨p, h3⟩ := Classical.not_forall.mp h2
        obtain ⟨hp, h3⟩ := Classical.not_imp.mp h3
        obtain ⟨q, h3⟩ := Classical.not_forall.mp h3
        obtain ⟨hq, h3⟩ := Classical.not_imp.mp h3
        refine ⟨p, hp, ?_⟩
        rw [Bool.or_eq_true, near_iff]
        exact .inl ⟨p, by simp, q, hq, by omega⟩
    · obtain ⟨p, h3⟩ := Classical.not_forall.mp h1
      obtain ⟨hp, h3⟩ := Classical.not_imp.mp h3
      refine ⟨p, hp, ?_⟩
      rw [Bool.or_eq_true, List.any_eq_true]
      refine .inr ⟨b, List.mem_range.mpr hb, ?_⟩
      rw [if_pos rfl]
      exact decide_eq_true (by omega)
  · rintro ⟨p, hp, h⟩ ⟨⟨h1, h2⟩, h3⟩
    rw [Bool.or_eq_true, near_iff, List.any_eq_true] at h
    rcases h with ⟨p', hp', q, hq, c⟩ | ⟨o, ho, h⟩
    · rw [List.mem_singleton.mp hp'] at c
      have := h2 p hp q hq
      omega
    · by_cases e : o = b
      · rw [if_pos e] at h
        have := of_decide_eq_true h
        have := h1 p hp
        omega
      · rw [if_neg e, near_iff] at h
        obtain ⟨p', hp', q, hq, c⟩ := h
        rw [List.mem_singleton.mp hp'] at c
        have := far_iff.mp (h3 o (List.mem_range.mp ho) e) p hp q hq
        omega
/-- the groups of a machine -/
def grp (m : Machine) : List (List Nat) := m.bobbins.map (Kp240.placesOf m)
theorem grp_getD {m : Machine} {b : Nat} (h : b < m.bobbins.length) : (grp m).getD b [] = Kp240.placesOf m (Kp240.bobbinAt m b) := by
  unfold grp Kp240.bobbinAt
  rw [getD_lt (by rw [List.length_map]; exact h), getD_lt h, List.getElem_map]
theorem bad_is (m : Machine) : badOf m.gap (grp m) m.gone = Kp240.bad m := by
  unfold badOf Kp240.bad Kp240.all
  have hl : (grp m).length = m.bobbins.length := List.length_map _
  rw [hl]
  refine List.filter_congr fun b hb => ?_
  have hb := List.mem_range.mp hb
  rw [not_okB (by rw [hl]; exact hb), grp_getD hb, hl]
  congr 1
  funext p
  congr 1
  rw [Bool.eq_iff_iff, List.any_eq_true, List.any_eq_true]
  constructor
  · rintro ⟨c, hc, h⟩
    refine ⟨c, hc, ?_⟩
    by_cases e : c = b
    · rw [if_pos e] at h ⊢; exact h
    · rw [if_neg e, grp_getD (List.mem_range.mp hc)] at h
      rw [if_neg e]; exact h
  · rintro ⟨c, hc, h⟩
    refine ⟨c, hc, ?_⟩
    by_cases e : c = b
    · rw [if_pos e] at h ⊢; exact h
    · rw [if_neg e] at h
      rw [if_neg e, grp_getD (List.mem_range.mp hc)]; exact h
theorem places_flat (m : Machine) (l : List Bobbin) : Kp240.places m l = (l.map (Kp240.placesOf m)).flatten := by
  unfold Kp240.places
  rw [List.flatMap_def]
theorem fine_is (m : Machine) (l : List Bobbin) : (badOf m.gap (l.map (Kp240.placesOf m)) m.gone).isEmpty = Kp240.fine m l := by
  rw [bad_empty]
  unfold Kp240.fine
  rw [places_flat]
end LS

namespace LS
open Kp240 (Bobbin Machine)

/-! ### all ways, in order -/
def prod : List (List Nat) → List (List Nat)
  | [] => [[]]
  | s :: l => s.flatMap fun n => (prod l).map fun r => n :: r
theorem sumOf_foldl : ∀ (l : List Nat) (a : Nat), l.foldl (fun (a x : Nat) => a + x) a = a + l.sum
  | [], a => by simp
  | x :: l, a => by rw [List.foldl_cons, sumOf_foldl l, List.sum_cons]; omega
theorem sumOf_sum (l : List Nat) : Kp240.sumOf l = l.sum := by unfold Kp240.sumOf; rw [sumOf_foldl]; omega
theorem ways_prod : ∀ l : List Bobbin, Kp240.ways l = prod (l.map fun x => List.range (min 8 x.left + 1))
  | [] => rfl
  | x :: l => by
    rw [Kp240.ways, List.map_cons, prod, ways_prod l]
    rfl
theorem prod_len : ∀ {ss : List (List Nat)} {r : List Nat}, r ∈ prod ss → r.length = ss.length
  | [], r, h => by simp [prod] at h; subst h; rfl
  | s :: l, r, h => by
    rw [prod] at h
    obtain ⟨n, hn, h⟩ := List.mem_flatMap.mp h
    obtain ⟨r', hr', rfl⟩ := List.mem_map.mp h
    simp [prod_len hr']
theorem prod_sum : ∀ {ss : List (List Nat)} {r : List Nat}, (∀ s ∈ ss, ∀ n ∈ s, n ≤ 8) → r ∈ prod ss → r.sum ≤ 8 * ss.length
  | [], r, _, h => by simp [prod] at h; subst h; simp
  | s :: l, r, h8, h => by
    rw [prod] at h
    obtain ⟨n, hn, h⟩ := List.mem_flatMap.mp h
    obtain ⟨r', hr', rfl⟩ := List.mem_map.mp h
    have h1 := prod_sum (fun s hs => h8 s (by simp [hs])) hr'
    have h2 := h8 s (by simp) n hn
    rw [List.sum_cons, List.length_cons]
    omega
theorem prod_at : ∀ {ss : List (List Nat)} {r : List Nat} {i : Nat} {s : List Nat}, r ∈ prod ss → ss[i]? = some s → r.getD i 0 ∈ s
  | [], r, i, s, _, h => by simp at h
  | s :: l, r, 0, t, h, e => by
    simp at e
    subst e
    rw [prod] at h
    obtain ⟨n, hn, h⟩ := List.mem_flatMap.mp h
    obtain ⟨r', hr', rfl⟩ := List.mem_map.mp h
    exact hn
  | s :: l, r, i + 1, t, h, e => by
    rw [prod] at h
    obtain ⟨n, hn, h⟩ := List.mem_flatMap.mp h
    obtain ⟨r', hr', rfl⟩ := List.mem_map.mp h
    have := prod_at (i := i) hr' (by simpa using e)
    simpa using this

/-- the cuts r go with one another and with those ahead of them -/
def okExt (M : Nat → Nat → Nat → Nat → Bool) : List Nat → List Nat → Bool
  | _, [] => true
  | w, n :: r => agr M w n && okExt M (w ++ [n]) r
theorem find_congr {α : Type} {p q : α → Bool} : ∀ {l : List α}, (∀ x ∈ l, p x = q x) → l.find? p = l.find? q
  | [], _ => rfl
  | a :: l, h => by
    rw [List.find?_cons, List.find?_cons, h a (by simp), find_congr fun x hx => h x (by simp [hx])]
theorem findSome_congr {α β : Type} {f g : α → Option β} : ∀ {l : List α}, (∀ x ∈ l, f x = g x) → l.findSome? f = l.findSome? g
  | [], _ => rfl
  | a :: l, h => by
    rw [List.findSome?_cons, List.findSome?_cons, h a (by simp), findSome_congr fun x hx => h x (by simp [hx])]
theorem find_none_of {α : Type} {p : α → Bool} {l : List α} (h : ∀ x ∈ l, p x = false) : l.find? p = none := by
  rw [List.find?_eq_none]
  intro x hx
  rw [h x hx]
  exact Bool.false_ne_true
theorem find_flatMap {α β : Type} {f : α → List β} {p : β → Bool} : ∀ {l : List α}, (l.flatMap f).find? p = l.findSome? fun x => (f x).find? p
  | [] => rfl
  | a :: l => by
    rw [List.flatMap_cons, List.find?_append, List.findSome?_cons, find_flatMap (l := l)]
    cases (f a).find? p <;> rfl
theorem findSome_map {α β γ : Type} {f : α → Option β} {h : β → γ} : ∀ {l : List α}, (l.findSome? f).map h = l.findSome? fun x => (f x).map h
  | [] => rfl
  | a :: l => by
    rw [List.findSome?_cons, List.findSome?_cons]
    cases f a with
    | none => exact findSome_map (l := l)
    | some y => rfl
theorem wot_find {M : Nat → Nat → Nat → Nat → Bool} : ∀ {ss : List (List Nat)} {w : List Nat} {rest : Nat}, (∀ s ∈ ss, ∀ n ∈ s, n ≤ 8) →
    wot M ss w rest = ((prod ss).find? fun r => okExt M w r && decide (r.sum = rest)).map fun r => w ++ r
  | [], w, rest, _ => by
    rw [wot, prod]
    by_cases h : rest = 0
    · subst h
      simp [okExt]
    · rw [if_neg h, List.find?_cons]
      have : (okExt M w [] && decide (([] : List Nat).sum = rest)) = false := by
        have : ¬ ([] : List Nat).sum = rest := by simp; omega
        rw [decide_eq_false this, Bool.and_false]
      rw [this]
      rfl
  | s :: more, w, rest, h8 => by
    rw [wot, prod, find_flatMap, findSome_map]
    refine findSome_congr fun n hn => ?_
    have h8' : ∀ s ∈ more, ∀ n ∈ s, n ≤ 8 := fun s hs => h8 s (by simp [hs])
    rw [List.find?_map, Option.map_map]
    have hP : ∀ r ∈ prod more, ((fun r => okExt M w r && decide (r.sum = rest)) ∘ fun r => n :: r) r = ((agr M w n && okExt M (w ++ [n]) r) && decide (n + r.sum = rest)) := fun r hr => by
      show (okExt M w (n :: r) && decide ((n :: r).sum = rest)) = _
      rw [okExt, List.sum_cons]
    rw [find_congr hP]
    by_cases c : (rest ≤ n + 8 * more.length ∧ n ≤ rest) ∧ agr M w n = true
    · rw [if_pos c, wot_find h8', c.2]
      have e : ∀ r ∈ prod more, ((true && okExt M (w ++ [n]) r) && decide (n + r.sum = rest)) = (okExt M (w ++ [n]) r && decide (r.sum = rest - n)) := fun r hr => by
        rw [Bool.true_and]
        congr 1
        by_cases q : n + r.sum = rest
        · rw [decide_eq_true q, decide_eq_true (by omega)]
        · have := c.1.2
          rw [decide_eq_false q, decide_eq_false (by omega)]
      rw [find_congr e]
      congr 1
      funext r
      show w ++ [n] ++ r = w ++ (n :: r)
      rw [List.append_assoc]
      rfl
    · rw [if_neg c, find_none_of]
      · rfl
      · intro r hr
        have h1 := prod_sum h8' hr
        cases a : agr M w n with
        | false => simp
        | true =>
          rw [a] at c
          by_cases q : n + r.sum = rest
          · exact absurd ⟨⟨by omega, by omega⟩, rfl⟩ c
          · rw [decide_eq_false q, Bool.and_false]

/-! ### the least, the first of like ones -/
def better (f : List Nat → Nat) (b : Option (List Nat)) (w : List Nat) : Option (List Nat) := match b with
  | none => some w
  | some q => if f w < f q then some w else some q
theorem fold_some (f : List Nat → Nat) : ∀ (L : List (List Nat)) (q0 : List Nat), ∃ q, L.foldl (better f) (some q0) = some q ∧ f q ≤ f q0 ∧ (∀ x ∈ L, f q ≤ f x) ∧ (q = q0 ∨ (f q < f q0 ∧ L.find? (fun x => decide (f x = f q)) = some q))
  | [], q0 => ⟨q0, rfl, Nat.le_refl _, fun x hx => by simp at hx, .inl rfl⟩
  | a :: L, q0 => by
    rw [List.foldl_cons]
    by_cases c : f a < f q0
    · have e : better f (some q0) a = some a := if_pos c
      rw [e]
      obtain ⟨q, h1, h2, h3, h4⟩ := fold_some f L a
      refine ⟨q, h1, by omega, fun x hx => ?_, .inr ⟨by omega, ?_⟩⟩
      · rcases List.mem_cons.mp hx with e | e
        · subst e; exact h2
        · exact h3 x e
      · rw [List.find?_cons]
        rcases h4 with rfl | ⟨h4, h5⟩
        · rw [decide_eq_true rfl]
        · rw [decide_eq_false (by omega)]
          exact h5
    · have e : better f (some q0) a = some q0 := if_neg c
      rw [e]
      obtain ⟨q, h1, h2, h3, h4⟩ := fold_some f L q0
      refine ⟨q, h1, h2, fun x hx => ?_, ?_⟩
      · rcases List.mem_cons.mp hx with e | e
        · subst e; omega
        · exact h3 x e
      · rcases h4 with rfl | ⟨h4, h5⟩
        · exact .inl rfl
        · refine .inr ⟨h4, ?_⟩
          rw [List.find?_cons, decide_eq_false (by omega)]
          exact h5
theorem fold_first (f : List Nat → Nat) : ∀ (L : List (List Nat)), (L = [] ∧ L.foldl (better f) none = none) ∨ ∃ q, L.foldl (better f) none = some q ∧ (∀ x ∈ L, f q ≤ f x) ∧ L.find? (fun x => decide (f x = f q)) = some q
  | [] => .inl ⟨rfl, rfl⟩
  | a :: L => by
    right
    rw [List.foldl_cons]
    obtain ⟨q, h1, h2, h3, h4⟩ := fold_some f L a
    refine ⟨q, h1, fun x hx => ?_, ?_⟩
    · rcases List.mem_cons.mp hx with e | e
      · subst e; exact h2
      · exact h3 x e
    · rw [List.find?_cons]
      rcases h4 with rfl | ⟨h4, h5⟩
      · rw [decide_eq_true rfl]
      · rw [decide_eq_false (by omega)]
        exact h5
theorem first_least {f : List Nat → Nat} {L : List (List Nat)} {N : Nat} (h : ∀ x ∈ L, f x ≤ N) : ((List.range (N + 1)).findSome? fun t => L.find? fun x => decide (f x = t)) = L.foldl (better f) none := by
  rcases fold_first f L with ⟨rfl, e⟩ | ⟨q, e, hq, hf⟩
  · rw [e, List.findSome?_eq_none_iff]
    intro t _
    rfl
  · rw [e]
    have hqL : q ∈ L := List.mem_of_find?_eq_some hf
    refine find_hit (i := f q) (x := f q) ?_ (range_get (by have := h q hqL; omega)) hf
    rw [List.findSome?_eq_none_iff]
    intro t ht
    refine find_none_of fun x hx => decide_eq_false fun c => ?_
    have h1 := hq x hx
    have h2 : t < f q := by
      rw [List.take_range] at ht
      have := List.mem_range.mp ht
      omega
    omega

/-! ### ways whose cuts are fine each by itself -/
def coords {α : Type} (c : α → Nat → Bool) : List α → List Nat → Bool
  | x :: l, n :: w => c x n && coords c l w
  | _, _ => true
theorem filter_flatMap' {α β : Type} {f : α → List β} {p : β → Bool} : ∀ {l : List α}, (l.flatMap f).filter p = l.flatMap fun x => (f x).filter p
  | [] => rfl
  | a :: l => by rw [List.flatMap_cons, List.filter_append, List.flatMap_cons, filter_flatMap' (l := l)]
theorem flatMap_filter' {α β : Type} {f : α → List β} {p : α → Bool} : ∀ {l : List α}, (l.filter p).flatMap f = l.flatMap fun x => if p x = true then f x else []
  | [] => rfl
  | a :: l => by
    rw [List.filter_cons, List.flatMap_cons]
    by_cases c : p a = true
    · rw [if_pos c, if_pos c, List.flatMap_cons, flatMap_filter' (l := l)]
    · rw [if_neg c, if_neg c, flatMap_filter' (l := l)]
      rfl
theorem flatMap_congr' {α β : Type} {f g : α → List β} : ∀ {l : List α}, (∀ x ∈ l, f x = g x) → l.flatMap f = l.flatMap g
  | [], _ => rfl
  | a :: l, h => by
    rw [List.flatMap_cons, List.flatMap_cons, h a (by simp), flatMap_congr' fun x hx => h x (by simp [hx])]
theorem prod_filter {α : Type} {r : α → List Nat} {c : α → Nat → Bool} : ∀ {l : List α}, prod (l.map fun x => (r x).filter (c x)) = (prod (l.map r)).filter (coords c l)
  | [] => rfl
  | x :: l => by
    rw [List.map_cons, List.map_cons, prod, prod, flatMap_filter', filter_flatMap', prod_filter (l := l)]
    refine flatMap_congr' fun n _ => ?_
    rw [List.filter_map]
    by_cases h : c x n = true
    · rw [if_pos h]
      congr 1
      refine List.filter_congr fun w _ => ?_
      show _ = (c x n && coords c l w)
      rw [h, Bool.true_and]
    · rw [if_neg h]
      have : (List.filter (coords c (x :: l) ∘ fun r => n :: r) (prod (l.map r))) = [] := List.filter_eq_nil_iff.mpr fun w _ => by
        show ¬ (c x n && coords c l w) = true
        rw [Bool.and_eq_true]
        exact fun q => h q.1
      rw [this]
      rfl
end LS

namespace LS
open Kp240 (Bobbin Machine)

theorem find_filter' {α : Type} {p q : α → Bool} : ∀ {l : List α}, (l.filter p).find? q = l.find? fun x => p x && q x
  | [] => rfl
  | a :: l => by
    rw [List.filter_cons, List.find?_cons]
    cases h : p a with
    | true => rw [if_pos rfl, List.find?_cons, Bool.true_and, find_filter' (l := l)]
    | false => rw [if_neg Bool.false_ne_true, find_filter' (l := l), Bool.false_and]
theorem coords_iff {α : Type} {c : α → Nat → Bool} : ∀ {l : List α} {w : List Nat}, w.length = l.length → (coords c l w = true ↔ ∀ (i : Nat) (h : i < l.length), c l[i] (w.getD i 0) = true)
  | [], w, _ => ⟨fun _ i h => absurd h (by simp), fun _ => by cases w <;> rfl⟩
  | x :: l, [], h => by simp at h
  | x :: l, n :: w, h => by
    rw [coords, Bool.and_eq_true, coords_iff (l := l) (w := w) (by simpa using h)]
    constructor
    · rintro ⟨h1, h2⟩ i hi
      cases i with
      | zero => exact h1
      | succ i => exact h2 i (by simpa using hi)
    · intro h
      exact ⟨h 0 (by simp), fun i hi => h (i + 1) (by simpa using hi)⟩
theorem okExt_iff {M : Nat → Nat → Nat → Nat → Bool} : ∀ {r w : List Nat}, okExt M w r = true ↔ ∀ l, w.length ≤ l → l < (w ++ r).length → ∀ b, b < l → M b ((w ++ r).getD b 0) l ((w ++ r).getD l 0) = true
  | [], w => ⟨fun _ l h1 h2 => by rw [List.append_nil] at h2; omega, fun _ => rfl⟩
  | n :: r, w => by
    have e : w ++ n :: r = (w ++ [n]) ++ r := by rw [List.append_assoc]; rfl
    have e1 : ∀ b, b < w.length → (w ++ n :: r).getD b 0 = w.getD b 0 := fun b hb => by
      rw [List.getD_eq_getElem?_getD, List.getD_eq_getElem?_getD, List.getElem?_append_left hb]
    have e2 : (w ++ n :: r).getD w.length 0 = n := by
      rw [List.getD_eq_getElem?_getD, List.getElem?_append_right (Nat.le_refl _), Nat.sub_self]
      rfl
    have len1 : (w ++ [n]).length = w.length + 1 := by simp
    rw [okExt, Bool.and_eq_true, okExt_iff (r := r) (w := w ++ [n]), ← e, len1]
    unfold agr
    rw [List.all_eq_true]
    constructor
    · rintro ⟨h1, h2⟩ l hl hl2 b hb
      by_cases c : l = w.length
      · subst c
        rw [e1 b hb, e2]
        exact h1 b (List.mem_range.mpr hb)
      · exact h2 l (by omega) hl2 b hb
    · intro h
      refine ⟨fun b hb => ?_, fun l hl hl2 b hb => h l (by omega) hl2 b hb⟩
      have hb := List.mem_range.mp hb
      have := h w.length (Nat.le_refl _) (by simp) b hb
      rw [e1 b hb, e2] at this
      exact this

/-- the options of a machine's bobbins -/
def optM (m : Machine) : List (List (List Nat)) := m.bobbins.map fun x => optsOf x m.laid
theorem opts_len (x : Bobbin) (laid : Nat) : (optsOf x laid).length = min 8 x.left + 1 := by
  unfold optsOf
  rw [List.length_map, List.length_range]
theorem opts_get {x : Bobbin} {laid n : Nat} (h : n < min 8 x.left + 1) : (optsOf x laid).getD n [] = placesCut x laid n := by
  rw [getD_lt (by rw [opts_len]; exact h)]
  unfold optsOf
  rw [List.getElem_map, List.getElem_range]
theorem cuts_is (g : Nat) (x : Bobbin) (laid : Nat) (gone : List Nat) : cutsOf g (optsOf x laid) gone = (List.range (min 8 x.left + 1)).filter fun n => alone g (placesCut x laid n) gone := by
  unfold cutsOf
  rw [opts_len]
  refine List.filter_congr fun n hn => ?_
  rw [opts_get (List.mem_range.mp hn)]
theorem singles_is (m : Machine) : singles m.gap (optM m) m.gone = m.bobbins.map fun x => (List.range (min 8 x.left + 1)).filter fun n => alone m.gap (placesCut x m.laid n) m.gone := by
  unfold singles optM
  rw [List.map_map]
  refine List.map_congr_left fun x _ => ?_
  exact cuts_is _ _ _ _
theorem placesOf_cut (m : Machine) (x : Bobbin) (n : Nat) : Kp240.placesOf m (Kp240.cutOff x n) = placesCut x m.laid n := by
  unfold Kp240.placesOf Kp240.cutOff placesCut
  rw [List.map_map]
  rfl
/-- the groups behind a way to cut -/
def GG (m : Machine) (w : List Nat) : List (List Nat) := (List.range m.bobbins.length).map fun i => placesCut (m.bobbins.getD i ⟨1000, 0, []⟩) m.laid (w.getD i 0)
theorem cutAll_groups (m : Machine) (w : List Nat) : (Kp240.cutAll m.bobbins w).map (Kp240.placesOf m) = GG m w := by
  unfold Kp240.cutAll GG
  rw [List.map_map]
  refine List.map_congr_left fun i _ => ?_
  exact placesOf_cut _ _ _
theorem fine_way {m : Machine} {w : List Nat} (hw : w ∈ prod (m.bobbins.map fun x => List.range (min 8 x.left + 1))) :
    Kp240.fine m (Kp240.cutAll m.bobbins w) = (okExt (agB m.gap (optM m) (singles m.gap (optM m) m.gone)) [] w && coords (fun x n => alone m.gap (placesCut x m.laid n) m.gone) m.bobbins w) := by
  have hlen : w.length = m.bobbins.length := by rw [prod_len hw, List.length_map]
  have hOlen : (optM m).length = m.bobbins.length := List.length_map _
  have hin : ∀ (i : Nat) (h : i < m.bobbins.length), w.getD i 0 < min 8 m.bobbins[i].left + 1 := fun i h => by
    have := prod_at (i := i) (s := List.range (min 8 m.bobbins[i].left + 1)) hw (by rw [List.getElem?_map, List.getElem?_eq_getElem h]; rfl)
    exact List.mem_range.mp this
  rw [Bool.eq_iff_iff]
  unfold Kp240.fine
  rw [places_flat, cutAll_groups, fine_groups, Bool.and_eq_true, coords_iff hlen, okExt_iff]
  have hGlen : (GG m w).length = m.bobbins.length := by unfold GG; rw [List.length_map, List.length_range]
  have hG : ∀ (i : Nat) (h : i < m.bobbins.length) (h' : i < (GG m w).length), (GG m w)[i] = placesCut m.bobbins[i] m.laid (w.getD i 0) := fun i h h' => by
    have q : (GG m w)[i]? = some (placesCut m.bobbins[i] m.laid (w.getD i 0)) := by
      unfold GG
      rw [List.getElem?_map, List.getElem?_range h, Option.map_some, getD_lt h]
    exact (List.getElem?_eq_some_iff.mp q).2
  have a_iff : (∀ x ∈ GG m w, alone m.gap x m.gone = true) ↔ ∀ (i : Nat) (h : i < m.bobbins.length), alone m.gap (placesCut m.bobbins[i] m.laid (w.getD i 0)) m.gone = true := by
    constructor
    · intro h i hi
      have := h _ (List.getElem_mem (l := GG m w) (n := i) (by rw [hGlen]; exact hi))
      rw [hG i hi] at this
      exact this
    · intro h x hx
      obtain ⟨i, hi, rfl⟩ := List.getElem_of_mem hx
      rw [hG i (by rw [← hGlen]; exact hi)]
      exact h i _
  rw [a_iff, List.nil_append]
  have key : (∀ (i : Nat) (h : i < m.bobbins.length), alone m.gap (placesCut m.bobbins[i] m.laid (w.getD i 0)) m.gone = true) → ∀ (b l : Nat) (hbl : b < l) (hl : l < m.bobbins.length),
      (agB m.gap (optM m) (singles m.gap (optM m) m.gone) b (w.getD b 0) l (w.getD l 0) = true ↔ far m.gap (placesCut (m.bobbins[b]'(Nat.lt_trans hbl hl)) m.laid (w.getD b 0)) (placesCut m.bobbins[l] m.laid (w.getD l 0)) = true) := fun hA b l hbl hl => by
    have hb : b < m.bobbins.length := by omega
    have mem : ∀ (i : Nat) (h : i < m.bobbins.length), w.getD i 0 ∈ (singles m.gap (optM m) m.gone).getD i [] := fun i h => by
      rw [singles_is, getD_lt (by rw [List.length_map]; exact h), List.getElem_map, List.mem_filter]
      exact ⟨List.mem_range.mpr (hin i h), hA i h⟩
    have opt : ∀ (i : Nat) (h : i < m.bobbins.length), ((optM m).getD i []).getD (w.getD i 0) [] = placesCut m.bobbins[i] m.laid (w.getD i 0) := fun i h => by
      rw [getD_lt (l := optM m) (by rw [hOlen]; exact h)]
      unfold optM
      rw [List.getElem_map, opts_get (hin i h)]
    unfold agB
    rw [opt b hb, opt l hl, decide_eq_true hbl, decide_eq_true (show l < (optM m).length by rw [hOlen]; exact hl), decide_eq_true (mem b hb), decide_eq_true (mem l hl)]
    simp
  rw [List.pairwise_iff_getElem]
  constructor
  · rintro ⟨hA, hP⟩
    refine ⟨fun l _ hl b hb => ?_, hA⟩
    rw [hlen] at hl
    have := hP b l (by rw [hGlen]; omega) (by rw [hGlen]; exact hl) hb
    rw [hG b (by omega), hG l hl] at this
    exact (key hA b l hb hl).mpr this
  · rintro ⟨hE, hA⟩
    refine ⟨hA, fun b l hb' hl' hbl => ?_⟩
    have hl : l < m.bobbins.length := by rw [← hGlen]; exact hl'
    have := hE l (Nat.zero_le _) (by rw [hlen]; exact hl) b hbl
    rw [hG b (by omega), hG l hl]
    exact (key hA b l hbl hl).mp this
theorem least_is (m : Machine) : leastM m.gap (optM m) m.gone = Kp240.least m := by
  have h8 : ∀ s ∈ singles m.gap (optM m) m.gone, ∀ n ∈ s, n ≤ 8 := fun s hs n hn => by
    rw [singles_is] at hs
    obtain ⟨x, _, rfl⟩ := List.mem_map.mp hs
    have := List.mem_range.mp (List.mem_filter.mp hn).1
    omega
  have hOlen : (optM m).length = m.bobbins.length := List.length_map _
  have hSlen : (singles m.gap (optM m) m.gone).length = (optM m).length := List.length_map _
  unfold leastM
  have e1 : ∀ t ∈ List.range (8 * (optM m).length + 1), wot (agB m.gap (optM m) (singles m.gap (optM m) m.gone)) (singles m.gap (optM m) m.gone) [] t =
      ((prod (singles m.gap (optM m) m.gone)).filter (okExt (agB m.gap (optM m) (singles m.gap (optM m) m.gone)) [])).find? fun x => decide (x.sum = t) := fun t _ => by
    rw [wot_find h8, find_filter']
    cases (prod (singles m.gap (optM m) m.gone)).find? fun r => okExt (agB m.gap (optM m) (singles m.gap (optM m) m.gone)) [] r && decide (r.sum = t) with
    | none => rfl
    | some y => rfl
  rw [findSome_congr e1, first_least (f := List.sum)]
  · unfold Kp240.least
    have e2 : (fun (b : Option (List Nat)) (w : List Nat) => match b with
        | none => some w
        | some q => if Kp240.sumOf w < Kp240.sumOf q then some w else some q) = better List.sum := by
      funext b w
      cases b with
      | none => rfl
      | some q =>
        show (if Kp240.sumOf w < Kp240.sumOf q then some w else some q) = if w.sum < q.sum then some w else some q
        rw [sumOf_sum, sumOf_sum]
    refine Eq.trans (b := List.foldl (better List.sum) none ((Kp240.ways m.bobbins).filter fun w => Kp240.fine m (Kp240.cutAll m.bobbins w))) ?_ (congrArg (fun f => List.foldl f none ((Kp240.ways m.bobbins).filter fun w => Kp240.fine m (Kp240.cutAll m.bobbins w))) e2.symm)
    congr 1
    rw [ways_prod]
    rw [show prod (singles m.gap (optM m) m.gone) = (prod (m.bobbins.map fun x => List.range (min 8 x.left + 1))).filter (coords (fun x n => alone m.gap (placesCut x m.laid n) m.gone) m.bobbins) from by
      rw [singles_is]
      exact prod_filter (r := fun (x : Bobbin) => List.range (min 8 x.left + 1)) (c := fun x n => alone m.gap (placesCut x m.laid n) m.gone)]
    rw [List.filter_filter]
    exact (List.filter_congr fun w hw => fine_way hw).symm
  · intro x hx
    have := prod_sum h8 (List.mem_filter.mp hx).1
    rw [hSlen] at this
    exact this
end LS

namespace LS
open PySem PySem.Spec PyProof.Rows L2
structure All (K : PySem.W.Frag) (mg : Str → Option Value) (CBobbin CStrand : Addr) : Prop where
  g_Bobbin : mg "Bobbin" = some (.ref CBobbin)
  c_Bobbin : Cls K CBobbin
  mk_Bobbin : PySem.W.makesIn K CBobbin = true
  kp_Bobbin : PySem.W.keepIn K (.ref CBobbin) = true
  n_Bobbin_lay : NoAttr K CBobbin "lay"
  n_Bobbin_left : NoAttr K CBobbin "left"
  n_Bobbin_joints : NoAttr K CBobbin "joints"
  g_Strand : mg "Strand" = some (.ref CStrand)
  c_Strand : Cls K CStrand
  mk_Strand : PySem.W.makesIn K CStrand = true
  kp_Strand : PySem.W.keepIn K (.ref CStrand) = true
  n_Strand_begun : NoAttr K CStrand "begun"
  n_Strand_gap : NoAttr K CStrand "gap"
  n_Strand_bobbins : NoAttr K CStrand "bobbins"
  n_Strand_laid : NoAttr K CStrand "laid"
  n_Strand_passed : NoAttr K CStrand "passed"
  n_Strand_cut_off : NoAttr K CStrand "cut_off"
  m_Bobbin___init__ : MethIs K CBobbin "__init__" "Bobbin.__init__" (inClass (top 2) 0)
  m_Bobbin_place : MethIs K CBobbin "place" "Bobbin.place" (inClass (top 2) 1)
  m_Bobbin_places_behind : MethIs K CBobbin "places_behind" "Bobbin.places_behind" (inClass (top 2) 2)
  m_Bobbin_places_within : MethIs K CBobbin "places_within" "Bobbin.places_within" (inClass (top 2) 3)
  m_Bobbin_wire_for : MethIs K CBobbin "wire_for" "Bobbin.wire_for" (inClass (top 2) 4)
  m_Bobbin_lasts_for : MethIs K CBobbin "lasts_for" "Bobbin.lasts_for" (inClass (top 2) 5)
  m_Bobbin_add_joint : MethIs K CBobbin "add_joint" "Bobbin.add_joint" (inClass (top 2) 6)
  m_Bobbin_lengthen : MethIs K CBobbin "lengthen" "Bobbin.lengthen" (inClass (top 2) 7)
  m_Bobbin_shorten : MethIs K CBobbin "shorten" "Bobbin.shorten" (inClass (top 2) 8)
  f_apart : FunIs K mg "apart" (top 4)
  f_steps : FunIs K mg "steps" (top 5)
  f_apart_within : FunIs K mg "apart_within" (top 6)
  f_fine_alone : FunIs K mg "fine_alone" (top 7)
  f_fine_beside_others : FunIs K mg "fine_beside_others" (top 8)
  f_bad_bobbins : FunIs K mg "bad_bobbins" (top 9)
  f_all_fine : FunIs K mg "all_fine" (top 10)
  f_options_of : FunIs K mg "options_of" (top 13)
  f_cuts_fine_alone : FunIs K mg "cuts_fine_alone" (top 14)
  f_agreeing_cuts : FunIs K mg "agreeing_cuts" (top 15)
  f_agrees : FunIs K mg "agrees" (top 16)
  f_way_of_total : FunIs K mg "way_of_total" (top 17)
  f_least_way : FunIs K mg "least_way" (top 18)
  m_Strand___init__ : MethIs K CStrand "__init__" "Strand.__init__" (inClass (top 39) 0)
  m_Strand_restart : MethIs K CStrand "restart" "Strand.restart" (inClass (top 39) 1)
  m_Strand_groups : MethIs K CStrand "groups" "Strand.groups" (inClass (top 39) 2)
  m_Strand_is_fine : MethIs K CStrand "is_fine" "Strand.is_fine" (inClass (top 39) 3)
  m_Strand_best_way : MethIs K CStrand "best_way" "Strand.best_way" (inClass (top 39) 4)
  m_Strand_cut_bobbin : MethIs K CStrand "cut_bobbin" "Strand.cut_bobbin" (inClass (top 39) 5)
  m_Strand_lasts_for : MethIs K CStrand "lasts_for" "Strand.lasts_for" (inClass (top 39) 6)
  m_Strand_lay_strand : MethIs K CStrand "lay_strand" "Strand.lay_strand" (inClass (top 39) 7)
  f_call_begin : FunIs K mg "call_begin" (top 40)
  f_call_bobbin : FunIs K mg "call_bobbin" (top 41)
  f_call_joint : FunIs K mg "call_joint" (top 42)
  f_joins_out_of_bounds : FunIs K mg "joins_out_of_bounds" (top 43)
  f_call_join : FunIs K mg "call_join" (top 44)
  f_call_could : FunIs K mg "call_could" (top 45)
  f_call_cut : FunIs K mg "call_cut" (top 46)
  f_call_least : FunIs K mg "call_least" (top 47)
  f_call_cutleast : FunIs K mg "call_cutleast" (top 48)
  f_call_fine : FunIs K mg "call_fine" (top 49)
  f_call_bad : FunIs K mg "call_bad" (top 50)
  f_call_nearest : FunIs K mg "call_nearest" (top 51)
  f_refusal_of_run : FunIs K mg "refusal_of_run" (top 52)
  f_call_run : FunIs K mg "call_run" (top 53)
  f_call_may : FunIs K mg "call_may" (top 54)
  f_call_lasts : FunIs K mg "call_lasts" (top 55)
  f_call_places : FunIs K mg "call_places" (top 56)
  f_call_next : FunIs K mg "call_next" (top 57)
  f_call_gone : FunIs K mg "call_gone" (top 58)
  f_call_wire : FunIs K mg "call_wire" (top 59)
  f_call_look : FunIs K mg "call_look" (top 60)
  f_call_sums : FunIs K mg "call_sums" (top 61)
  f_answer_call : FunIs K mg "answer_call" (top 63)
  f_answers : FunIs K mg "answers" (top 64)
  g_METRE : ∃ t, mg "METRE" = some (.int (1000) t)
  g_MOST_CUT : ∃ t, mg "MOST_CUT" = some (.int (8) t)
  g_NO_SUCH_BOBBIN : ∃ t, mg "NO_SUCH_BOBBIN" = some (.int (-2) t)
  g_NOT_BEGUN : ∃ t, mg "NOT_BEGUN" = some (.int (-11) t)
  g_TOO_LITTLE_LEFT : ∃ t, mg "TOO_LITTLE_LEFT" = some (.int (-12) t)
  g_THERE_ALREADY : ∃ t, mg "THERE_ALREADY" = some (.int (-17) t)
  g_OUT_OF_BOUNDS : ∃ t, mg "OUT_OF_BOUNDS" = some (.int (-22) t)
  g_FULL : ∃ t, mg "FULL" = some (.int (-28) t)
  g_NO_WAY : ∃ t, mg "NO_WAY" = some (.int (-33) t)
  g_NOT_FINE : ∃ t, mg "NOT_FINE" = some (.int (-33) t)
  g_TOO_FEW_JOINTS : ∃ t, mg "TOO_FEW_JOINTS" = some (.int (-33) t)
  g_MOST_GAP : ∃ t, mg "MOST_GAP" = some (.int (10000) t)
  g_LEAST_LAY : ∃ t, mg "LEAST_LAY" = some (.int (1000) t)
  g_MOST_LAY : ∃ t, mg "MOST_LAY" = some (.int (2000) t)
  g_MOST_LEFT : ∃ t, mg "MOST_LEFT" = some (.int (100000) t)
  g_MOST_RUN : ∃ t, mg "MOST_RUN" = some (.int (100000) t)
  g_MOST_BOBBINS : ∃ t, mg "MOST_BOBBINS" = some (.int (4) t)
  g_MOST_JOINTS : ∃ t, mg "MOST_JOINTS" = some (.int (4) t)
  g_BEGIN : ∃ t, mg "BEGIN" = some (.int (0) t)
  t_ARGUMENTS : ∃ a, mg "ARGUMENTS" = some (.ref a) ∧ ∀ H : Hp, SqT K H a [.int 1, .int 2, .int 2, .int 2, .int 2, .int 2, .int 0, .int 0, .int 0, .int 0, .int 0, .int 1, .int 1, .int 0, .int 1, .int 0, .int 0, .int 2, .int 1, .int 0]
  t_OF_A_BOBBIN : ∃ a, mg "OF_A_BOBBIN" = some (.ref a) ∧ ∀ H : Hp, SqT K H a [.int 2, .int 3, .int 4, .int 5, .int 14, .int 17, .int 18]
  t_HANDLERS : ∃ (a : Addr) (fs : List Addr), mg "HANDLERS" = some (.ref a) ∧ (∀ H : Hp, SqT K H a (fs.map V.ref)) ∧ Paired (fun (x : Str) (f : Addr) => mg x = some (.ref f)) ["call_begin", "call_bobbin", "call_joint", "call_join", "call_could", "call_cut", "call_least", "call_cutleast", "call_fine", "call_bad", "call_nearest", "call_run", "call_may", "call_lasts", "call_places", "call_next", "call_gone", "call_wire", "call_look", "call_sums"] fs
  b_len : mg "len" = none
  b_abs : mg "abs" = none
  b_min : mg "min" = none
  b_sum : mg "sum" = none
  b_sorted : mg "sorted" = none
  b_range : mg "range" = none
  b_enumerate : mg "enumerate" = none
  b_list : mg "list" = none
theorem all_mk {K : PySem.W.Frag} {h : Heap} {mg : Str → Option Value} {CBobbin CStrand : Addr} {f0 : Addr} {oc0 kV0 dc0 pm0 cd0 ct0 : Value} {od0 an0 : Option Addr} {sl0 : Array (Option Value)} {f1 : Addr} {oc1 kV1 dc1 pm1 cd1 ct1 : Value} {od1 an1 : Option Addr} {sl1 : Array (Option Value)} {f2 : Addr} {oc2 kV2 dc2 pm2 cd2 ct2 : Value} {od2 an2 : Option Addr} {sl2 : Array (Option Value)} {f3 : Addr} {oc3 kV3 dc3 pm3 cd3 ct3 : Value} {od3 an3 : Option Addr} {sl3 : Array (Option Value)} {f4 : Addr} {oc4 kV4 dc4 pm4 cd4 ct4 : Value} {od4 an4 : Option Addr} {sl4 : Array (Option Value)} {f5 : Addr} {oc5 kV5 dc5 pm5 cd5 ct5 : Value} {od5 an5 : Option Addr} {sl5 : Array (Option Value)} {f6 : Addr} {oc6 kV6 dc6 pm6 cd6 ct6 : Value} {od6 an6 : Option Addr} {sl6 : Array (Option Value)} {f7 : Addr} {oc7 kV7 dc7 pm7 cd7 ct7 : Value} {od7 an7 : Option Addr} {sl7 : Array (Option Value)} {f8 : Addr} {oc8 kV8 dc8 pm8 cd8 ct8 : Value} {od8 an8 : Option Addr} {sl8 : Array (Option Value)} {f9 : Addr} {oc9 kV9 dc9 pm9 cd9 ct9 : Value} {od9 an9 : Option Addr} {sl9 : Array (Option Value)} {f10 : Addr} {oc10 kV10 dc10 pm10 cd10 ct10 : Value} {od10 an10 : Option Addr} {sl10 : Array (Option Value)} {f11 : Addr} {oc11 kV11 dc11 pm11 cd11 ct11 : Value} {od11 an11 : Option Addr} {sl11 : Array (Option Value)} {f12 : Addr} {oc12 kV12 dc12 pm12 cd12 ct12 : Value} {od12 an12 : Option Addr} {sl12 : Array (Option Value)} {f13 : Addr} {oc13 kV13 dc13 pm13 cd13 ct13 : Value} {od13 an13 : Option Addr} {sl13 : Array (Option Value)} {f14 : Addr} {oc14 kV14 dc14 pm14 cd14 ct14 : Value} {od14 an14 : Option Addr} {sl14 : Array (Option Value)} {f15 : Addr} {oc15 kV15 dc15 pm15 cd15 ct15 : Value} {od15 an15 : Option Addr} {sl15 : Array (Option Value)} {f16 : Addr} {oc16 kV16 dc16 pm16 cd16 ct16 : Value} {od16 an16 : Option Addr} {sl16 : Array (Option Value)} {f17 : Addr} {oc17 kV17 dc17 pm17 cd17 ct17 : Value} {od17 an17 : Option Addr} {sl17 : Array (Option Value)} {f18 : Addr} {oc18 kV18 dc18 pm18 cd18 ct18 : Value} {od18 an18 : Option Addr} {sl18 : Array (Option Value)} {f19 : Addr} {oc19 kV19 dc19 pm19 cd19 ct19 : Value} {od19 an19 : Option Addr} {sl19 : Array (Option Value)} {f20 : Addr} {oc20 kV20 dc20 pm20 cd20 ct20 : Value} {od20 an20 : Option Addr} {sl20 : Array (Option Value)} {f21 : Addr} {oc21 kV21 dc21 pm21 cd21 ct21 : Value} {od21 an21 : Option Addr} {sl21 : Array (Option Value)} {f22 : Addr} {oc22 kV22 dc22 pm22 cd22 ct22 : Value} {od22 an22 : Option Addr} {sl22 : Array (Option Value)} {f23 : Addr} {oc23 kV23 dc23 pm23 cd23 ct23 : Value} {od23 an23 : Option Addr} {sl23 : Array (Option Value)} {f24 : Addr} {oc24 kV24 dc24 pm24 cd24 ct24 : Value} {od24 an24 : Option Addr} {sl24 : Array (Option Value)} {f25 : Addr} {oc25 kV25 dc25 pm25 cd25 ct25 : Value} {od25 an25 : Option Addr} {sl25 : Array (Option Value)} {f26 : Addr} {oc26 kV26 dc26 pm26 cd26 ct26 : Value} {od26 an26 : Option Addr} {sl26 : Array (Option Value)} {f27 : Addr} {oc27 kV27 dc27 pm27 cd27 ct27 : Value} {od27 an27 : Option Addr} {sl27 : Array (Option Value)} {f28 : Addr} {oc28 kV28 dc28 pm28 cd28 ct28 : Value} {od28 an28 : Option Addr} {sl28 : Array (Option Value)} {f29 : Addr} {oc29 kV29 dc29 pm29 cd29 ct29 : Value} {od29 an29 : Option Addr} {sl29 : Array (Option Value)} {f30 : Addr} {oc30 kV30 dc30 pm30 cd30 ct30 : Value} {od30 an30 : Option Addr} {sl30 : Array (Option Value)} {f31 : Addr} {oc31 kV31 dc31 pm31 cd31 ct31 : Value} {od31 an31 : Option Addr} {sl31 : Array (Option Value)} {f32 : Addr} {oc32 kV32 dc32 pm32 cd32 ct32 : Value} {od32 an32 : Option Addr} {sl32 : Array (Option Value)} {f33 : Addr} {oc33 kV33 dc33 pm33 cd33 ct33 : Value} {od33 an33 : Option Addr} {sl33 : Array (Option Value)} {f34 : Addr} {oc34 kV34 dc34 pm34 cd34 ct34 : Value} {od34 an34 : Option Addr} {sl34 : Array (Option Value)} {f35 : Addr} {oc35 kV35 dc35 pm35 cd35 ct35 : Value} {od35 an35 : Option Addr} {sl35 : Array (Option Value)} {f36 : Addr} {oc36 kV36 dc36 pm36 cd36 ct36 : Value} {od36 an36 : Option Addr} {sl36 : Array (Option Value)} {f37 : Addr} {oc37 kV37 dc37 pm37 cd37 ct37 : Value} {od37 an37 : Option Addr} {sl37 : Array (Option Value)} {f38 : Addr} {oc38 kV38 dc38 pm38 cd38 ct38 : Value} {od38 an38 : Option Addr} {sl38 : Array (Option Value)} {f39 : Addr} {oc39 kV39 dc39 pm39 cd39 ct39 : Value} {od39 an39 : Option Addr} {sl39 : Array (Option Value)} {f40 : Addr} {oc40 kV40 dc40 pm40 cd40 ct40 : Value} {od40 an40 : Option Addr} {sl40 : Array (Option Value)} {f41 : Addr} {oc41 kV41 dc41 pm41 cd41 ct41 : Value} {od41 an41 : Option Addr} {sl41 : Array (Option Value)} {f42 : Addr} {oc42 kV42 dc42 pm42 cd42 ct42 : Value} {od42 an42 : Option Addr} {sl42 : Array (Option Value)} {f43 : Addr} {oc43 kV43 dc43 pm43 cd43 ct43 : Value} {od43 an43 : Option Addr} {sl43 : Array (Option Value)} {f44 : Addr} {oc44 kV44 dc44 pm44 cd44 ct44 : Value} {od44 an44 : Option Addr} {sl44 : Array (Option Value)} {f45 : Addr} {oc45 kV45 dc45 pm45 cd45 ct45 : Value} {od45 an45 : Option Addr} {sl45 : Array (Option Value)} {f46 : Addr} {oc46 kV46 dc46 pm46 cd46 ct46 : Value} {od46 an46 : Option Addr} {sl46 : Array (Option Value)} {f47 : Addr} {oc47 kV47 dc47 pm47 cd47 ct47 : Value} {od47 an47 : Option Addr} {sl47 : Array (Option Value)} {f48 : Addr} {oc48 kV48 dc48 pm48 cd48 ct48 : Value} {od48 an48 : Option Addr} {sl48 : Array (Option Value)} {f49 : Addr} {oc49 kV49 dc49 pm49 cd49 ct49 : Value} {od49 an49 : Option Addr} {sl49 : Array (Option Value)} {f50 : Addr} {oc50 kV50 dc50 pm50 cd50 ct50 : Value} {od50 an50 : Option Addr} {sl50 : Array (Option Value)} {f51 : Addr} {oc51 kV51 dc51 pm51 cd51 ct51 : Value} {od51 an51 : Option Addr} {sl51 : Array (Option Value)} {f52 : Addr} {oc52 kV52 dc52 pm52 cd52 ct52 : Value} {od52 an52 : Option Addr} {sl52 : Array (Option Value)} {f53 : Addr} {oc53 kV53 dc53 pm53 cd53 ct53 : Value} {od53 an53 : Option Addr} {sl53 : Array (Option Value)} {t_METRE : Tok} {t_MOST_CUT : Tok} {t_NO_SUCH_BOBBIN : Tok} {t_NOT_BEGUN : Tok} {t_TOO_LITTLE_LEFT : Tok} {t_THERE_ALREADY : Tok} {t_OUT_OF_BOUNDS : Tok} {t_FULL : Tok} {t_NO_WAY : Tok} {t_NOT_FINE : Tok} {t_TOO_FEW_JOINTS : Tok} {t_MOST_GAP : Tok} {t_LEAST_LAY : Tok} {t_MOST_LAY : Tok} {t_MOST_LEFT : Tok} {t_MOST_RUN : Tok} {t_MOST_BOBBINS : Tok} {t_MOST_JOINTS : Tok} {t_BEGIN : Tok} {a_ARGUMENTS : Addr} {oc_ARGUMENTS : Option Addr} {n_ARGUMENTS : Nat} {sl_ARGUMENTS : Array (Option Value)} {t_ARGUMENTS_0 t_ARGUMENTS_1 t_ARGUMENTS_2 t_ARGUMENTS_3 t_ARGUMENTS_4 t_ARGUMENTS_5 t_ARGUMENTS_6 t_ARGUMENTS_7 t_ARGUMENTS_8 t_ARGUMENTS_9 t_ARGUMENTS_10 t_ARGUMENTS_11 t_ARGUMENTS_12 t_ARGUMENTS_13 t_ARGUMENTS_14 t_ARGUMENTS_15 t_ARGUMENTS_16 t_ARGUMENTS_17 t_ARGUMENTS_18 t_ARGUMENTS_19 : Tok} {a_OF_A_BOBBIN : Addr} {oc_OF_A_BOBBIN : Option Addr} {n_OF_A_BOBBIN : Nat} {sl_OF_A_BOBBIN : Array (Option Value)} {t_OF_A_BOBBIN_0 t_OF_A_BOBBIN_1 t_OF_A_BOBBIN_2 t_OF_A_BOBBIN_3 t_OF_A_BOBBIN_4 t_OF_A_BOBBIN_5 t_OF_A_BOBBIN_6 : Tok} {a_HANDLERS : Addr} {oc_HANDLERS : Option Addr} {n_HANDLERS : Nat} {sl_HANDLERS : Array (Option Value)} (X : K.In h) (G : h.Ns mainGlobals mg)
    (h1 : PySem.W.nsIn K mainGlobals "Bobbin" = some (some (.ref CBobbin)))
    (h2 : PySem.W.plainGet K CBobbin Str.empty = true)
    (h3 : PySem.W.hasDictIn K CBobbin = true)
    (h4 : PySem.W.plainOver K CBobbin = true)
    (h5 : PySem.W.findIn K (.ref CBobbin) "__setattr__" = some (some (.builtin "object.__setattr__")))
    (h6 : PySem.W.makesIn K CBobbin = true)
    (h7 : PySem.W.keepIn K (.ref CBobbin) = true)
    (h8 : PySem.W.findIn K (.ref CBobbin) "lay" = some none)
    (h9 : PySem.W.findIn K (.ref CBobbin) "left" = some none)
    (h10 : PySem.W.findIn K (.ref CBobbin) "joints" = some none)
    (h11 : PySem.W.nsIn K mainGlobals "Strand" = some (some (.ref CStrand)))
    (h12 : PySem.W.plainGet K CStrand Str.empty = true)
    (h13 : PySem.W.hasDictIn K CStrand = true)
    (h14 : PySem.W.plainOver K CStrand = true)
    (h15 : PySem.W.findIn K (.ref CStrand) "__setattr__" = some (some (.builtin "object.__setattr__")))
    (h16 : PySem.W.makesIn K CStrand = true)
    (h17 : PySem.W.keepIn K (.ref CStrand) = true)
    (h18 : PySem.W.findIn K (.ref CStrand) "begun" = some none)
    (h19 : PySem.W.findIn K (.ref CStrand) "gap" = some none)
    (h20 : PySem.W.findIn K (.ref CStrand) "bobbins" = some none)
    (h21 : PySem.W.findIn K (.ref CStrand) "laid" = some none)
    (h22 : PySem.W.findIn K (.ref CStrand) "passed" = some none)
    (h23 : PySem.W.findIn K (.ref CStrand) "cut_off" = some none)
    (h24 : PySem.W.findIn K (.ref CBobbin) "__init__" = some (some (.ref f0)))
    (h25 : PySem.W.isFn K (.ref f0) = true)
    (h26 : K.lookup f0 = some ⟨oc0, od0, .func (PySem.W.fnOf "__init__" "Bobbin.__init__" (defArgs (inClass (top 2) 0)) (defBody (inClass (top 2) 0)) (defScope (inClass (top 2) 0)) .none kV0 dc0 pm0 an0 cd0 ct0), sl0⟩)
    (h27 : PySem.W.codeIn K cd0 "Bobbin.__init__" = true)
    (h28 : PySem.W.keepIn K (.ref f0) = true)
    (h29 : PySem.W.findIn K (.ref CBobbin) "place" = some (some (.ref f1)))
    (h30 : PySem.W.isFn K (.ref f1) = true)
    (h31 : K.lookup f1 = some ⟨oc1, od1, .func (PySem.W.fnOf "place" "Bobbin.place" (defArgs (inClass (top 2) 1)) (defBody (inClass (top 2) 1)) (defScope (inClass (top 2) 1)) .none kV1 dc1 pm1 an1 cd1 ct1), sl1⟩)
    (h32 : PySem.W.codeIn K cd1 "Bobbin.place" = true)
    (h33 : PySem.W.keepIn K (.ref f1) = true)
    (h34 : PySem.W.findIn K (.ref CBobbin) "places_behind" = some (some (.ref f2)))
    (h35 : PySem.W.isFn K (.ref f2) = true)
    (h36 : K.lookup f2 = some ⟨oc2, od2, .func (PySem.W.fnOf "places_behind" "Bobbin.places_behind" (defArgs (inClass (top 2) 2)) (defBody (inClass (top 2) 2)) (defScope (inClass (top 2) 2)) .none kV2 dc2 pm2 an2 cd2 ct2), sl2⟩)
    (h37 : PySem.W.codeIn K cd2 "Bobbin.places_behind" = true)
    (h38 : PySem.W.keepIn K (.ref f2) = true)
    (h39 : PySem.W.findIn K (.ref CBobbin) "places_within" = some (some (.ref f3)))
    (h40 : PySem.W.isFn K (.ref f3) = true)
    (h41 : K.lookup f3 = some ⟨oc3, od3, .func (PySem.W.fnOf "places_within" "Bobbin.places_within" (defArgs (inClass (top 2) 3)) (defBody (inClass (top 2) 3)) (defScope (inClass (top 2) 3)) .none kV3 dc3 pm3 an3 cd3 ct3), sl3⟩)
    (h42 : PySem.W.codeIn K cd3 "Bobbin.places_within" = true)
    (h43 : PySem.W.keepIn K (.ref f3) = true)
    (h44 : PySem.W.findIn K (.ref CBobbin) "wire_for" = some (some (.ref f4)))
    (h45 : PySem.W.isFn K (.ref f4) = true)
    (h46 : K.lookup f4 = some ⟨oc4, od4, .func (PySem.W.fnOf "wire_for" "Bobbin.wire_for" (defArgs (inClass (top 2) 4)) (defBody (inClass (top 2) 4)) (defScope (inClass (top 2) 4)) .none kV4 dc4 pm4 an4 cd4 ct4), sl4⟩)
    (h47 : PySem.W.codeIn K cd4 "Bobbin.wire_for" = true)
    (h48 : PySem.W.keepIn K (.ref f4) = true)
    (h49 : PySem.W.findIn K (.ref CBobbin) "lasts_for" = some (some (.ref f5)))
    (h50 : PySem.W.isFn K (.ref f5) = true)
    (h51 : K.lookup f5 = some ⟨oc5, od5, .func (PySem.W.fnOf "lasts_for" "Bobbin.lasts_for" (defArgs (inClass (top 2) 5)) (defBody (inClass (top 2) 5)) (defScope (inClass (top 2) 5)) .none kV5 dc5 pm5 an5 cd5 ct5), sl5⟩)
    (h52 : PySem.W.codeIn K cd5 "Bobbin.lasts_for" = true)
    (h53 : PySem.W.keepIn K (.ref f5) = true)
    (h54 : PySem.W.findIn K (.ref CBobbin) "add_joint" = some (some (.ref f6)))
    (h55 : PySem.W.isFn K (.ref f6) = true)
    (h56 : K.lookup f6 = some ⟨oc6, od6, .func (PySem.W.fnOf "add_joint" "Bobbin.add_joint" (defArgs (inClass (top 2) 6)) (defBody (inClass (top 2) 6)) (defScope (inClass (top 2) 6)) .none kV6 dc6 pm6 an6 cd6 ct6), sl6⟩)
    (h57 : PySem.W.codeIn K cd6 "Bobbin.add_joint" = true)
    (h58 : PySem.W.keepIn K (.ref f6) = true)
    (h59 : PySem.W.findIn K (.ref CBobbin) "lengthen" = some (some (.ref f7)))
    (h60 : PySem.W.isFn K (.ref f7) = true)
    (h61 : K.lookup f7 = some ⟨oc7, od7, .func (PySem.W.fnOf "lengthen" "Bobbin.lengthen" (defArgs (inClass (top 2) 7)) (defBody (inClass (top 2) 7)) (defScope (inClass (top 2) 7)) .none kV7 dc7 pm7 an7 cd7 ct7), sl7⟩)
    (h62 : PySem.W.codeIn K cd7 "Bobbin.lengthen" = true)
    (h63 : PySem.W.keepIn K (.ref f7) = true)
    (h64 : PySem.W.findIn K (.ref CBobbin) "shorten" = some (some (.ref f8)))
    (h65 : PySem.W.isFn K (.ref f8) = true)
    (h66 : K.lookup f8 = some ⟨oc8, od8, .func (PySem.W.fnOf "shorten" "Bobbin.shorten" (defArgs (inClass (top 2) 8)) (defBody (inClass (top 2) 8)) (defScope (inClass (top 2) 8)) .none kV8 dc8 pm8 an8 cd8 ct8), sl8⟩)
    (h67 : PySem.W.codeIn K cd8 "Bobbin.shorten" = true)
    (h68 : PySem.W.keepIn K (.ref f8) = true)
    (h69 : PySem.W.nsIn K mainGlobals "apart" = some (some (.ref f9)))
    (h70 : K.lookup f9 = some ⟨oc9, od9, .func (PySem.W.fnOf "apart" "apart" (defArgs (top 4)) (defBody (top 4)) (defScope (top 4)) .none kV9 dc9 pm9 an9 cd9 ct9), sl9⟩)
    (h71 : PySem.W.codeIn K cd9 "apart" = true)
    (h72 : PySem.W.keepIn K (.ref f9) = true)
    (h73 : PySem.W.nsIn K mainGlobals "steps" = some (some (.ref f10)))
    (h74 : K.lookup f10 = some ⟨oc10, od10, .func (PySem.W.fnOf "steps" "steps" (defArgs (top 5)) (defBody (top 5)) (defScope (top 5)) .none kV10 dc10 pm10 an10 cd10 ct10), sl10⟩)
    (h75 : PySem.W.codeIn K cd10 "steps" = true)
    (h76 : PySem.W.keepIn K (.ref f10) = true)
    (h77 : PySem.W.nsIn K mainGlobals "apart_within" = some (some (.ref f11)))
    (h78 : K.lookup f11 = some ⟨oc11, od11, .func (PySem.W.fnOf "apart_within" "apart_within" (defArgs (top 6)) (defBody (top 6)) (defScope (top 6)) .none kV11 dc11 pm11 an11 cd11 ct11), sl11⟩)
    (h79 : PySem.W.codeIn K cd11 "apart_within" = true)
    (h80 : PySem.W.keepIn K (.ref f11) = true)
    (h81 : PySem.W.nsIn K mainGlobals "fine_alone" = some (some (.ref f12)))
    (h82 : K.lookup f12 = some ⟨oc12, od12, .func (PySem.W.fnOf "fine_alone" "fine_alone" (defArgs (top 7)) (defBody (top 7)) (defScope (top 7)) .none kV12 dc12 pm12 an12 cd12 ct12), sl12⟩)
    (h83 : PySem.W.codeIn K cd12 "fine_alone" = true)
    (h84 : PySem.W.keepIn K (.ref f12) = true)
    (h85 : PySem.W.nsIn K mainGlobals "fine_beside_others" = some (some (.ref f13)))
    (h86 : K.lookup f13 = some ⟨oc13, od13, .func (PySem.W.fnOf "fine_beside_others" "fine_beside_others" (defArgs (top 8)) (defBody (top 8)) (defScope (top 8)) .none kV13 dc13 pm13 an13 cd13 ct13), sl13⟩)
    (h87 : PySem.W.codeIn K cd13 "fine_beside_others" = true)
    (h88 : PySem.W.keepIn K (.ref f13) = true)
    (h89 : PySem.W.nsIn K mainGlobals "bad_bobbins" = some (some (.ref f14)))
    (h90 : K.lookup f14 = some ⟨oc14, od14, .func (PySem.W.fnOf "bad_bobbins" "bad_bobbins" (defArgs (top 9)) (defBody (top 9)) (defScope (top 9)) .none kV14 dc14 pm14 an14 cd14 ct14), sl14⟩)
    (h91 : PySem.W.codeIn K cd14 "bad_bobbins" = true)
    (h92 : PySem.W.keepIn K (.ref f14) = true)
    (h93 : PySem.W.nsIn K mainGlobals "all_fine" = some (some (.ref f15)))
    (h94 : K.lookup f15 = some ⟨oc15, od15, .func (PySem.W.fnOf "all_fine" "all_fine" (defArgs (top 10)) (defBody (top 10)) (defScope (top 10)) .none kV15 dc15 pm15 an15 cd15 ct15), sl15⟩)
    (h95 : PySem.W.codeIn K cd15 "all_fine" = true)
    (h96 : PySem.W.keepIn K (.ref f15) = true)
    (h97 : PySem.W.nsIn K mainGlobals "options_of" = some (some (.ref f16)))
    (h98 : K.lookup f16 = some ⟨oc16, od16, .func (PySem.W.fnOf "options_of" "options_of" (defArgs (top 13)) (defBody (top 13)) (defScope (top 13)) .none kV16 dc16 pm16 an16 cd16 ct16), sl16⟩)
    (h99 : PySem.W.codeIn K cd16 "options_of" = true)
    (h100 : PySem.W.keepIn K (.ref f16) = true)
    (h101 : PySem.W.nsIn K mainGlobals "cuts_fine_alone" = some (some (.ref f17)))
    (h102 : K.lookup f17 = some ⟨oc17, od17, .func (PySem.W.fnOf "cuts_fine_alone" "cuts_fine_alone" (defArgs (top 14)) (defBody (top 14)) (defScope (top 14)) .none kV17 dc17 pm17 an17 cd17 ct17), sl17⟩)
    (h103 : PySem.W.codeIn K cd17 "cuts_fine_alone" = true)
    (h104 : PySem.W.keepIn K (.ref f17) = true)
    (h105 : PySem.W.nsIn K mainGlobals "agreeing_cuts" = some (some (.ref f18)))
    (h106 : K.lookup f18 = some ⟨oc18, od18, .func (PySem.W.fnOf "agreeing_cuts" "agreeing_cuts" (defArgs (top 15)) (defBody (top 15)) (defScope (top 15)) .none kV18 dc18 pm18 an18 cd18 ct18), sl18⟩)
    (h107 : PySem.W.codeIn K cd18 "agreeing_cuts" = true)
    (h108 : PySem.W.keepIn K (.ref f18) = true)
    (h109 : PySem.W.nsIn K mainGlobals "agrees" = some (some (.ref f19)))
    (h110 : K.lookup f19 = some ⟨oc19, od19, .func (PySem.W.fnOf "agrees" "agrees" (defArgs (top 16)) (defBody (top 16)) (defScope (top 16)) .none kV19 dc19 pm19 an19 cd19 ct19), sl19⟩)
    (h111 : PySem.W.codeIn K cd19 "agrees" = true)
    (h112 : PySem.W.keepIn K (.ref f19) = true)
    (h113 : PySem.W.nsIn K mainGlobals "way_of_total" = some (some (.ref f20)))
    (h114 : K.lookup f20 = some ⟨oc20, od20, .func (PySem.W.fnOf "way_of_total" "way_of_total" (defArgs (top 17)) (defBody (top 17)) (defScope (top 17)) .none kV20 dc20 pm20 an20 cd20 ct20), sl20⟩)
    (h115 : PySem.W.codeIn K cd20 "way_of_total" = true)
    (h116 : PySem.W.keepIn K (.ref f20) = true)
    (h117 : PySem.W.nsIn K mainGlobals "least_way" = some (some (.ref f21)))
    (h118 : K.lookup f21 = some ⟨oc21, od21, .func (PySem.W.fnOf "least_way" "least_way" (defArgs (top 18)) (defBody (top 18)) (defScope (top 18)) .none kV21 dc21 pm21 an21 cd21 ct21), sl21⟩)
    (h119 : PySem.W.codeIn K cd21 "least_way" = true)
    (h120 : PySem.W.keepIn K (.ref f21) = true)
    (h121 : PySem.W.findIn K (.ref CStrand) "__init__" = some (some (.ref f22)))
    (h122 : PySem.W.isFn K (.ref f22) = true)
    (h123 : K.lookup f22 = some ⟨oc22, od22, .func (PySem.W.fnOf "__init__" "Strand.__init__" (defArgs (inClass (top 39) 0)) (defBody (inClass (top 39) 0)) (defScope (inClass (top 39) 0)) .none kV22 dc22 pm22 an22 cd22 ct22), sl22⟩)
    (h124 : PySem.W.codeIn K cd22 "Strand.__init__" = true)
    (h125 : PySem.W.keepIn K (.ref f22) = true)
    (h126 : PySem.W.findIn K (.ref CStrand) "restart" = some (some (.ref f23)))
    (h127 : PySem.W.isFn K (.ref f23) = true)
    (h128 : K.lookup f23 = some ⟨oc23, od23, .func (PySem.W.fnOf "restart" "Strand.restart" (defArgs (inClass (top 39) 1)) (defBody (inClass (top 39) 1)) (defScope (inClass (top 39) 1)) .none kV23 dc23 pm23 an23 cd23 ct23), sl23⟩)
    (h129 : PySem.W.codeIn K cd23 "Strand.restart" = true)
    (h130 : PySem.W.keepIn K (.ref f23) = true)
    (h131 : PySem.W.findIn K (.ref CStrand) "groups" = some (some (.ref f24)))
    (h132 : PySem.W.isFn K (.ref f24) = true)
    (h133 : K.lookup f24 = some ⟨oc24, od24, .func (PySem.W.fnOf "groups" "Strand.groups" (defArgs (inClass (top 39) 2)) (defBody (inClass (top 39) 2)) (defScope (inClass (top 39) 2)) .none kV24 dc24 pm24 an24 cd24 ct24), sl24⟩)
    (h134 : PySem.W.codeIn K cd24 "Strand.groups" = true)
    (h135 : PySem.W.keepIn K (.ref f24) = true)
    (h136 : PySem.W.findIn K (.ref CStrand) "is_fine" = some (some (.ref f25)))
    (h137 : PySem.W.isFn K (.ref f25) = true)
    (h138 : K.lookup f25 = some ⟨oc25, od25, .func (PySem.W.fnOf "is_fine" "Strand.is_fine" (defArgs (inClass (top 39) 3)) (defBody (inClass (top 39) 3)) (defScope (inClass (top 39) 3)) .none kV25 dc25 pm25 an25 cd25 ct25), sl25⟩)
    (h139 : PySem.W.codeIn K cd25 "Strand.is_fine" = true)
    (h140 : PySem.W.keepIn K (.ref f25) = true)
    (h141 : PySem.W.findIn K (.ref CStrand) "best_way" = some (some (.ref f26)))
    (h142 : PySem.W.isFn K (.ref f26) = true)
    (h143 : K.lookup f26 = some ⟨oc26, od26, .func (PySem.W.fnOf "best_way" "Strand.best_way" (defArgs (inClass (top 39) 4)) (defBody (inClass (top 39) 4)) (defScope (inClass (top 39) 4)) .none kV26 dc26 pm26 an26 cd26 ct26), sl26⟩)
    (h144 : PySem.W.codeIn K cd26 "Strand.best_way" = true)
    (h145 : PySem.W.keepIn K (.ref f26) = true)
    (h146 : PySem.W.findIn K (.ref CStrand) "cut_bobbin" = some (some (.ref f27)))
    (h147 : PySem.W.isFn K (.ref f27) = true)
    (h148 : K.lookup f27 = some ⟨oc27, od27, .func (PySem.W.fnOf "cut_bobbin" "Strand.cut_bobbin" (defArgs (inClass (top 39) 5)) (defBody (inClass (top 39) 5)) (defScope (inClass (top 39) 5)) .none kV27 dc27 pm27 an27 cd27 ct27), sl27⟩)
    (h149 : PySem.W.codeIn K cd27 "Strand.cut_bobbin" = true)
    (h150 : PySem.W.keepIn K (.ref f27) = true)
    (h151 : PySem.W.findIn K (.ref CStrand) "lasts_for" = some (some (.ref f28)))
    (h152 : PySem.W.isFn K (.ref f28) = true)
    (h153 : K.lookup f28 = some ⟨oc28, od28, .func (PySem.W.fnOf "lasts_for" "Strand.lasts_for" (defArgs (inClass (top 39) 6)) (defBody (inClass (top 39) 6)) (defScope (inClass (top 39) 6)) .none kV28 dc28 pm28 an28 cd28 ct28), sl28⟩)
    (h154 : PySem.W.codeIn K cd28 "Strand.lasts_for" = true)
    (h155 : PySem.W.keepIn K (.ref f28) = true)
    (h156 : PySem.W.findIn K (.ref CStrand) "lay_strand" = some (some (.ref f29)))
    (h157 : PySem.W.isFn K (.ref f29) = true)
    (h158 : K.lookup f29 = some ⟨oc29, od29, .func (PySem.W.fnOf "lay_strand" "Strand.lay_strand" (defArgs (inClass (top 39) 7)) (defBody (inClass (top 39) 7)) (defScope (inClass (top 39) 7)) .none kV29 dc29 pm29 an29 cd29 ct29), sl29⟩)
    (h159 : PySem.W.codeIn K cd29 "Strand.lay_strand" = true)
    (h160 : PySem.W.keepIn K (.ref f29) = true)
    (h161 : PySem.W.nsIn K mainGlobals "call_begin" = some (some (.ref f30)))
    (h162 : K.lookup f30 = some ⟨oc30, od30, .func (PySem.W.fnOf "call_begin" "call_begin" (defArgs (top 40)) (defBody (top 40)) (defScope (top 40)) .none kV30 dc30 pm30 an30 cd30 ct30), sl30⟩)
    (h163 : PySem.W.codeIn K cd30 "call_begin" = true)
    (h164 : PySem.W.keepIn K (.ref f30) = true)
    (h165 : PySem.W.nsIn K mainGlobals "call_bobbin" = some (some (.ref f31)))
    (h166 : K.lookup f31 = some ⟨oc31, od31, .func (PySem.W.fnOf "call_bobbin" "call_bobbin" (defArgs (top 41)) (defBody (top 41)) (defScope (top 41)) .none kV31 dc31 pm31 an31 cd31 ct31), sl31⟩)
    (h167 : PySem.W.codeIn K cd31 "call_bobbin" = true)
    (h168 : PySem.W.keepIn K (.ref f31) = true)
    (h169 : PySem.W.nsIn K mainGlobals "call_joint" = some (some (.ref f32)))
    (h170 : K.lookup f32 = some ⟨oc32, od32, .func (PySem.W.fnOf "call_joint" "call_joint" (defArgs (top 42)) (defBody (top 42)) (defScope (top 42)) .none kV32 dc32 pm32 an32 cd32 ct32), sl32⟩)
    (h171 : PySem.W.codeIn K cd32 "call_joint" = true)
    (h172 : PySem.W.keepIn K (.ref f32) = true)
    (h173 : PySem.W.nsIn K mainGlobals "joins_out_of_bounds" = some (some (.ref f33)))
    (h174 : K.lookup f33 = some ⟨oc33, od33, .func (PySem.W.fnOf "joins_out_of_bounds" "joins_out_of_bounds" (defArgs (top 43)) (defBody (top 43)) (defScope (top 43)) .none kV33 dc33 pm33 an33 cd33 ct33), sl33⟩)
    (h175 : PySem.W.codeIn K cd33 "joins_out_of_bounds" = true)
    (h176 : PySem.W.keepIn K (.ref f33) = true)
    (h177 : PySem.W.nsIn K mainGlobals "call_join" = some (some (.ref f34)))
    (h178 : K.lookup f34 = some ⟨oc34, od34, .func (PySem.W.fnOf "call_join" "call_join" (defArgs (top 44)) (defBody (top 44)) (defScope (top 44)) .none kV34 dc34 pm34 an34 cd34 ct34), sl34⟩)
    (h179 : PySem.W.codeIn K cd34 "call_join" = true)
    (h180 : PySem.W.keepIn K (.ref f34) = true)
    (h181 : PySem.W.nsIn K mainGlobals "call_could" = some (some (.ref f35)))
    (h182 : K.lookup f35 = some ⟨oc35, od35, .func (PySem.W.fnOf "call_could" "call_could" (defArgs (top 45)) (defBody (top 45)) (defScope (top 45)) .none kV35 dc35 pm35 an35 cd35 ct35), sl35⟩)
    (h183 : PySem.W.codeIn K cd35 "call_could" = true)
    (h184 : PySem.W.keepIn K (.ref f35) = true)
    (h185 : PySem.W.nsIn K mainGlobals "call_cut" = some (some (.ref f36)))
    (h186 : K.lookup f36 = some ⟨oc36, od36, .func (PySem.W.fnOf "call_cut" "call_cut" (defArgs (top 46)) (defBody (top 46)) (defScope (top 46)) .none kV36 dc36 pm36 an36 cd36 ct36), sl36⟩)
    (h187 : PySem.W.codeIn K cd36 "call_cut" = true)
    (h188 : PySem.W.keepIn K (.ref f36) = true)
    (h189 : PySem.W.nsIn K mainGlobals "call_least" = some (some (.ref f37)))
    (h190 : K.lookup f37 = some ⟨oc37, od37, .func (PySem.W.fnOf "call_least" "call_least" (defArgs (top 47)) (defBody (top 47)) (defScope (top 47)) .none kV37 dc37 pm37 an37 cd37 ct37), sl37⟩)
    (h191 : PySem.W.codeIn K cd37 "call_least" = true)
    (h192 : PySem.W.keepIn K (.ref f37) = true)
    (h193 : PySem.W.nsIn K mainGlobals "call_cutleast" = some (some (.ref f38)))
    (h194 : K.lookup f38 = some ⟨oc38, od38, .func (PySem.W.fnOf "call_cutleast" "call_cutleast" (defArgs (top 48)) (defBody (top 48)) (defScope (top 48)) .none kV38 dc38 pm38 an38 cd38 ct38), sl38⟩)
    (h195 : PySem.W.codeIn K cd38 "call_cutleast" = true)
    (h196 : PySem.W.keepIn K (.ref f38) = true)
    (h197 : PySem.W.nsIn K mainGlobals "call_fine" = some (some (.ref f39)))
    (h198 : K.lookup f39 = some ⟨oc39, od39, .func (PySem.W.fnOf "call_fine" "call_fine" (defArgs (top 49)) (defBody (top 49)) (defScope (top 49)) .none kV39 dc39 pm39 an39 cd39 ct39), sl39⟩)
    (h199 : PySem.W.codeIn K cd39 "call_fine" = true)
    (h200 : PySem.W.keepIn K (.ref f39) = true)
    (h201 : PySem.W.nsIn K mainGlobals "call_bad" = some (some (.ref f40)))
    (h202 : K.lookup f40 = some ⟨oc40, od40, .func (PySem.W.fnOf "call_bad" "call_bad" (defArgs (top 50)) (defBody (top 50)) (defScope (top 50)) .none kV40 dc40 pm40 an40 cd40 ct40), sl40⟩)
    (h203 : PySem.W.codeIn K cd40 "call_bad" = true)
    (h204 : PySem.W.keepIn K (.ref f40) = true)
    (h205 : PySem.W.nsIn K mainGlobals "call_nearest" = some (some (.ref f41)))
    (h206 : K.lookup f41 = some ⟨oc41, od41, .func (PySem.W.fnOf "call_nearest" "call_nearest" (defArgs (top 51)) (defBody (top 51)) (defScope (top 51)) .none kV41 dc41 pm41 an41 cd41 ct41), sl41⟩)
    (h207 : PySem.W.codeIn K cd41 "call_nearest" = true)
    (h208 : PySem.W.keepIn K (.ref f41) = true)
    (h209 : PySem.W.nsIn K mainGlobals "refusal_of_run" = some (some (.ref f42)))
    (h210 : K.lookup f42 = some ⟨oc42, od42, .func (PySem.W.fnOf "refusal_of_run" "refusal_of_run" (defArgs (top 52)) (defBody (top 52)) (defScope (top 52)) .none kV42 dc42 pm42 an42 cd42 ct42), sl42⟩)
    (h211 : PySem.W.codeIn K cd42 "refusal_of_run" = true)
    (h212 : PySem.W.keepIn K (.ref f42) = true)
    (h213 : PySem.W.nsIn K mainGlobals "call_run" = some (some (.ref f43)))
    (h214 : K.lookup f43 = some ⟨oc43, od43, .func (PySem.W.fnOf "call_run" "call_run" (defArgs (top 53)) (defBody (top 53)) (defScope (top 53)) .none kV43 dc43 pm43 an43 cd43 ct43), sl43⟩)
    (h215 : PySem.W.codeIn K cd43 "call_run" = true)
    (h216 : PySem.W.keepIn K (.ref f43) = true)
    (h217 : PySem.W.nsIn K mainGlobals "call_may" = some (some (.ref f44)))
    (h218 : K.lookup f44 = some ⟨oc44, od44, .func (PySem.W.fnOf "call_may" "call_may" (defArgs (top 54)) (defBody (top 54)) (defScope (top 54)) .none kV44 dc44 pm44 an44 cd44 ct44), sl44⟩)
    (h219 : PySem.W.codeIn K cd44 "call_may" = true)
    (h220 : PySem.W.keepIn K (.ref f44) = true)
    (h221 : PySem.W.nsIn K mainGlobals "call_lasts" = some (some (.ref f45)))
    (h222 : K.lookup f45 = some ⟨oc45, od45, .func (PySem.W.fnOf "call_lasts" "call_lasts" (defArgs (top 55)) (defBody (top 55)) (defScope (top 55)) .none kV45 dc45 pm45 an45 cd45 ct45), sl45⟩)
    (h223 : PySem.W.codeIn K cd45 "call_lasts" = true)
    (h224 : PySem.W.keepIn K (.ref f45) = true)
    (h225 : PySem.W.nsIn K mainGlobals "call_places" = some (some (.ref f46)))
    (h226 : K.lookup f46 = some ⟨oc46, od46, .func (PySem.W.fnOf "call_places" "call_places" (defArgs (top 56)) (defBody (top 56)) (defScope (top 56)) .none kV46 dc46 pm46 an46 cd46 ct46), sl46⟩)
    (h227 : PySem.W.codeIn K cd46 "call_places" = true)
    (h228 : PySem.W.keepIn K (.ref f46) = true)
    (h229 : PySem.W.nsIn K mainGlobals "call_next" = some (some (.ref f47)))
    (h230 : K.lookup f47 = some ⟨oc47, od47, .func (PySem.W.fnOf "call_next" "call_next" (defArgs (top 57)) (defBody (top 57)) (defScope (top 57)) .none kV47 dc47 pm47 an47 cd47 ct47), sl47⟩)
    (h231 : PySem.W.codeIn K cd47 "call_next" = true)
    (h232 : PySem.W.keepIn K (.ref f47) = true)
    (h233 : PySem.W.nsIn K mainGlobals "call_gone" = some (some (.ref f48)))
    (h234 : K.lookup f48 = some ⟨oc48, od48, .func (PySem.W.fnOf "call_gone" "call_gone" (defArgs (top 58)) (defBody (top 58)) (defScope (top 58)) .none kV48 dc48 pm48 an48 cd48 ct48), sl48⟩)
    (h235 : PySem.W.codeIn K cd48 "call_gone" = true)
    (h236 : PySem.W.keepIn K (.ref f48) = true)
    (h237 : PySem.W.nsIn K mainGlobals "call_wire" = some (some (.ref f49)))
    (h238 : K.lookup f49 = some ⟨oc49, od49, .func (PySem.W.fnOf "call_wire" "call_wire" (defArgs (top 59)) (defBody (top 59)) (defScope (top 59)) .none kV49 dc49 pm49 an49 cd49 ct49), sl49⟩)
    (h239 : PySem.W.codeIn K cd49 "call_wire" = true)
    (h240 : PySem.W.keepIn K (.ref f49) = true)
    (h241 : PySem.W.nsIn K mainGlobals "call_look" = some (some (.ref f50)))
    (h242 : K.lookup f50 = some ⟨oc50, od50, .func (PySem.W.fnOf "call_look" "call_look" (defArgs (top 60)) (defBody (top 60)) (defScope (top 60)) .none kV50 dc50 pm50 an50 cd50 ct50), sl50⟩)
    (h243 : PySem.W.codeIn K cd50 "call_look" = true)
    (h244 : PySem.W.keepIn K (.ref f50) = true)
    (h245 : PySem.W.nsIn K mainGlobals "call_sums" = some (some (.ref f51)))
    (h246 : K.lookup f51 = some ⟨oc51, od51, .func (PySem.W.fnOf "call_sums" "call_sums" (defArgs (top 61)) (defBody (top 61)) (defScope (top 61)) .none kV51 dc51 pm51 an51 cd51 ct51), sl51⟩)
    (h247 : PySem.W.codeIn K cd51 "call_sums" = true)
    (h248 : PySem.W.keepIn K (.ref f51) = true)
    (h249 : PySem.W.nsIn K mainGlobals "answer_call" = some (some (.ref f52)))
    (h250 : K.lookup f52 = some ⟨oc52, od52, .func (PySem.W.fnOf "answer_call" "answer_call" (defArgs (top 63)) (defBody (top 63)) (defScope (top 63)) .none kV52 dc52 pm52 an52 cd52 ct52), sl52⟩)
    (h251 : PySem.W.codeIn K cd52 "answer_call" = true)
    (h252 : PySem.W.keepIn K (.ref f52) = true)
    (h253 : PySem.W.nsIn K mainGlobals "answers" = some (some (.ref f53)))
    (h254 : K.lookup f53 = some ⟨oc53, od53, .func (PySem.W.fnOf "answers" "answers" (defArgs (top 64)) (defBody (top 64)) (defScope (top 64)) .none kV53 dc53 pm53 an53 cd53 ct53), sl53⟩)
    (h255 : PySem.W.codeIn K cd53 "answers" = true)
    (h256 : PySem.W.keepIn K (.ref f53) = true)
    (h257 : PySem.W.nsIn K mainGlobals "METRE" = some (some (.int (1000) t_METRE)))
    (h258 : PySem.W.nsIn K mainGlobals "MOST_CUT" = some (some (.int (8) t_MOST_CUT)))
    (h259 : PySem.W.nsIn K mainGlobals "NO_SUCH_BOBBIN" = some (some (.int (-2) t_NO_SUCH_BOBBIN)))
    (h260 : PySem.W.nsIn K mainGlobals "NOT_BEGUN" = some (some (.int (-11) t_NOT_BEGUN)))
    (h261 : PySem.W.nsIn K mainGlobals "TOO_LITTLE_LEFT" = some (some (.int (-12) t_TOO_LITTLE_LEFT)))
    (h262 : PySem.W.nsIn K mainGlobals "THERE_ALREADY" = some (some (.int (-17) t_THERE_ALREADY)))
    (h263 : PySem.W.nsIn K mainGlobals "OUT_OF_BOUNDS" = some (some (.int (-22) t_OUT_OF_BOUNDS)))
    (h264 : PySem.W.nsIn K mainGlobals "FULL" = some (some (.int (-28) t_FULL)))
    (h265 : PySem.W.nsIn K mainGlobals "NO_WAY" = some (some (.int (-33) t_NO_WAY)))
    (h266 : PySem.W.nsIn K mainGlobals "NOT_FINE" = some (some (.int (-33) t_NOT_FINE)))
    (h267 : PySem.W.nsIn K mainGlobals "TOO_FEW_JOINTS" = some (some (.int (-33) t_TOO_FEW_JOINTS)))
    (h268 : PySem.W.nsIn K mainGlobals "MOST_GAP" = some (some (.int (10000) t_MOST_GAP)))
    (h269 : PySem.W.nsIn K mainGlobals "LEAST_LAY" = some (some (.int (1000) t_LEAST_LAY)))
    (h270 : PySem.W.nsIn K mainGlobals "MOST_LAY" = some (some (.int (2000) t_MOST_LAY)))
    (h271 : PySem.W.nsIn K mainGlobals "MOST_LEFT" = some (some (.int (100000) t_MOST_LEFT)))
    (h272 : PySem.W.nsIn K mainGlobals "MOST_RUN" = some (some (.int (100000) t_MOST_RUN)))
    (h273 : PySem.W.nsIn K mainGlobals "MOST_BOBBINS" = some (some (.int (4) t_MOST_BOBBINS)))
    (h274 : PySem.W.nsIn K mainGlobals "MOST_JOINTS" = some (some (.int (4) t_MOST_JOINTS)))
    (h275 : PySem.W.nsIn K mainGlobals "BEGIN" = some (some (.int (0) t_BEGIN)))
    (h276 : PySem.W.nsIn K mainGlobals "ARGUMENTS" = some (some (.ref a_ARGUMENTS)))
    (h277 : K.lookup a_ARGUMENTS = some ⟨.type "tuple", oc_ARGUMENTS, .seq #[.int 1 t_ARGUMENTS_0, .int 2 t_ARGUMENTS_1, .int 2 t_ARGUMENTS_2, .int 2 t_ARGUMENTS_3, .int 2 t_ARGUMENTS_4, .int 2 t_ARGUMENTS_5, .int 0 t_ARGUMENTS_6, .int 0 t_ARGUMENTS_7, .int 0 t_ARGUMENTS_8, .int 0 t_ARGUMENTS_9, .int 0 t_ARGUMENTS_10, .int 1 t_ARGUMENTS_11, .int 1 t_ARGUMENTS_12, .int 0 t_ARGUMENTS_13, .int 1 t_ARGUMENTS_14, .int 0 t_ARGUMENTS_15, .int 0 t_ARGUMENTS_16, .int 2 t_ARGUMENTS_17, .int 1 t_ARGUMENTS_18, .int 0 t_ARGUMENTS_19] n_ARGUMENTS, sl_ARGUMENTS⟩)
    (h278 : PySem.W.nsIn K mainGlobals "OF_A_BOBBIN" = some (some (.ref a_OF_A_BOBBIN)))
    (h279 : K.lookup a_OF_A_BOBBIN = some ⟨.type "tuple", oc_OF_A_BOBBIN, .seq #[.int 2 t_OF_A_BOBBIN_0, .int 3 t_OF_A_BOBBIN_1, .int 4 t_OF_A_BOBBIN_2, .int 5 t_OF_A_BOBBIN_3, .int 14 t_OF_A_BOBBIN_4, .int 17 t_OF_A_BOBBIN_5, .int 18 t_OF_A_BOBBIN_6] n_OF_A_BOBBIN, sl_OF_A_BOBBIN⟩)
    (h280 : PySem.W.nsIn K mainGlobals "HANDLERS" = some (some (.ref a_HANDLERS)))
    (h281 : K.lookup a_HANDLERS = some ⟨.type "tuple", oc_HANDLERS, .seq #[.ref f30, .ref f31, .ref f32, .ref f34, .ref f35, .ref f36, .ref f37, .ref f38, .ref f39, .ref f40, .ref f41, .ref f43, .ref f44, .ref f45, .ref f46, .ref f47, .ref f48, .ref f49, .ref f50, .ref f51] n_HANDLERS, sl_HANDLERS⟩)
    (h282 : PySem.W.nsIn K mainGlobals "len" = some none)
    (h283 : PySem.W.nsIn K mainGlobals "abs" = some none)
    (h284 : PySem.W.nsIn K mainGlobals "min" = some none)
    (h285 : PySem.W.nsIn K mainGlobals "sum" = some none)
    (h286 : PySem.W.nsIn K mainGlobals "sorted" = some none)
    (h287 : PySem.W.nsIn K mainGlobals "range" = some none)
    (h288 : PySem.W.nsIn K mainGlobals "enumerate" = some none)
    (h289 : PySem.W.nsIn K mainGlobals "list" = some none) :
    ∃ (CBobbin CStrand : Addr), All K mg CBobbin CStrand :=
  ⟨CBobbin, CStrand, ⟨PySem.W.mg_of X G h1,
    ⟨h2, h3, h4, h5⟩,
    h6,
    h7,
    h8,
    h9,
    h10,
    PySem.W.mg_of X G h11,
    ⟨h12, h13, h14, h15⟩,
    h16,
    h17,
    h18,
    h19,
    h20,
    h21,
    h22,
    h23,
    ⟨_, _, ⟨h24, h25, h28⟩, fun_mk (st := inClass (top 2) 0) h26 h27 h28⟩,
    ⟨_, _, ⟨h29, h30, h33⟩, fun_mk (st := inClass (top 2) 1) h31 h32 h33⟩,
    ⟨_, _, ⟨h34, h35, h38⟩, fun_mk (st := inClass (top 2) 2) h36 h37 h38⟩,
    ⟨_, _, ⟨h39, h40, h43⟩, fun_mk (st := inClass (top 2) 3) h41 h42 h43⟩,
    ⟨_, _, ⟨h44, h45, h48⟩, fun_mk (st := inClass (top 2) 4) h46 h47 h48⟩,
    ⟨_, _, ⟨h49, h50, h53⟩, fun_mk (st := inClass (top 2) 5) h51 h52 h53⟩,
    ⟨_, _, ⟨h54, h55, h58⟩, fun_mk (st := inClass (top 2) 6) h56 h57 h58⟩,
    ⟨_, _, ⟨h59, h60, h63⟩, fun_mk (st := inClass (top 2) 7) h61 h62 h63⟩,
    ⟨_, _, ⟨h64, h65, h68⟩, fun_mk (st := inClass (top 2) 8) h66 h67 h68⟩,
    ⟨_, _, PySem.W.mg_of X G h69, fun_mk (st := top 4) h70 h71 h72⟩,
    ⟨_, _, PySem.W.mg_of X G h73, fun_mk (st := top 5) h74 h75 h76⟩,
    ⟨_, _, PySem.W.mg_of X G h77, fun_mk (st := top 6) h78 h79 h80⟩,
    ⟨_, _, PySem.W.mg_of X G h81, fun_mk (st := top 7) h82 h83 h84⟩,
    ⟨_, _, PySem.W.mg_of X G h85, fun_mk (st := top 8) h86 h87 h88⟩,
    ⟨_, _, PySem.W.mg_of X G h89, fun_mk (st := top 9) h90 h91 h92⟩,
    ⟨_, _, PySem.W.mg_of X G h93, fun_mk (st := top 10) h94 h95 h96⟩,
    ⟨_, _, PySem.W.mg_of X G h97, fun_mk (st := top 13) h98 h99 h100⟩,
    ⟨_, _, PySem.W.mg_of X G h101, fun_mk (st := top 14) h102 h103 h104⟩,
    ⟨_, _, PySem.W.mg_of X G h105, fun_mk (st := top 15) h106 h107 h108⟩,
    ⟨_, _, PySem.W.mg_of X G h109, fun_mk (st := top 16) h110 h111 h112⟩,
    ⟨_, _, PySem.W.mg_of X G h113, fun_mk (st := top 17) h114 h115 h116⟩,
    ⟨_, _, PySem.W.mg_of X G h117, fun_mk (st := top 18) h118 h119 h120⟩,
    ⟨_, _, ⟨h121, h122, h125⟩, fun_mk (st := inClass (top 39) 0) h123 h124 h125⟩,
    ⟨_, _, ⟨h126, h127, h130⟩, fun_mk (st := inClass (top 39) 1) h128 h129 h130⟩,
    ⟨_, _, ⟨h131, h132, h135⟩, fun_mk (st := inClass (top 39) 2) h133 h134 h135⟩,
    ⟨_, _, ⟨h136, h137, h140⟩, fun_mk (st := inClass (top 39) 3) h138 h139 h140⟩,
    ⟨_, _, ⟨h141, h142, h145⟩, fun_mk (st := inClass (top 39) 4) h143 h144 h145⟩,
    ⟨_, _, ⟨h146, h147, h150⟩, fun_mk (st := inClass (top 39) 5) h148 h149 h150⟩,
    ⟨_, _, ⟨h151, h152, h155⟩, fun_mk (st := inClass (top 39) 6) h153 h154 h155⟩,
    ⟨_, _, ⟨h156, h157, h160⟩, fun_mk (st := inClass (top 39) 7) h158 h159 h160⟩,
    ⟨_, _, PySem.W.mg_of X G h161, fun_mk (st := top 40) h162 h163 h164⟩,
    ⟨_, _, PySem.W.mg_of X G h165, fun_mk (st := top 41) h166 h167 h168⟩,
    ⟨_, _, PySem.W.mg_of X G h169, fun_mk (st := top 42) h170 h171 h172⟩,
    ⟨_, _, PySem.W.mg_of X G h173, fun_mk (st := top 43) h174 h175 h176⟩,
    ⟨_, _, PySem.W.mg_of X G h177, fun_mk (st := top 44) h178 h179 h180⟩,
    ⟨_, _, PySem.W.mg_of X G h181, fun_mk (st := top 45) h182 h183 h184⟩,
    ⟨_, _, PySem.W.mg_of X G h185, fun_mk (st := top 46) h186 h187 h188⟩,
    ⟨_, _, PySem.W.mg_of X G h189, fun_mk (st := top 47) h190 h191 h192⟩,
    ⟨_, _, PySem.W.mg_of X G h193, fun_mk (st := top 48) h194 h195 h196⟩,
    ⟨_, _, PySem.W.mg_of X G h197, fun_mk (st := top 49) h198 h199 h200⟩,
    ⟨_, _, PySem.W.mg_of X G h201, fun_mk (st := top 50) h202 h203 h204⟩,
    ⟨_, _, PySem.W.mg_of X G h205, fun_mk (st := top 51) h206 h207 h208⟩,
    ⟨_, _, PySem.W.mg_of X G h209, fun_mk (st := top 52) h210 h211 h212⟩,
    ⟨_, _, PySem.W.mg_of X G h213, fun_mk (st := top 53) h214 h215 h216⟩,
    ⟨_, _, PySem.W.mg_of X G h217, fun_mk (st := top 54) h218 h219 h220⟩,
    ⟨_, _, PySem.W.mg_of X G h221, fun_mk (st := top 55) h222 h223 h224⟩,
    ⟨_, _, PySem.W.mg_of X G h225, fun_mk (st := top 56) h226 h227 h228⟩,
    ⟨_, _, PySem.W.mg_of X G h229, fun_mk (st := top 57) h230 h231 h232⟩,
    ⟨_, _, PySem.W.mg_of X G h233, fun_mk (st := top 58) h234 h235 h236⟩,
    ⟨_, _, PySem.W.mg_of X G h237, fun_mk (st := top 59) h238 h239 h240⟩,
    ⟨_, _, PySem.W.mg_of X G h241, fun_mk (st := top 60) h242 h243 h244⟩,
    ⟨_, _, PySem.W.mg_of X G h245, fun_mk (st := top 61) h246 h247 h248⟩,
    ⟨_, _, PySem.W.mg_of X G h249, fun_mk (st := top 63) h250 h251 h252⟩,
    ⟨_, _, PySem.W.mg_of X G h253, fun_mk (st := top 64) h254 h255 h256⟩,
    ⟨_, PySem.W.mg_of X G h257⟩,
    ⟨_, PySem.W.mg_of X G h258⟩,
    ⟨_, PySem.W.mg_of X G h259⟩,
    ⟨_, PySem.W.mg_of X G h260⟩,
    ⟨_, PySem.W.mg_of X G h261⟩,
    ⟨_, PySem.W.mg_of X G h262⟩,
    ⟨_, PySem.W.mg_of X G h263⟩,
    ⟨_, PySem.W.mg_of X G h264⟩,
    ⟨_, PySem.W.mg_of X G h265⟩,
    ⟨_, PySem.W.mg_of X G h266⟩,
    ⟨_, PySem.W.mg_of X G h267⟩,
    ⟨_, PySem.W.mg_of X G h268⟩,
    ⟨_, PySem.W.mg_of X G h269⟩,
    ⟨_, PySem.W.mg_of X G h270⟩,
    ⟨_, PySem.W.mg_of X G h271⟩,
    ⟨_, PySem.W.mg_of X G h272⟩,
    ⟨_, PySem.W.mg_of X G h273⟩,
    ⟨_, PySem.W.mg_of X G h274⟩,
    ⟨_, PySem.W.mg_of X G h275⟩,
    ⟨_, PySem.W.mg_of X G h276, fun H => .inr ⟨_, _, _, h277, rfl, rfl, (by show 20 ≤ sizeLine; decide), (.cons ⟨_, rfl⟩ (.cons ⟨_, rfl⟩ (.cons ⟨_, rfl⟩ (.cons ⟨_, rfl⟩ (.cons ⟨_, rfl⟩ (.cons ⟨_, rfl⟩ (.cons ⟨_, rfl⟩ (.cons ⟨_, rfl⟩ (.cons ⟨_, rfl⟩ (.cons ⟨_, rfl⟩ (.cons ⟨_, rfl⟩ (.cons ⟨_, rfl⟩ (.cons ⟨_, rfl⟩ (.cons ⟨_, rfl⟩ (.cons ⟨_, rfl⟩ (.cons ⟨_, rfl⟩ (.cons ⟨_, rfl⟩ (.cons ⟨_, rfl⟩ (.cons ⟨_, rfl⟩ (.cons ⟨_, rfl⟩ .nil))))))))))))))))))))⟩⟩,
    ⟨_, PySem.W.mg_of X G h278, fun H => .inr ⟨_, _, _, h279, rfl, rfl, (by show 7 ≤ sizeLine; decide), (.cons ⟨_, rfl⟩ (.cons ⟨_, rfl⟩ (.cons ⟨_, rfl⟩ (.cons ⟨_, rfl⟩ (.cons ⟨_, rfl⟩ (.cons ⟨_, rfl⟩ (.cons ⟨_, rfl⟩ .nil)))))))⟩⟩,
    ⟨_, [f30, f31, f32, f34, f35, f36, f37, f38, f39, f40, f41, f43, f44, f45, f46, f47, f48, f49, f50, f51], PySem.W.mg_of X G h280, fun H => .inr ⟨_, _, _, h281, rfl, rfl, (by show 20 ≤ sizeLine; decide), (.cons rfl (.cons rfl (.cons rfl (.cons rfl (.cons rfl (.cons rfl (.cons rfl (.cons rfl (.cons rfl (.cons rfl (.cons rfl (.cons rfl (.cons rfl (.cons rfl (.cons rfl (.cons rfl (.cons rfl (.cons rfl (.cons rfl (.cons rfl .nil))))))))))))))))))))⟩, (.cons (PySem.W.mg_of X G h161) (.cons (PySem.W.mg_of X G h165) (.cons (PySem.W.mg_of X G h169) (.cons (PySem.W.mg_of X G h177) (.cons (PySem.W.mg_of X G h181) (.cons (PySem.W.mg_of X G h185) (.cons (PySem.W.mg_of X G h189) (.cons (PySem.W.mg_of X G h193) (.cons (PySem.W.mg_of X G h197) (.cons (PySem.W.mg_of X G h201) (.cons (PySem.W.mg_of X G h205) (.cons (PySem.W.mg_of X G h213) (.cons (PySem.W.mg_of X G h217) (.cons (PySem.W.mg_of X G h221) (.cons (PySem.W.mg_of X G h225) (.cons (PySem.W.mg_of X G h229) (.cons (PySem.W.mg_of X G h233) (.cons (PySem.W.mg_of X G h237) (.cons (PySem.W.mg_of X G h241) (.cons (PySem.W.mg_of X G h245) .nil))))))))))))))))))))⟩,
    PySem.W.mg_none_of X G h282,
    PySem.W.mg_none_of X G h283,
    PySem.W.mg_none_of X G h284,
    PySem.W.mg_none_of X G h285,
    PySem.W.mg_none_of X G h286,
    PySem.W.mg_none_of X G h287,
    PySem.W.mg_none_of X G h288,
    PySem.W.mg_none_of X G h289⟩⟩
end LS
namespace LS
open PySem PySem.Spec PyProof.Rows L2
open Kp240 (Bobbin Machine)

/-! ### the strand -/
def stF (b : Bool) (gap : Nat) (l : Addr) (laid : Nat) (p : Addr) (cut : Nat) : List (Str × V) :=
  [("begun", .bl b), ("gap", vi gap), ("bobbins", .ref l), ("laid", vi laid), ("passed", .ref p), ("cut_off", vi cut)]
/-- bobbins, the lists of their joints -/
inductive BobsAt (CB : Addr) (H : Hp) : List Addr → List Addr → List Bobbin → Prop
  | nil : BobsAt CB H [] [] []
  | cons {a j : Addr} {as js : List Addr} {x : Bobbin} {xs : List Bobbin} : BobAt CB H a x j → BobsAt CB H as js xs → BobsAt CB H (a :: as) (j :: js) (x :: xs)
theorem BobAt.keep {CB : Addr} {H H' : Hp} {a j : Addr} {x : Bobbin} (B : BobAt CB H a x j) (h1 : ∀ o, H a = some o → H' a = some o) (h2 : ∀ o, H j = some o → H' j = some o) : BobAt CB H' a x j := ⟨let ⟨d, h⟩ := B.ins; ⟨d, h1 _ h⟩, h2 _ B.lst⟩
section
variable {CB : Addr} {H H' : Hp}
theorem BobsAt.keep : ∀ {as js : List Addr} {xs : List Bobbin}, BobsAt CB H as js xs → (∀ a ∈ as ++ js, ∀ o, H a = some o → H' a = some o) → BobsAt CB H' as js xs
  | _, _, _, .nil, _ => .nil
  | _, _, _, .cons B t, h => .cons (B.keep (h _ (by simp)) (h _ (by simp))) (BobsAt.keep t fun a ha => h a (by
      rcases List.mem_append.mp ha with q | q
      · simp [q]
      · simp [q]))
theorem BobsAt.mono {as js : List Addr} {xs : List Bobbin} (h : BobsAt CB H as js xs) (s : Same H H') : BobsAt CB H' as js xs := h.keep fun a _ o e => s a o e
theorem BobsAt.length : ∀ {as js : List Addr} {xs : List Bobbin}, BobsAt CB H as js xs → as.length = xs.length ∧ js.length = xs.length
  | _, _, _, .nil => ⟨rfl, rfl⟩
  | _, _, _, .cons _ t => by have := BobsAt.length t; simp [this.1, this.2]
theorem BobsAt.get : ∀ {as js : List Addr} {xs : List Bobbin} {i : Nat} {x : Bobbin}, BobsAt CB H as js xs → xs[i]? = some x → ∃ a j, as[i]? = some a ∧ js[i]? = some j ∧ BobAt CB H a x j
  | _, _, _, _, _, .nil, h => by simp at h
  | _, _, _, 0, _, .cons h _, e => by simp at e; subst e; exact ⟨_, _, rfl, rfl, h⟩
  | _, _, _, i + 1, _, .cons _ t, e => BobsAt.get (i := i) t (by simpa using e)
theorem BobsAt.getA : ∀ {as js : List Addr} {xs : List Bobbin} {i : Nat} {a : Addr}, BobsAt CB H as js xs → as[i]? = some a → ∃ x j, xs[i]? = some x ∧ js[i]? = some j ∧ BobAt CB H a x j
  | _, _, _, _, _, .nil, h => by simp at h
  | _, _, _, 0, _, .cons h _, e => by simp at e; subst e; exact ⟨_, _, rfl, rfl, h⟩
  | _, _, _, i + 1, _, .cons _ t, e => BobsAt.getA (i := i) t (by simpa using e)
theorem BobsAt.snoc {a j : Addr} {x : Bobbin} (B : BobAt CB H a x j) : ∀ {as js : List Addr} {xs : List Bobbin}, BobsAt CB H as js xs → BobsAt CB H (as ++ [a]) (js ++ [j]) (xs ++ [x])
  | _, _, _, .nil => .cons B .nil
  | _, _, _, .cons q t => .cons q (BobsAt.snoc B t)
/-- the bobbin at place i is changed, all others stay -/
theorem BobsAt.set {a j : Addr} {x : Bobbin} (B : BobAt CB H' a x j) : ∀ {as js : List Addr} {xs : List Bobbin} {i : Nat}, BobsAt CB H as js xs → as.Nodup → as[i]? = some a → (∀ b ∈ as ++ js, b ≠ a → ∀ o, H b = some o → H' b = some o) → (∀ b ∈ js, b ≠ a) →
    BobsAt CB H' as (js.set i j) (xs.set i x)
  | _, _, _, _, .nil, _, h, _, _ => by simp at h
  | _, _, _, 0, .cons h t, nd, e, k, kj => by
    simp at e
    subst e
    have nd' := List.nodup_cons.mp nd
    refine .cons B (t.keep fun b hb o q => k b ?_ ?_ o q)
    · rcases List.mem_append.mp hb with z | z
      · simp [z]
      · simp [z]
    · rcases List.mem_append.mp hb with z | z
      · exact fun e => nd'.1 (by rw [← e]; exact z)
      · exact kj b (by simp [z])
  | _, _, _, i + 1, .cons (a := a0) (j := j0) (as := as) (js := js) h t, nd, e, k, kj => by
    have nd' := List.nodup_cons.mp nd
    have e' : as[i]? = some a := by simpa using e
    have n0 : a0 ≠ a := fun z => nd'.1 (by rw [z]; exact List.mem_of_getElem? e')
    refine .cons (h.keep (fun o q => k a0 (by simp) n0 o q) fun o q => k j0 (by simp) (kj j0 (by simp)) o q) (BobsAt.set B t nd'.2 e' (fun b hb hn o q => k b ?_ hn o q) fun b hb => kj b (by simp [hb]))
    rcases List.mem_append.mp hb with z | z
    · simp [z]
    · simp [z]
end
/-- a strand at st, begun or not, as m tells; own: the addresses that are its own -/
structure StAt (CS CB : Addr) (H : Hp) (st : Addr) (b : Bool) (m : Machine) (l p : Addr) (as js : List Addr) : Prop where
  ins : ∃ dx, H st = some (.ins CS dx (stF b m.gap l m.laid p m.cut))
  lst : H l = some (.lst (as.map V.ref))
  gone : LN H p m.gone
  lp : l ≠ p
  nd : as.Nodup
  bobs : BobsAt CB H as js m.bobbins
  jl : l ∉ js
  jp : p ∉ js
def own (st l p : Addr) (as js : List Addr) : List Addr := st :: l :: p :: (as ++ js)
structure MOk (m : Machine) : Prop where
  four : m.bobbins.length ≤ 4
  ok : ∀ x ∈ m.bobbins, BobOk x
  gap : m.gap ≤ 10000
section
variable {CS CB : Addr} {H H' : Hp} {st l p : Addr} {b : Bool} {m : Machine} {as js : List Addr}
theorem StAt.mono (S : StAt CS CB H st b m l p as js) (s : Same H H') : StAt CS CB H' st b m l p as js :=
  ⟨let ⟨d, h⟩ := S.ins; ⟨d, s _ _ h⟩, s _ _ S.lst, S.gone.mono s, S.lp, S.nd, S.bobs.mono s, S.jl, S.jp⟩
/-- what is not its own is written -/
theorem StAt.other (S : StAt CS CB H st b m l p as js) {a : Addr} {o : HO} (h : a ∉ own st l p as js) : StAt CS CB (upd H a o) st b m l p as js := by
  have k : ∀ c ∈ own st l p as js, ∀ o', H c = some o' → upd H a o c = some o' := fun c hc o' e => by
    rw [upd_ne (fun z => h (by rw [← z]; exact hc))]
    exact e
  refine ⟨let ⟨d, h⟩ := S.ins; ⟨d, k _ (by simp [own]) _ h⟩, k _ (by simp [own]) _ S.lst, k _ (by simp [own]) _ S.gone, S.lp, S.nd, S.bobs.keep fun c hc o' e => k c ?_ o' e, S.jl, S.jp⟩
  unfold own
  simp only [List.mem_cons]
  exact .inr (.inr (.inr hc))
end

structure TxtS (K : PySem.W.Frag) (mg : Str → Option Value) (CS CB : Addr) : Prop extends TxtW K mg CB where
  cS : Cls K CS
  n_begun : NoAttr K CS "begun"
  n_gap : NoAttr K CS "gap"
  n_bobbins : NoAttr K CS "bobbins"
  n_laid : NoAttr K CS "laid"
  n_passed : NoAttr K CS "passed"
  n_cut_off : NoAttr K CS "cut_off"
  b_sum : mg "sum" = none
section
variable {g : Nat} {b : Bool} {l p : Addr} {x y : Nat}
theorem st_begun : (stF b g l x p y).lookup ("begun" : Str) = some (.bl b) := rfl
theorem st_gap : (stF b g l x p y).lookup ("gap" : Str) = some (vi g) := rfl
theorem st_bobbins : (stF b g l x p y).lookup ("bobbins" : Str) = some (.ref l) := rfl
theorem st_laid : (stF b g l x p y).lookup ("laid" : Str) = some (vi x) := rfl
theorem st_passed : (stF b g l x p y).lookup ("passed" : Str) = some (.ref p) := rfl
theorem st_cut : (stF b g l x p y).lookup ("cut_off" : Str) = some (vi y) := rfl
end
theorem placesCut0 (m : Machine) (x : Bobbin) : placesCut x m.laid 0 = Kp240.placesOf m x := by
  unfold placesCut Kp240.placesOf
  rw [List.filter_eq_self.mpr (fun j _ => by simp)]
  rfl

section
variable {P : Program} {w : World} {K : PySem.W.Frag} {mg : Str → Option Value} {base : Heap} {CB CS : Addr}

abbrev sGroups : Stmt := inClass (top 39) 2
theorem scGroups : FnScope ["self", "bobbin"] ["self"] (defScope sGroups) := ⟨rfl, rfl, rfl, by decide +kernel, rfl, by decide +kernel, by decide +kernel⟩
inductive spGroups (CS CB : Addr) (vs : List V) (H : Hp) (Q : VK) (_E : XK) : Prop
  | mk (st l p : Addr) (as js : List Addr) (b : Bool) (m : Machine) (_ : vs = [.ref st]) (_ : StAt CS CB H st b m l p as js) (_ : MOk m) (_ : ∀ (H' : Hp) (r : Addr), Same H H' → LLN (New H H') r (grp m) → Q (.ref r) H') : spGroups CS CB vs H Q _E
theorem ok_groups (F : MethIs K CS "groups" "Strand.groups" sGroups) (T : TxtS K mg CS CB) (G_places_behind : Mth P w K mg base 2 CB "places_behind" ["self", "laid", "metres"] (spPlacesBehind CB)) :
    Mth P w K mg base 3 CS "groups" ["self"] (spGroups CS CB) := by
  refine mth_mk F T.cS scGroups (fun _ _ _ _ _ _ us hl => match us, hl with | [_], _ => rfl) (fun vs H Q E h => ?_) (fun f cdv A outer s H vs Q E hr h => ?_)
  · obtain ⟨st, l, p, as, js, b, m, rfl, _⟩ := h
    rfl
  · obtain ⟨st, l, p, as, js, b, m, rfl, S, ok, k⟩ := h
    have nd := scGroups.nd
    obtain ⟨dx, hH⟩ := S.ins
    have lenA := S.bobs.length.1
    have four := ok.four
    refine ⟨_, (pss_one (ps_ret (pe_lc rfl nd (pi_listK (K := K) rfl (pe_fldK (K := K) rfl (pv 0) rfl)) (blkOk_by (own := [("bobbin", 1)]) (by rfl)) (fun _ _ _ _ _ => (pg_name (i := 1) nd rfl (Or.inl rfl))) (fun _ _ _ _ _ => pts_nil) (fun _ _ _ _ _ => (pmeth G_places_behind hr (pv 1) (pa_cons (pe_fldK (K := K) rfl (pv 0) rfl) (pa_cons pe_int pa_nil))))))), ?_⟩
    refine ⟨_, rfl, st, CS, dx, _, _, rfl, hH, T.cS, T.n_bobbins, st_bobbins, l, rfl, ⟨_, SqL.of S.lst⟩, fun D hD => ?_⟩
    refine lc_list (K := K) (a := l) (xs := as.map V.ref) (Qd := fun H' => Q (.ref D) H') (fun i H' => Same H H' ∧ ∃ rs, H' D = some (.lst (rs.map V.ref)) ∧ LLs (New (upd H D (.lst [])) H') rs ((m.bobbins.take i).map (Kp240.placesOf m)))
      ⟨Same.new hD, [], upd_same, .nil⟩ (fun i H' _ p => SqL.of (p.1 _ _ S.lst)) ?_ ?_
    · rintro i y H1 hi ⟨s1, rs, hd, hL⟩
      obtain ⟨a, ha, rfl⟩ := refs_get hi
      obtain ⟨x, j, hx, hj, B⟩ := S.bobs.getA ha
      obtain ⟨dB, hB⟩ := B.ins
      refine ⟨rfl, yesI ?_⟩
      refine ⟨_, rfl, a, dB, _, rfl, s1 _ _ hB, rfl, _, rfl, st, CS, dx, _, _, rfl, s1 _ _ hH, T.cS, T.n_laid, st_laid, a, j, x, m.laid, 0, rfl, B.mono s1, ok.ok x (List.mem_of_getElem? hx), fun H2 r s2 hr2 hLr => ?_⟩
      have hrD : r ≠ D := fun e => by rw [e] at hr2; rw [hd] at hr2; cases hr2
      refine ⟨_, s2 _ _ hd, ?_, (s1.trans s2).put hD, rs ++ [r], ?_, ?_⟩
      · have := hL.length
        rw [List.length_map] at this ⊢
        have h2 : (m.bobbins.take i).length ≤ m.bobbins.length := List.length_take_le' _ _
        exact line2 (by omega)
      · rw [upd_same, List.map_append]
        rfl
      · rw [take_snoc hx, List.map_append, New.put (u := .lst []) upd_same]
        rw [placesCut0] at hLr
        exact LLs.snoc (hLr.new (by rw [upd_ne hrD]; exact s1.free hr2)) (hL.mono (New.step s2))
    · rintro H1 ⟨s1, rs, hd, hL⟩
      refine k H1 D s1 ⟨rs, by rw [New.at hD]; exact hd, ?_⟩
      rw [List.length_map, lenA, List.take_length] at hL
      exact hL.mono (New.weak (Same.new hD))

abbrev sIsFine : Stmt := inClass (top 39) 3
theorem scIsFine : FnScope ["self", "groups"] ["self", "groups"] (defScope sIsFine) := ⟨rfl, rfl, rfl, by decide +kernel, rfl, by decide +kernel, by decide +kernel⟩
inductive spIsFine (CS CB : Addr) (vs : List V) (H : Hp) (Q : VK) (_E : XK) : Prop
  | mk (st l p r : Addr) (as js : List Addr) (b : Bool) (m : Machine) (gs : List (List Nat)) (_ : vs = [.ref st, .ref r]) (_ : StAt CS CB H st b m l p as js) (_ : LLN H r gs) (_ : gs.length ≤ 1000) (_ : (∀ x ∈ gs, x.length < 64)) (_ : ∀ H' : Hp, Same H H' → Q (.bl (badOf m.gap gs m.gone).isEmpty) H') : spIsFine CS CB vs H Q _E
theorem ok_is_fine (F : MethIs K CS "is_fine" "Strand.is_fine" sIsFine) (T : TxtS K mg CS CB) (G_all_fine : Cal P w K mg base 5 "all_fine" ["groups", "passed", "gap"] spAllFine) :
    Mth P w K mg base 6 CS "is_fine" ["self", "groups"] (spIsFine CS CB) := by
  refine mth_mk F T.cS scIsFine (fun _ _ _ _ _ _ us hl => match us, hl with | [_, _], _ => rfl) (fun vs H Q E h => ?_) (fun f cdv A outer s H vs Q E hr h => ?_)
  · obtain ⟨st, l, p, r, as, js, b, m, gs, rfl, _⟩ := h
    rfl
  · obtain ⟨st, l, p, r, as, js, b, m, gs, rfl, S, hg, hlen, few, k⟩ := h
    have nd := scIsFine.nd
    obtain ⟨dx, hH⟩ := S.ins
    refine ⟨_, (pss_one (ps_ret (pcall G_all_fine hr rfl (pa_cons (pv 1) (pa_cons (pe_fldK (K := K) rfl (pv 0) rfl) (pa_cons (pe_fldK (K := K) rfl (pv 0) rfl) pa_nil)))))), ?_⟩
    exact ⟨_, rfl, _, rfl, st, CS, dx, _, _, rfl, hH, T.cS, T.n_passed, st_passed, _, rfl, st, CS, dx, _, _, rfl, hH, T.cS, T.n_gap, st_gap, r, p, gs, m.gone, m.gap, rfl, hg, S.gone, hlen, few, k⟩

abbrev sBestWay : Stmt := inClass (top 39) 4
theorem scBestWay : FnScope ["self", "options", "bobbin"] ["self"] (defScope sBestWay) := ⟨rfl, rfl, rfl, by decide +kernel, rfl, by decide +kernel, by decide +kernel⟩
inductive spBestWay (CS CB : Addr) (vs : List V) (H : Hp) (Q : VK) (_E : XK) : Prop
  | mk (st l p : Addr) (as js : List Addr) (b : Bool) (m : Machine) (_ : vs = [.ref st]) (_ : StAt CS CB H st b m l p as js) (_ : MOk m) (_ : (∀ H' : Hp, Same H H' → Kp240.least m = none → Q .non H')) (_ : (∀ (H' : Hp) (a : Addr) (r : List Nat), Same H H' → Kp240.least m = some r → LN H' a r → Q (.ref a) H')) : spBestWay CS CB vs H Q _E
theorem few_cut {x : Bobbin} (ok : BobOk x) (laid n : Nat) : (placesCut x laid n).length ≤ 4 := by
  unfold placesCut
  rw [List.length_map]
  exact Nat.le_trans (List.length_filter_le _ _) ok.few
theorem ok_best_way (F : MethIs K CS "best_way" "Strand.best_way" sBestWay) (T : TxtS K mg CS CB) (G_options_of : Cal P w K mg base 3 "options_of" ["bobbin", "laid"] (spOptionsOf CB)) (G_least_way : Cal P w K mg base 8 "least_way" ["options", "passed", "gap"] spLeastWay) :
    Mth P w K mg base 9 CS "best_way" ["self"] (spBestWay CS CB) := by
  refine mth_mk F T.cS scBestWay (fun _ _ _ _ _ _ us hl => match us, hl with | [_], _ => rfl) (fun vs H Q E h => ?_) (fun f cdv A outer s H vs Q E hr h => ?_)
  · obtain ⟨st, l, p, as, js, b, m, rfl, _⟩ := h
    rfl
  · obtain ⟨st, l, p, as, js, b, m, rfl, S, ok, kn, ks⟩ := h
    have nd := scBestWay.nd
    obtain ⟨dx, hH⟩ := S.ins
    have lenA := S.bobs.length.1
    have four := ok.four
    refine ⟨_, (pss_cons (ps_setLc (i := 1) rfl nd rfl rfl (sw_true rfl rfl rfl (by decide +kernel)) (pi_listK (K := K) rfl (pe_fldK (K := K) rfl (pv 0) rfl)) (blkOk_by (own := [("bobbin", 2)]) (by rfl)) (fun _ _ _ _ _ => (pg_name (i := 2) nd rfl (Or.inl rfl))) (fun _ _ _ _ _ => pts_nil) (fun _ _ _ _ _ => (pcall G_options_of hr rfl (pa_cons (pv 2) (pa_cons (pe_fldK (K := K) rfl (pv 0) rfl) pa_nil)))))
      (pss_one (ps_ret (pcall G_least_way hr rfl (pa_cons (pv 1) (pa_cons (pe_fldK (K := K) rfl (pv 0) rfl) (pa_cons (pe_fldK (K := K) rfl (pv 0) rfl) pa_nil))))))), ?_⟩
    refine ⟨_, rfl, st, CS, dx, _, _, rfl, hH, T.cS, T.n_bobbins, st_bobbins, l, rfl, ⟨_, SqL.of S.lst⟩, fun D hD => ?_⟩
    refine lc_list (K := K) (a := l) (xs := as.map V.ref) (fun i H' => Same H H' ∧ ∃ rs, H' D = some (.lst (rs.map V.ref)) ∧ L3s (New (upd H D (.lst [])) H') rs ((m.bobbins.take i).map fun x => optsOf x m.laid))
      ⟨Same.new hD, [], upd_same, .nil⟩ (fun i H' _ p => SqL.of (p.1 _ _ S.lst)) ?_ ?_
    · rintro i y H1 hi ⟨s1, rs, hd, hL⟩
      obtain ⟨a, ha, rfl⟩ := refs_get hi
      obtain ⟨x, j, hx, hj, B⟩ := S.bobs.getA ha
      refine ⟨rfl, yesI ?_⟩
      refine ⟨_, rfl, _, rfl, st, CS, dx, _, _, rfl, s1 _ _ hH, T.cS, T.n_laid, st_laid, a, j, x, m.laid, rfl, B.mono s1, ok.ok x (List.mem_of_getElem? hx), fun H2 r s2 hLr => ?_⟩
      refine ⟨_, s2 _ _ hd, ?_, (s1.trans s2).put hD, rs ++ [r], ?_, ?_⟩
      · have := hL.length
        rw [List.length_map] at this ⊢
        have h2 : (m.bobbins.take i).length ≤ m.bobbins.length := List.length_take_le' _ _
        exact line2 (by omega)
      · rw [upd_same, List.map_append]
        rfl
      · rw [take_snoc hx, List.map_append, New.put (u := .lst []) upd_same]
        refine L3s.snoc (hLr.mono (New.dom fun c e => ?_)) (hL.mono (New.step s2))
        have z : c ≠ D := fun z => by rw [z, hd] at e; cases e
        rw [upd_ne z]
        exact s1.free e
    · rintro H1 ⟨s1, rs, hd, hL⟩
      rw [List.length_map, lenA, List.take_length] at hL
      have hO : LL3 H1 D (optM m) := ⟨rs, hd, hL.mono New.sub⟩
      refine ⟨_, rfl, _, rfl, st, CS, dx, _, _, rfl, s1 _ _ hH, T.cS, T.n_passed, st_passed, _, rfl, st, CS, dx, _, _, rfl, s1 _ _ hH, T.cS, T.n_gap, st_gap, D, p, optM m, m.gone, m.gap, rfl, hO, S.gone.mono s1, by unfold optM; rw [List.length_map]; exact four, fun o ho => ?_, fun H2 s2 e => kn H2 (s1.trans s2) (by rw [← least_is]; exact e), fun H2 a r s2 e hL => ks H2 a r (s1.trans s2) (by rw [← least_is]; exact e) hL⟩
      unfold optM at ho
      obtain ⟨x, hx, rfl⟩ := List.mem_map.mp ho
      refine ⟨by rw [opts_len]; omega, fun y hy => ?_⟩
      unfold optsOf at hy
      obtain ⟨n, _, rfl⟩ := List.mem_map.mp hy
      have := few_cut (ok.ok x hx) m.laid n
      omega

abbrev sCutBobbin : Stmt := inClass (top 39) 5
theorem scCutBobbin : FnScope ["self", "b", "metres"] ["self", "b", "metres"] (defScope sCutBobbin) := ⟨rfl, rfl, rfl, by decide +kernel, rfl, by decide +kernel, by decide +kernel⟩
/-- what stays: all but what is its own; what becomes its own is new -/
structure Fr (H H' : Hp) (o o' : List Addr) : Prop where
  keep : ∀ a u, H a = some u → a ∉ o → H' a = some u
  sub : ∀ a ∈ o', a ∈ o ∨ H a = none
  dom : ∀ a, H' a = none → H a = none
theorem Fr.same {H H' : Hp} {o : List Addr} (s : Same H H') : Fr H H' o o := ⟨fun a u e _ => s a u e, fun a h => .inl h, fun a h => s.free h⟩
theorem Fr.trans {H H1 H2 : Hp} {o o1 o2 : List Addr} (a : Fr H H1 o o1) (b : Fr H1 H2 o1 o2) : Fr H H2 o o2 := by
  have out : ∀ c u, H c = some u → c ∉ o → c ∉ o1 := fun c u e h z => by
    rcases a.sub c z with q | q
    · exact h q
    · rw [e] at q; cases q
  refine ⟨fun c u e h => b.keep c u (a.keep c u e h) (out c u e h), fun c h => ?_, fun c h => a.dom c (b.dom c h)⟩
  by_cases z : c ∈ o
  · exact .inl z
  · right
    cases q : H c with
    | none => rfl
    | some u =>
      exfalso
      rcases b.sub c h with y | y
      · exact out c u q z y
      · rw [a.keep c u q z] at y; cases y
theorem st_ne {CS CB : Addr} {H : Hp} {st l p : Addr} {bg : Bool} {m : Machine} {as js : List Addr} (S : StAt CS CB H st bg m l p as js) : st ∉ as ∧ st ≠ l ∧ st ≠ p ∧ st ∉ js ∧ (∀ a ∈ as, a ≠ l ∧ a ≠ p ∧ a ∉ js) := by
  obtain ⟨dx, hH⟩ := S.ins
  have ja : ∀ a ∈ as, ∃ x j, BobAt CB H a x j := fun a ha => by
    obtain ⟨i, hi, rfl⟩ := List.getElem_of_mem ha
    obtain ⟨x, j, _, _, B⟩ := S.bobs.getA (List.getElem?_eq_getElem hi)
    exact ⟨x, j, B⟩
  have jj : ∀ j ∈ js, ∃ l', LN H j l' := fun j hj => by
    obtain ⟨i, hi, rfl⟩ := List.getElem_of_mem hj
    have hl := S.bobs.length
    obtain ⟨x, hx⟩ : ∃ x, m.bobbins[i]? = some x := ⟨_, List.getElem?_eq_getElem (by omega)⟩
    obtain ⟨a, j, _, hj', B⟩ := S.bobs.get hx
    rw [List.getElem?_eq_getElem hi] at hj'
    cases hj'
    exact ⟨_, B.lst⟩
  refine ⟨fun h => ?_, ne_of hH S.lst (by intro z; cases z), ne_of hH S.gone (by intro z; cases z), fun h => ?_, fun a ha => ?_⟩
  · obtain ⟨x, j, ⟨d, hB⟩, _⟩ := ja st h
    rw [hH] at hB
    have : (HO.ins CS dx (stF bg m.gap l m.laid p m.cut)) = HO.ins CB d (bobF x.lay x.left j) := Option.some.inj hB
    injection this with _ _ e3
    unfold stF bobF at e3
    simp at e3
  · obtain ⟨l', hl'⟩ := jj st h
    exact ne_of hH hl' (by intro z; cases z) rfl
  · obtain ⟨x, j, ⟨d, hB⟩, _⟩ := ja a ha
    refine ⟨ne_of hB S.lst (by intro z; cases z), ne_of hB S.gone (by intro z; cases z), fun h => ?_⟩
    obtain ⟨l', hl'⟩ := jj a h
    exact ne_of hB hl' (by intro z; cases z) rfl
theorem StAt.tracked {CS CB : Addr} {H : Hp} {st l p : Addr} {bg : Bool} {m : Machine} {as js : List Addr} (S : StAt CS CB H st bg m l p as js) : ∀ a ∈ own st l p as js, ∃ o, H a = some o := fun a ha => by
  unfold own at ha
  simp only [List.mem_cons, List.mem_append] at ha
  rcases ha with z | z | z | z | z
  · obtain ⟨d, h⟩ := S.ins; rw [z]; exact ⟨_, h⟩
  · rw [z]; exact ⟨_, S.lst⟩
  · rw [z]; exact ⟨_, S.gone⟩
  · obtain ⟨i, hi, rfl⟩ := List.getElem_of_mem z
    obtain ⟨x, j, _, _, B⟩ := S.bobs.getA (List.getElem?_eq_getElem hi)
    obtain ⟨d, h⟩ := B.ins
    exact ⟨_, h⟩
  · obtain ⟨i, hi, rfl⟩ := List.getElem_of_mem z
    have hl := S.bobs.length
    obtain ⟨x, hx⟩ : ∃ x, m.bobbins[i]? = some x := ⟨_, List.getElem?_eq_getElem (by omega)⟩
    obtain ⟨a, j, _, hj', B⟩ := S.bobs.get hx
    rw [List.getElem?_eq_getElem hi] at hj'
    cases hj'
    exact ⟨_, B.lst⟩
theorem StAt.new {CS CB : Addr} {H : Hp} {st l p r : Addr} {bg : Bool} {m : Machine} {as js : List Addr} (S : StAt CS CB H st bg m l p as js) (h : H r = none) : r ∉ own st l p as js := fun z => by
  obtain ⟨o, e⟩ := S.tracked r z
  rw [h] at e
  cases e
/-- one bobbin is changed -/
theorem StAt.setBob {CS CB : Addr} {H H1 : Hp} {st l p a j j' : Addr} {bg : Bool} {m : Machine} {as js : List Addr} {b : Nat} {x' : Bobbin} (S : StAt CS CB H st bg m l p as js) (ha : as[b]? = some a) (hj : js[b]? = some j) (B1 : BobAt CB H1 a x' j') (hj' : j' = j ∨ H j' = none)
    (fr : ∀ c o, H c = some o → c ≠ a → H1 c = some o) : StAt CS CB H1 st bg { m with bobbins := m.bobbins.set b x' } l p as (js.set b j') ∧ Fr H H1 (own st l p as js) (own st l p as (js.set b j')) := by
  obtain ⟨dx, hH⟩ := S.ins
  obtain ⟨nsa, nsl, nsp, nsj, naa⟩ := st_ne S
  have haas := List.mem_of_getElem? ha
  have hjjs := List.mem_of_getElem? hj
  have nas : st ≠ a := fun z => nsa (by rw [z]; exact haas)
  have memj : ∀ c, c ∈ js.set b j' → c ∈ js ∨ H c = none := fun c h => by
    rcases List.mem_or_eq_of_mem_set h with z | z
    · exact .inl z
    · rcases hj' with q | q
      · exact .inl (by rw [z, q]; exact hjjs)
      · exact .inr (by rw [z]; exact q)
  refine ⟨⟨⟨dx, fr st _ hH nas⟩, fr l _ S.lst (naa a haas).1.symm, fr p _ S.gone (naa a haas).2.1.symm, S.lp, S.nd, ?_, ?_, ?_⟩, ⟨?_, ?_, ?_⟩⟩
  · exact BobsAt.set B1 S.bobs S.nd ha (fun c hc hne o q => fr c o q hne) fun c hc z => (naa a haas).2.2 (by rw [← z]; exact hc)
  · intro h
    rcases memj l h with z | z
    · exact S.jl z
    · rw [S.lst] at z; cases z
  · intro h
    rcases memj p h with z | z
    · exact S.jp z
    · rw [show H p = _ from S.gone] at z; cases z
  · intro c u e hc
    exact fr c u e fun z => hc (by rw [z]; simp [own, haas])
  · intro c hc
    unfold own at hc ⊢
    simp only [List.mem_cons, List.mem_append] at hc ⊢
    rcases hc with z | z | z | z | z
    · exact .inl (.inl z)
    · exact .inl (.inr (.inl z))
    · exact .inl (.inr (.inr (.inl z)))
    · exact .inl (.inr (.inr (.inr (.inl z))))
    · rcases memj c z with y | y
      · exact .inl (.inr (.inr (.inr (.inr y))))
      · exact .inr y
  · intro c h
    cases q : H c with
    | none => rfl
    | some u =>
      exfalso
      by_cases z : c = a
      · obtain ⟨d, hB⟩ := B1.ins
        rw [z, hB] at h
        cases h
      · rw [fr c u q z] at h
        cases h
/-- a number of the strand's own is changed -/
theorem StAt.setF {CS CB : Addr} {H : Hp} {st l p dx : Addr} {bg bg' : Bool} {m m' : Machine} {as js : List Addr} (S : StAt CS CB H st bg m l p as js) (hb : m'.bobbins = m.bobbins) (hg : m'.gone = m.gone) :
    StAt CS CB (upd H st (.ins CS dx (stF bg' m'.gap l m'.laid p m'.cut))) st bg' m' l p as js ∧ Fr H (upd H st (.ins CS dx (stF bg' m'.gap l m'.laid p m'.cut))) (own st l p as js) (own st l p as js) := by
  obtain ⟨nsa, nsl, nsp, nsj, naa⟩ := st_ne S
  have k : ∀ c, c ≠ st → ∀ o, H c = some o → upd H st (.ins CS dx (stF bg' m'.gap l m'.laid p m'.cut)) c = some o := fun c hc o e => by rw [upd_ne hc]; exact e
  refine ⟨⟨⟨dx, upd_same⟩, k l nsl.symm _ S.lst, ?_, S.lp, S.nd, ?_, S.jl, S.jp⟩, ⟨fun c u e hc => k c (fun z => hc (by rw [z]; simp [own])) u e, fun c hc => .inl hc, fun c h => ?_⟩⟩
  · show LN _ p m'.gone
    rw [hg]
    exact k p nsp.symm _ S.gone
  · rw [hb]
    refine S.bobs.keep fun c hc o e => k c (fun z => ?_) o e
    rcases List.mem_append.mp hc with y | y
    · exact nsa (by rw [← z]; exact y)
    · exact nsj (by rw [← z]; exact y)
  · by_cases z : c = st
    · rw [z, upd_same] at h; cases h
    · rw [upd_ne z] at h; exact h
def cutM (m : Machine) (b n : Nat) : Machine := { Kp240.set m b (Kp240.cutOff (Kp240.bobbinAt m b) n) with cut := m.cut + n }
inductive spCutBobbin (CS CB : Addr) (vs : List V) (H : Hp) (Q : VK) (_E : XK) : Prop
  | mk (st l p : Addr) (as js : List Addr) (bg : Bool) (m : Machine) (b n : Nat) (_ : vs = [.ref st, vi b, vi n]) (_ : StAt CS CB H st bg m l p as js) (_ : MOk m) (_ : b < m.bobbins.length) (_ : n ≤ (Kp240.bobbinAt m b).left) (_ : ∀ (H' : Hp) (js' : List Addr), StAt CS CB H' st bg (cutM m b n) l p as js' → Fr H H' (own st l p as js) (own st l p as js') → (∀ c u, H c = some u → (∀ C d fs, u ≠ HO.ins C d fs) → H' c = some u) → Q .non H') : spCutBobbin CS CB vs H Q _E
theorem ok_cut_bobbin (F : MethIs K CS "cut_bobbin" "Strand.cut_bobbin" sCutBobbin) (T : TxtS K mg CS CB) (G_shorten : Mth P w K mg base 1 CB "shorten" ["self", "metres"] (spShorten CB)) :
    Mth P w K mg base 2 CS "cut_bobbin" ["self", "b", "metres"] (spCutBobbin CS CB) := by
  refine mth_mk F T.cS scCutBobbin (fun _ _ _ _ _ _ us hl => match us, hl with | [_, _, _], _ => rfl) (fun vs H Q E h => ?_) (fun f cdv A outer s H vs Q E hr h => ?_)
  · obtain ⟨st, l, p, as, js, bg, m, b, n, rfl, _⟩ := h
    rfl
  · obtain ⟨st, l, p, as, js, bg, m, b, n, rfl, S, ok, hb, hn, k⟩ := h
    have nd := scCutBobbin.nd
    obtain ⟨dx, hH⟩ := S.ins
    obtain ⟨nsa, nsl, nsp, nsj, naa⟩ := st_ne S
    obtain ⟨x, hx⟩ : ∃ x, m.bobbins[b]? = some x := ⟨_, List.getElem?_eq_getElem hb⟩
    have ex : Kp240.bobbinAt m b = x := getD_of hx
    rw [ex] at hn
    obtain ⟨a, j, ha, hj, B⟩ := S.bobs.get hx
    obtain ⟨dB, hB⟩ := B.ins
    have okx := ok.ok x (List.mem_of_getElem? hx)
    have haas := List.mem_of_getElem? ha
    have nas : a ≠ st := fun z => nsa (by rw [← z]; exact haas)
    refine ⟨_, (pss_cons (ps_expr (pmeth G_shorten hr (pe_ix (ix_listK (K := K) rfl) (pe_fldK (K := K) rfl (pv 0) rfl) (pv 1) (fun _ _ => rfl)) (pa_cons (pv 2) pa_nil)))
      (pss_one (ps_fldaugK (K := K) rfl (pv 0) (pv 2) in_add))), ?_⟩
    refine ⟨_, rfl, st, CS, dx, _, _, rfl, hH, T.cS, T.n_bobbins, st_bobbins, _, rfl, l, _, _, .ref a, rfl, rfl, SqL.of S.lst, atI_nat (by rw [List.getElem?_map, ha]; rfl), a, dB, _, rfl, hB, rfl, _, rfl, a, j, x, n, rfl, B, Nat.le_trans okx.few (by decide), hn, fun H1 ⟨j', B1, hj', fr⟩ => ?_⟩
    obtain ⟨S1, f1⟩ := S.setBob ha hj B1 (.inr hj') fr
    obtain ⟨dx1, hH1⟩ := S1.ins
    refine ⟨_, rfl, st, CS, dx1, _, _, rfl, hH1, T.cS, T.n_cut_off, st_cut, _, rfl, _, _, rfl, rfl, dx1, _, hH1, (by show 6 < 1000; decide), ?_⟩
    obtain ⟨S2, f2⟩ := S1.setF (dx := dx1) (bg' := bg) (m' := cutM m b n) (by unfold cutM Kp240.set; rw [ex]) rfl
    have e : ((m.cut : Int) + (n : Int)) = ((m.cut + n : Nat) : Int) := by omega
    show Q V.non (upd H1 st (HO.ins CS dx1 (putF "cut_off" (V.int ((m.cut : Int) + (n : Int))) (stF bg m.gap l m.laid p m.cut))))
    rw [e]
    refine k _ _ S2 (f1.trans f2) fun c u hc hu => ?_
    have n1 : c ≠ a := fun z => by rw [z, hB] at hc; exact hu _ _ _ (Option.some.inj hc).symm
    have n2 : c ≠ st := fun z => by rw [z, hH] at hc; exact hu _ _ _ (Option.some.inj hc).symm
    rw [upd_ne n2]
    exact fr c u hc n1
end
end LS

namespace LS
open PySem PySem.Spec PyProof.Rows L2
open Kp240 (Bobbin Machine)

/-- the specification's state -/
def stOf (b : Bool) (m : Machine) : Kp240.State := if b = true then some m else none
def m0 (g : Nat) : Machine := ⟨g, [], 0, [], 0⟩
/-- the numbers of an answer -/
def ansL (a : Kp240.Ans) : List Int := a.num :: a.nums
structure TxtC (K : PySem.W.Frag) (mg : Str → Option Value) (CS CB : Addr) : Prop extends TxtS K mg CS CB where
  g_NO_SUCH_BOBBIN : ∃ t, mg "NO_SUCH_BOBBIN" = some (.int (-2) t)
  g_NOT_BEGUN : ∃ t, mg "NOT_BEGUN" = some (.int (-11) t)
  g_TOO_LITTLE_LEFT : ∃ t, mg "TOO_LITTLE_LEFT" = some (.int (-12) t)
  g_THERE_ALREADY : ∃ t, mg "THERE_ALREADY" = some (.int (-17) t)
  g_OUT_OF_BOUNDS : ∃ t, mg "OUT_OF_BOUNDS" = some (.int (-22) t)
  g_FULL : ∃ t, mg "FULL" = some (.int (-28) t)
  g_NO_WAY : ∃ t, mg "NO_WAY" = some (.int (-33) t)
  g_MOST_GAP : ∃ t, mg "MOST_GAP" = some (.int 10000 t)
  g_LEAST_LAY : ∃ t, mg "LEAST_LAY" = some (.int 1000 t)
  g_MOST_LAY : ∃ t, mg "MOST_LAY" = some (.int 2000 t)
  g_MOST_LEFT : ∃ t, mg "MOST_LEFT" = some (.int 100000 t)
  g_MOST_BOBBINS : ∃ t, mg "MOST_BOBBINS" = some (.int 4 t)
  g_MOST_JOINTS : ∃ t, mg "MOST_JOINTS" = some (.int 4 t)
  g_NOT_FINE : ∃ t, mg "NOT_FINE" = some (.int (-33) t)
  g_TOO_FEW_JOINTS : ∃ t, mg "TOO_FEW_JOINTS" = some (.int (-33) t)
  g_MOST_RUN : ∃ t, mg "MOST_RUN" = some (.int 100000 t)
  b_list : mg "list" = none

section
open Kp240 (step say isBobbin bobbinAt LONG JOINTS BOBBINS joined cutOff strandOf tellAll placesOf wireFor)
theorem step_begin (s : Kp240.State) (g : Nat) : step s (.begin_ g) = if 10000 < g then (s, say (-22)) else (some (m0 g), say 0) := rfl
variable (m : Machine) (b n a y : Nat)
theorem step_bobbin : step (some m) (.bobbin y n) = if y < 1000 ∨ 2000 < y ∨ LONG < n then (some m, say (-22)) else if BOBBINS ≤ m.bobbins.length then (some m, say (-28)) else (some { m with bobbins := m.bobbins ++ [⟨y, n, []⟩] }, say (m.bobbins.length : Int)) := rfl
theorem step_joint : step (some m) (.joint b a) = if isBobbin m b = false then (some m, say (-2)) else if (bobbinAt m b).left ≤ a then (some m, say (-22)) else if (bobbinAt m b).joints.contains a then (some m, say (-17)) else if JOINTS ≤ (bobbinAt m b).joints.length then (some m, say (-28)) else
    (some (Kp240.set m b { bobbinAt m b with joints := put (bobbinAt m b).joints a }), say (m.laid + strandOf (bobbinAt m b) a : Nat)) := rfl
theorem step_join : step (some m) (.join b n) = if isBobbin m b = false then (some m, say (-2)) else if n = 0 ∨ LONG < (bobbinAt m b).left + n then (some m, say (-22)) else if JOINTS ≤ (bobbinAt m b).joints.length ∧ (bobbinAt m b).left ≠ 0 then (some m, say (-28)) else
    (some (Kp240.set m b (joined (bobbinAt m b) n)), say ((bobbinAt m b).left + n : Nat)) := rfl
theorem step_could : step (some m) (.could b n) = (some m, if isBobbin m b = false then say (-2) else if n = 0 ∨ LONG < (bobbinAt m b).left + n then say (-22) else say (if Kp240.fine m (Kp240.set m b (joined (bobbinAt m b) n)).bobbins then 1 else 0)) := rfl
theorem step_cut : step (some m) (.cut b n) = if isBobbin m b = false then (some m, say (-2)) else if (bobbinAt m b).left < n then (some m, say (-12)) else (some (cutM m b n), say ((bobbinAt m b).left - n : Nat)) := rfl
theorem step_least : step (some m) .least = (some m, match Kp240.least m with | some w => ⟨(Kp240.sumOf w : Int), Kp240.ints w⟩ | none => say (-33)) := rfl
theorem step_cutLeast : step (some m) .cutLeast = (match Kp240.least m with | some w => (some { m with bobbins := Kp240.cutAll m.bobbins w, cut := m.cut + Kp240.sumOf w }, say (Kp240.sumOf w : Int)) | none => (some m, say (-33))) := rfl
theorem step_fine : step (some m) .fine = (some m, say (if Kp240.fine m m.bobbins then 1 else 0)) := rfl
theorem step_bad : step (some m) .bad = (some m, tellAll (Kp240.bad m)) := rfl
theorem step_nearest : step (some m) .nearest = (some m, match Kp240.nearest (m.gone ++ Kp240.places m m.bobbins) with | some d => say (d : Int) | none => say (-33)) := rfl
theorem step_run : step (some m) (.run n) = if n = 0 ∨ LONG < n then (some m, say (-22)) else if Kp240.lasts m < n then (some m, say (-12)) else if Kp240.fine m m.bobbins = false then (some m, say (-33)) else (some (Kp240.ran m n), say (m.laid + n : Nat)) := rfl
theorem step_may : step (some m) (.may n) = (some m, if n = 0 ∨ LONG < n then say (-22) else say (if decide (n ≤ Kp240.lasts m) && Kp240.fine m m.bobbins then 1 else 0)) := rfl
theorem step_lasts : step (some m) .lasts = (some m, say (Kp240.lasts m : Int)) := rfl
theorem step_places : step (some m) (.places b) = (some m, if isBobbin m b = false then say (-2) else tellAll (placesOf m (bobbinAt m b))) := rfl
theorem step_next : step (some m) .next = (some m, match Kp240.next m with | some z => ⟨(z.1 : Int), [(z.2 : Int)]⟩ | none => say (-33)) := rfl
theorem step_gone : step (some m) .gone = (some m, tellAll m.gone) := rfl
theorem step_wire : step (some m) (.wire b n) = (some m, if isBobbin m b = false then say (-2) else if LONG < n then say (-22) else say (wireFor (bobbinAt m b) n : Int)) := rfl
theorem step_look : step (some m) (.look b) = (some m, if isBobbin m b = false then say (-2) else ⟨((bobbinAt m b).left : Int), Kp240.ints ((bobbinAt m b).lay :: (bobbinAt m b).joints)⟩) := rfl
theorem step_sums : step (some m) .sums = (some m, ⟨(m.laid : Int), Kp240.ints [m.gap, m.bobbins.length, m.cut, m.gone.length]⟩) := rfl
end

section
variable {P : Program} {w : World} {K : PySem.W.Frag} {mg : Str → Option Value} {base : Heap} {CB CS : Addr}

abbrev sRestart : Stmt := inClass (top 39) 1
theorem scRestart : FnScope ["self", "gap"] ["self", "gap"] (defScope sRestart) := ⟨rfl, rfl, rfl, by decide +kernel, rfl, by decide +kernel, by decide +kernel⟩
def preF (b : Bool) (fs : List (Str × V)) : Prop := fs = [(("begun" : Str), V.bl b)] ∨ ∃ (g x y : Nat) (l p : Addr), fs = stF b g l x p y
inductive spRestart (CS CB : Addr) (vs : List V) (H : Hp) (Q : VK) (_E : XK) : Prop
  | mk (st dx : Addr) (b : Bool) (g : Nat) (fs : List (Str × V)) (_ : vs = [.ref st, vi g]) (_ : H st = some (.ins CS dx fs)) (_ : preF b fs) (_ : ∀ (H' : Hp) (l p : Addr), StAt CS CB H' st b (m0 g) l p [] [] → H l = none → H p = none → (∀ c o, H c = some o → c ≠ st → H' c = some o) → Q .non H') : spRestart CS CB vs H Q _E
theorem ok_restart (F : MethIs K CS "restart" "Strand.restart" sRestart) (T : TxtS K mg CS CB) : Mth P w K mg base 1 CS "restart" ["self", "gap"] (spRestart CS CB) := by
  refine mth_mk F T.cS scRestart (fun _ _ _ _ _ _ us hl => match us, hl with | [_, _], _ => rfl) (fun vs H Q E h => ?_) (fun f cdv A outer s H vs Q E hr h => ?_)
  · obtain ⟨st, dx, b, g, fs, rfl, _⟩ := h
    rfl
  · obtain ⟨st, dx, b, g, fs, rfl, hH, pre, k⟩ := h
    have nd := scRestart.nd
    have few : fs.length ≤ 6 := by
      rcases pre with rfl | ⟨_, _, _, _, _, rfl⟩
      · show 1 ≤ 6; decide
      · exact Nat.le_refl 6
    have fewP : ∀ (f : Str) (v : V) (fs : List (Str × V)), (putF f v fs).length ≤ fs.length + 1 := fun f v fs => length_putF _ _ _
    refine ⟨_, (pss_cons (ps_fldK (K := K) rfl (pv 0) (pv 1) rfl)
      (pss_cons (ps_fldK (K := K) rfl (pv 0) (pe_lst pa_nil) rfl)
      (pss_cons (ps_fldK (K := K) rfl (pv 0) pe_int rfl)
      (pss_cons (ps_fldK (K := K) rfl (pv 0) (pe_lst pa_nil) rfl)
      (pss_one (ps_fldK (K := K) rfl (pv 0) pe_int rfl)))))), ?_⟩
    refine ⟨_, rfl, _, rfl, st, CS, dx, _, rfl, hH, T.cS, T.n_gap, (by omega), ?_⟩
    refine ⟨Nat.zero_le _, fun l hl => ?_⟩
    have nls : l ≠ st := fun z => by rw [z, upd_same] at hl; cases hl
    have hl0 : H l = none := by rw [upd_ne nls] at hl; exact hl
    refine ⟨_, rfl, st, CS, dx, _, rfl, (by rw [upd_ne nls.symm]; exact upd_same), T.cS, T.n_bobbins, (by have := fewP "gap" (vi g) fs; omega), ?_⟩
    refine ⟨_, rfl, st, CS, dx, _, rfl, upd_same, T.cS, T.n_laid, (by have := fewP "gap" (vi g) fs; have := fewP "bobbins" (.ref l) (putF "gap" (vi g) fs); omega), ?_⟩
    refine ⟨Nat.zero_le _, fun p hp => ?_⟩
    have nps : p ≠ st := fun z => by rw [z, upd_same] at hp; cases hp
    have npl : p ≠ l := fun z => by rw [z, upd_ne nls, upd_ne nls, upd_same] at hp; cases hp
    have hp0 : H p = none := by rw [upd_ne nps, upd_ne nps, upd_ne npl, upd_ne nps] at hp; exact hp
    have l1 := fewP "gap" (vi g) fs
    have l2 := fewP "bobbins" (.ref l) (putF "gap" (vi g) fs)
    have l3 := fewP "laid" (.int 0) (putF "bobbins" (.ref l) (putF "gap" (vi g) fs))
    have l4 := fewP "passed" (.ref p) (putF "laid" (.int 0) (putF "bobbins" (.ref l) (putF "gap" (vi g) fs)))
    refine ⟨_, rfl, st, CS, dx, _, rfl, (by rw [upd_ne nps.symm]; exact upd_same), T.cS, T.n_passed, (by omega), ?_⟩
    refine ⟨_, rfl, st, CS, dx, _, rfl, upd_same, T.cS, T.n_cut_off, (by omega), ?_⟩
    have eF : putF "cut_off" (.int 0) (putF "passed" (.ref p) (putF "laid" (.int 0) (putF "bobbins" (.ref l) (putF "gap" (vi g) fs)))) = stF b g l 0 p 0 := by
      rcases pre with rfl | ⟨_, _, _, _, _, rfl⟩
      · rfl
      · rfl
    refine k _ l p ⟨⟨dx, by rw [upd_same, eF]; rfl⟩, ?_, ?_, npl.symm, List.nodup_nil, .nil, by simp, by simp⟩ hl0 hp0 fun c o e hc => ?_
    · rw [upd_ne nls, upd_ne nls, upd_ne npl.symm, upd_ne nls, upd_ne nls, upd_same]
      rfl
    · show upd _ st _ p = _
      rw [upd_ne nps, upd_ne nps, upd_same]
      rfl
    · rw [upd_ne hc, upd_ne hc, upd_ne (ne_of_none e hp0), upd_ne hc, upd_ne hc, upd_ne (ne_of_none e hl0), upd_ne hc]
      exact e

abbrev sSInit : Stmt := inClass (top 39) 0
theorem scSInit : FnScope ["self"] ["self"] (defScope sSInit) := ⟨rfl, rfl, rfl, by decide +kernel, rfl, by decide +kernel, by decide +kernel⟩
inductive spSInit (CS CB : Addr) (vs : List V) (H : Hp) (Q : VK) (_E : XK) : Prop
  | mk (st dx : Addr) (_ : vs = [.ref st]) (_ : H st = some (.ins CS dx [])) (_ : ∀ (H' : Hp) (l p : Addr), StAt CS CB H' st false (m0 0) l p [] [] → H l = none → H p = none → (∀ c o, H c = some o → c ≠ st → H' c = some o) → Q .non H') : spSInit CS CB vs H Q _E
theorem ok_sinit {mgC : mg "Strand" = some (.ref CS)} (F : MethIs K CS "__init__" "Strand.__init__" sSInit) (M : PySem.W.makesIn K CS = true) (kp : PySem.W.keepIn K (.ref CS) = true) (T : TxtS K mg CS CB) (G_restart : Mth P w K mg base 1 CS "restart" ["self", "gap"] (spRestart CS CB)) :
    Mkc P w K mg base 2 CS "Strand" ["self"] (spSInit CS CB) := by
  refine mkc_mk F M kp mgC scSInit (fun _ _ _ _ _ _ us hl => match us, hl with | [_], _ => rfl) (fun vs H Q E h => ?_) (fun f cdv A outer s H vs Q E hr h => ?_)
  · obtain ⟨st, dx, rfl, _⟩ := h
    rfl
  · obtain ⟨st, dx, rfl, hH, k⟩ := h
    have nd := scSInit.nd
    refine ⟨_, (pss_cons (ps_fldK (K := K) rfl (pv 0) pe_bl rfl)
      (pss_one (ps_expr (pmeth G_restart hr (pv 0) (pa_cons pe_int pa_nil))))), ?_⟩
    refine ⟨_, rfl, st, CS, dx, _, rfl, hH, T.cS, T.n_begun, (by decide), ?_⟩
    refine ⟨_, rfl, st, dx, _, rfl, upd_same, rfl, st, dx, false, 0, _, rfl, upd_same, .inl rfl, fun H1 l p S1 hl hp fr => ?_⟩
    have nl : l ≠ st := fun z => by rw [z, upd_same] at hl; cases hl
    have np : p ≠ st := fun z => by rw [z, upd_same] at hp; cases hp
    refine k H1 l p S1 (by rw [upd_ne nl] at hl; exact hl) (by rw [upd_ne np] at hp; exact hp) fun c o e hc => fr c o (by rw [upd_ne hc]; exact e) hc

/-- the promise of a call: its numbers, what it answers, what becomes of the strand -/
inductive spCall (CS CB : Addr) (sel : Bool → Machine → List Nat → Kp240.Call → Prop) (vs : List V) (H : Hp) (Q : VK) (_E : XK) : Prop
  | mk (st nu l p : Addr) (as js : List Addr) (b : Bool) (m : Machine) (args : List Nat) (c : Kp240.Call) (_ : vs = [.ref st, .ref nu]) (_ : StAt CS CB H st b m l p as js) (_ : (b = true → MOk m)) (_ : (b = true → m.gone.length ≤ 500000)) (_ : LN H nu args) (_ : nu ∉ own st l p as js) (_ : sel b m args c) (_ : ∀ (H' : Hp) (r l' p' : Addr) (as' js' : List Addr) (b' : Bool) (m' : Machine), (Kp240.step (stOf b m) c).1 = stOf b' m' → StAt CS CB H' st b' m' l' p' as' js' → Fr H H' (own st l p as js) (own st l' p' as' js') → H r = none → r ∉ own st l' p' as' js' → H' r = some (.lst ((ansL (Kp240.step (stOf b m) c).2).map V.int)) → Q (.ref r) H') : spCall CS CB sel vs H Q _E
theorem spCall_len {sel : Bool → Machine → List Nat → Kp240.Call → Prop} (vs : List V) (H : Hp) (Q : VK) (E : XK) (h : spCall CS CB sel vs H Q E) : vs.length = (["strand", "numbers"] : List Str).length := by
  obtain ⟨st, nu, l, p, as, js, b, m, args, c, rfl, _⟩ := h
  rfl
/-- an answer that changes nothing -/
theorem ans_same {H H1 : Hp} {st l p r : Addr} {as js : List Addr} {b : Bool} {m : Machine} {c : Kp240.Call} {a : List Int} {R : V → Hp → Prop} (S : StAt CS CB H st b m l p as js) (s1 : Same H H1) (hr : H1 r = none)
    (k : ∀ (H' : Hp) (r l' p' : Addr) (as' js' : List Addr) (b' : Bool) (m' : Machine), (Kp240.step (stOf b m) c).1 = stOf b' m' → StAt CS CB H' st b' m' l' p' as' js' → Fr H H' (own st l p as js) (own st l' p' as' js') → H r = none → r ∉ own st l' p' as' js' → H' r = some (.lst ((ansL (Kp240.step (stOf b m) c).2).map V.int)) → R (.ref r) H')
    (e1 : (Kp240.step (stOf b m) c).1 = stOf b m) (e2 : ansL (Kp240.step (stOf b m) c).2 = a) : R (.ref r) (upd H1 r (.lst (a.map V.int))) :=
  k _ r l p as js b m e1 (S.mono (s1.add hr)) (Fr.same (s1.add hr)) (s1.free hr) (S.new (s1.free hr)) (by rw [upd_same, e2])
/-- an answer behind a change -/
theorem ans_new {H H1 : Hp} {st l p r l' p' : Addr} {as js as' js' : List Addr} {b b' : Bool} {m m' : Machine} {c : Kp240.Call} {a : List Int} {R : V → Hp → Prop} (S1 : StAt CS CB H1 st b' m' l' p' as' js') (f1 : Fr H H1 (own st l p as js) (own st l' p' as' js')) (hr : H1 r = none)
    (k : ∀ (H' : Hp) (r l' p' : Addr) (as' js' : List Addr) (b' : Bool) (m' : Machine), (Kp240.step (stOf b m) c).1 = stOf b' m' → StAt CS CB H' st b' m' l' p' as' js' → Fr H H' (own st l p as js) (own st l' p' as' js') → H r = none → r ∉ own st l' p' as' js' → H' r = some (.lst ((ansL (Kp240.step (stOf b m) c).2).map V.int)) → R (.ref r) H')
    (e1 : (Kp240.step (stOf b m) c).1 = stOf b' m') (e2 : ansL (Kp240.step (stOf b m) c).2 = a) : R (.ref r) (upd H1 r (.lst (a.map V.int))) :=
  k _ r l' p' as' js' b' m' e1 (S1.mono (Same.new hr)) (f1.trans (Fr.same (Same.new hr))) (f1.dom r hr) (S1.new hr) (by rw [upd_same, e2])

abbrev sCBegin : Stmt := top 40
theorem scCBegin : FnScope ["strand", "numbers", "gap"] ["strand", "numbers"] (defScope sCBegin) := ⟨rfl, rfl, rfl, by decide +kernel, rfl, by decide +kernel, by decide +kernel⟩
def selBegin (_ : Bool) (_ : Machine) (args : List Nat) (c : Kp240.Call) : Prop := ∃ g, args = [g] ∧ c = .begin_ g
theorem ok_call_begin (F : FunIs K mg "call_begin" sCBegin) (T : TxtC K mg CS CB) (G_restart : Mth P w K mg base 1 CS "restart" ["self", "gap"] (spRestart CS CB)) : Cal P w K mg base 2 "call_begin" ["strand", "numbers"] (spCall CS CB selBegin) := by
  refine cal_mk F scCBegin (fun _ _ _ _ _ _ us hl => match us, hl with | [_, _], _ => rfl) spCall_len (fun f cdv A outer s H vs Q E hr h => ?_)
  obtain ⟨st, nu, l, p, as, js, b, m, args, c, rfl, S, ok, hgl, hnu, nnu, ⟨g, rfl, rfl⟩, k⟩ := h
  have nd := scCBegin.nd
  obtain ⟨dx, hH⟩ := S.ins
  refine ⟨_, (pss_cons (ps_set (i := 2) nd rfl (Or.inl rfl) (pe_ix (ix_listK (K := K) rfl) (pv 1) pe_int (fun _ _ => rfl)))
      (pss_cons (ps_if (pt_cmpR op_gt (pv 2) (pgi T.g_MOST_GAP) (nomark _)) (pss_one (ps_ret (pe_lst (pa_cons (pgi T.g_OUT_OF_BOUNDS) pa_nil)))) pss_nil)
      (pss_cons (ps_expr (pmeth G_restart hr (pv 0) (pa_cons (pv 2) pa_nil)))
      (pss_cons (ps_fldK (K := K) rfl (pv 0) pe_bl rfl)
      (pss_one (ps_ret (pe_lst (pa_cons pe_int pa_nil)))))))), ?_⟩
  refine ⟨_, rfl, nu, _, _, vi g, rfl, rfl, hnu.sq, at_of (j := 0) rfl rfl, ?_⟩
  refine ⟨_, rfl, _, _, rfl, rfl, _, rfl, ?_⟩
  show if decide ((10000 : Int) < (g : Int)) = true then _ else _
  by_cases h0 : 10000 < g
  · rw [decide_eq_true (show (10000 : Int) < (g : Int) by omega)]
    refine iteT ⟨(by show 1 ≤ sizeLine; decide), fun r hr => ?_⟩
    have e : Kp240.step (stOf b m) (.begin_ g) = (stOf b m, Kp240.say (-22)) := by rw [step_begin, if_pos h0]
    exact ans_same (a := [-22]) S Same.rfl' hr k (by rw [e]) (by rw [e]; rfl)
  · rw [decide_eq_false (show ¬ (10000 : Int) < (g : Int) by omega)]
    refine iteF ?_
    have e : Kp240.step (stOf b m) (.begin_ g) = (some (m0 g), Kp240.say 0) := by rw [step_begin, if_neg h0]
    refine ⟨_, rfl, st, dx, _, rfl, hH, rfl, _, rfl, st, dx, b, g, _, rfl, hH, .inr ⟨_, _, _, _, _, rfl⟩, fun H1 l1 p1 S1 hl1 hp1 fr => ?_⟩
    obtain ⟨dx1, hH1⟩ := S1.ins
    refine ⟨_, rfl, st, CS, dx1, _, rfl, hH1, T.cS, T.n_begun, (by show 6 < 1000; decide), ?_⟩
    obtain ⟨S2, f2⟩ := S1.setF (dx := dx1) (bg' := true) (m' := m0 g) rfl rfl
    refine ⟨(by show 1 ≤ sizeLine; decide), fun r hr => ?_⟩
    have f1 : Fr H H1 (own st l p as js) (own st l1 p1 [] []) := by
      refine ⟨fun c u e hc => fr c u e fun z => hc (by rw [z]; simp [own]), fun c hc => ?_, fun c h => ?_⟩
      · unfold own at hc
        simp only [List.mem_cons, List.append_nil] at hc
        rcases hc with z | z | z | z
        · exact .inl (by rw [z]; simp [own])
        · exact .inr (by rw [z]; exact hl1)
        · exact .inr (by rw [z]; exact hp1)
        · cases z
      · cases q : H c with
        | none => rfl
        | some u =>
          exfalso
          by_cases z : c = st
          · rw [z, hH1] at h; cases h
          · rw [fr c u q z] at h; cases h
    exact ans_new (a := [0]) S2 (f1.trans f2) hr k (by rw [e]; rfl) (by rw [e]; rfl)

abbrev sCBobbinC : Stmt := top 41
theorem scCBobbinC : FnScope ["strand", "numbers", "lay", "left"] ["strand", "numbers"] (defScope sCBobbinC) := ⟨rfl, rfl, rfl, by decide +kernel, rfl, by decide +kernel, by decide +kernel⟩
def selBobbin (b : Bool) (_ : Machine) (args : List Nat) (c : Kp240.Call) : Prop := b = true ∧ ∃ y n, args = [y, n] ∧ c = .bobbin y n
theorem ok_call_bobbin (F : FunIs K mg "call_bobbin" sCBobbinC) (T : TxtC K mg CS CB) (G_Bobbin : Mkc P w K mg base 1 CB "Bobbin" ["self", "lay", "left"] (spBInit CB)) : Cal P w K mg base 4 "call_bobbin" ["strand", "numbers"] (spCall CS CB selBobbin) := by
  refine cal_mk F scCBobbinC (fun _ _ _ _ _ _ us hl => match us, hl with | [_, _], _ => rfl) spCall_len (fun f cdv A outer s H vs Q E hr h => ?_)
  obtain ⟨st, nu, l, p, as, js, b, m, args, c, rfl, S, ok, hgl, hnu, nnu, ⟨rfl, y, n, rfl, rfl⟩, k⟩ := h
  have ok := ok rfl
  have nd := scCBobbinC.nd
  obtain ⟨dx, hH⟩ := S.ins
  have lenA := S.bobs.length
  have four := ok.four
  refine ⟨_, (pss_cons (ps_set (i := 2) nd rfl (Or.inl rfl) (pe_ix (ix_listK (K := K) rfl) (pv 1) pe_int (fun _ _ => rfl)))
      (pss_cons (ps_set (i := 3) nd rfl (Or.inl rfl) (pe_ix (ix_listK (K := K) rfl) (pv 1) pe_int (fun _ _ => rfl)))
      (pss_cons (ps_if (PW.pt (pw_or (pt_cmpR op_lt (pv 2) (pgi T.g_LEAST_LAY) (nomark _)) (pw_or (pt_cmpR op_gt (pv 2) (pgi T.g_MOST_LAY) (nomark _)) (pw_or1 (pt_cmpR op_gt (pv 3) (pgi T.g_MOST_LEFT) (nomark _)))))) (pss_one (ps_ret (pe_lst (pa_cons (pgi T.g_OUT_OF_BOUNDS) pa_nil)))) pss_nil)
      (pss_cons (ps_if (pt_cmpR op_eq (pe_callB (call_len_seqK (K := K) rfl) (by rfl) T.b_len bo_len (pa_cons (pe_fldK (K := K) rfl (pv 0) rfl) pa_nil)) (pgi T.g_MOST_BOBBINS) (nomark _)) (pss_one (ps_ret (pe_lst (pa_cons (pgi T.g_FULL) pa_nil)))) pss_nil)
      (pss_cons (ps_expr (pe_bmK (K := K) rfl PySem.F.plainAttrs_list PySem.F.slot_list_append PySem.F.type_list_append mt_append (pe_fldK (K := K) rfl (pv 0) rfl) (pa_cons (pmk G_Bobbin hr rfl (pa_cons (pv 2) (pa_cons (pv 3) pa_nil))) pa_nil)))
      (pss_one (ps_ret (pe_lst (pa_cons (pe_op op_sub (pe_callB (call_len_seqK (K := K) rfl) (by rfl) T.b_len bo_len (pa_cons (pe_fldK (K := K) rfl (pv 0) rfl) pa_nil)) pe_int) pa_nil))))))))), ?_⟩
  refine ⟨_, rfl, nu, _, _, vi y, rfl, rfl, hnu.sq, at_of (j := 0) rfl rfl, ?_⟩
  refine ⟨_, rfl, nu, _, _, vi n, rfl, rfl, hnu.sq, at_of (j := 1) rfl rfl, ?_⟩
  have fin22 : (y < 1000 ∨ 2000 < y ∨ Kp240.LONG < n) → (([V.int (-22)] : List V).length ≤ sizeLine ∧ ∀ r, H r = none → Q (.ref r) (upd H r (.lst [V.int (-22)]))) := fun h0 => by
    refine ⟨(by show 1 ≤ sizeLine; decide), fun r hr => ?_⟩
    have e : Kp240.step (stOf true m) (.bobbin y n) = (some m, Kp240.say (-22)) := by show Kp240.step (some m) _ = _; rw [step_bobbin, if_pos h0]
    exact ans_same (a := [-22]) (c := .bobbin y n) S Same.rfl' hr k (by rw [e]; rfl) (by rw [e]; rfl)
  refine ⟨_, rfl, _, _, rfl, rfl, _, rfl, ?_⟩
  show if decide ((y : Int) < (1000 : Int)) = true then _ else _
  by_cases h1 : y < 1000
  · rw [decide_eq_true (show (y : Int) < (1000 : Int) by omega)]
    exact iteT (iteT (fin22 (.inl h1)))
  rw [decide_eq_false (show ¬ (y : Int) < (1000 : Int) by omega)]
  refine iteF ⟨_, rfl, _, _, rfl, rfl, _, rfl, ?_⟩
  show if decide ((2000 : Int) < (y : Int)) = true then _ else _
  by_cases h2 : 2000 < y
  · rw [decide_eq_true (show (2000 : Int) < (y : Int) by omega)]
    exact iteT (iteT (fin22 (.inr (.inl h2))))
  rw [decide_eq_false (show ¬ (2000 : Int) < (y : Int) by omega)]
  refine iteF ⟨_, rfl, _, _, rfl, rfl, _, rfl, ?_⟩
  show if decide ((100000 : Int) < (n : Int)) = true then _ else _
  by_cases h3 : 100000 < n
  · rw [decide_eq_true (show (100000 : Int) < (n : Int) by omega)]
    exact iteT (fin22 (.inr (.inr h3)))
  rw [decide_eq_false (show ¬ (100000 : Int) < (n : Int) by omega)]
  refine iteF ?_
  have hno : ¬ (y < 1000 ∨ 2000 < y ∨ Kp240.LONG < n) := by unfold Kp240.LONG; omega
  refine ⟨_, rfl, st, CS, dx, _, _, rfl, hH, T.cS, T.n_bobbins, st_bobbins, l, _, rfl, .inl (SqL.of S.lst), rfl, _, rfl, ?_⟩
  show if decide (V.int (((as.map V.ref).length : Nat) : Int) = V.int ((4 : Nat) : Int)) = true then _ else _
  rw [eqI, List.length_map, lenA.1]
  by_cases h4 : m.bobbins.length = 4
  · rw [decide_eq_true h4]
    refine iteT ⟨(by show 1 ≤ sizeLine; decide), fun r hr => ?_⟩
    have e : Kp240.step (stOf true m) (.bobbin y n) = (some m, Kp240.say (-28)) := by show Kp240.step (some m) _ = _; rw [step_bobbin, if_neg hno, if_pos (by rw [h4]; exact Nat.le_refl 4)]
    exact ans_same (a := [-28]) (c := .bobbin y n) S Same.rfl' hr k (by rw [e]; rfl) (by rw [e]; rfl)
  rw [decide_eq_false h4]
  refine iteF ?_
  have e : Kp240.step (stOf true m) (.bobbin y n) = (some { m with bobbins := m.bobbins ++ [⟨y, n, []⟩] }, Kp240.say (m.bobbins.length : Int)) := by
    show Kp240.step (some m) _ = _
    rw [step_bobbin, if_neg hno, if_neg (by unfold Kp240.BOBBINS; omega)]
  refine ⟨_, rfl, st, CS, dx, _, _, rfl, hH, T.cS, T.n_bobbins, st_bobbins, .inl ⟨rfl, _, SqL.of S.lst⟩, _, rfl, _, rfl, ?_⟩
  intro x dX nx ndx hne
  refine ⟨x, dX, y, n, rfl, upd_same, fun H1 j B1 hj fr => ⟨rfl, ?_⟩⟩
  have s1 : Same H H1 := Same.made nx ndx fr
  have hj0 : H j = none := by
    have nj1 : j ≠ x := fun z => by rw [z, upd_same] at hj; cases hj
    rw [upd_ne nj1] at hj
    have nj2 : j ≠ dX := fun z => by rw [z, upd_same] at hj; cases hj
    rw [upd_ne nj2] at hj
    exact hj
  have S1 := S.mono s1
  obtain ⟨dB, hB⟩ := B1.ins
  refine ⟨l, _, _, rfl, rfl, S1.lst, (by rw [List.length_map, lenA.1]; exact line2 (by omega)), ?_⟩
  have nlx : x ≠ l := ne_of hB S1.lst (by intro z; cases z)
  have nlj : j ≠ l := fun z => by rw [z, S.lst] at hj0; cases hj0
  have nxs : x ∉ as := fun z => by
    obtain ⟨o, q⟩ := S.tracked x (by simp [own, z])
    rw [nx] at q; cases q
  have lenl : ∀ c, c ≠ l → ∀ o, H1 c = some o → upd H1 l (.lst (as.map V.ref ++ [.ref x])) c = some o := fun c hc o q => by rw [upd_ne hc]; exact q
  obtain ⟨nsa, nsl, nsp, nsj, naa⟩ := st_ne S
  have S2 : StAt CS CB (upd H1 l (.lst (as.map V.ref ++ [.ref x]))) st true { m with bobbins := m.bobbins ++ [⟨y, n, []⟩] } l p (as ++ [x]) (js ++ [j]) := by
    refine ⟨let ⟨d, h⟩ := S1.ins; ⟨d, lenl st nsl _ h⟩, by rw [upd_same, List.map_append]; rfl, lenl p S.lp.symm _ S1.gone, S.lp, ?_, ?_, ?_, ?_⟩
    · rw [List.nodup_append]
      refine ⟨S.nd, by simp, fun c hc d hd => ?_⟩
      rw [List.mem_singleton.mp hd]
      exact fun z => nxs (by rw [← z]; exact hc)
    · refine BobsAt.snoc (B1.keep (lenl x nlx) (lenl j nlj)) (S1.bobs.keep fun c hc o q => lenl c (fun z => ?_) o q)
      rcases List.mem_append.mp hc with u | u
      · exact (naa c u).1 z
      · exact S.jl (by rw [← z]; exact u)
    · simp only [List.mem_append, List.mem_singleton, not_or]
      exact ⟨S.jl, nlj.symm⟩
    · simp only [List.mem_append, List.mem_singleton, not_or]
      exact ⟨S.jp, fun z => by rw [← z, show H p = _ from S.gone] at hj0; cases hj0⟩
  have f2 : Fr H (upd H1 l (.lst (as.map V.ref ++ [.ref x]))) (own st l p as js) (own st l p (as ++ [x]) (js ++ [j])) := by
    refine ⟨fun c u q hc => lenl c (fun z => hc (by rw [z]; simp [own])) u (s1 c u q), fun c hc => ?_, fun c h => ?_⟩
    · unfold own at hc ⊢
      simp only [List.mem_cons, List.mem_append, List.mem_singleton, List.not_mem_nil, or_false] at hc ⊢
      rcases hc with z | z | z | (z | z) | (z | z)
      · exact .inl (.inl z)
      · exact .inl (.inr (.inl z))
      · exact .inl (.inr (.inr (.inl z)))
      · exact .inl (.inr (.inr (.inr (.inl z))))
      · exact .inr (by rw [z]; exact nx)
      · exact .inl (.inr (.inr (.inr (.inr z))))
      · exact .inr (by rw [z]; exact hj0)
    · by_cases z : c = l
      · rw [z, upd_same] at h; cases h
      · rw [upd_ne z] at h; exact s1.free h
  refine ⟨_, rfl, st, CS, _, _, _, rfl, S2.ins.choose_spec, T.cS, T.n_bobbins, st_bobbins, l, _, rfl, .inl (SqL.of S2.lst), _, _, rfl, rfl, (by show 1 ≤ sizeLine; decide), fun r hr => ?_⟩
  have ev : (((as ++ [x]).map V.ref).length : Int) - 1 = (m.bobbins.length : Int) := by rw [List.length_map, List.length_append, lenA.1]; simp
  show Q (.ref r) (upd _ r (.lst [V.int ((((as ++ [x]).map V.ref).length : Int) - 1)]))
  rw [ev]
  exact ans_new (a := [(m.bobbins.length : Int)]) (c := .bobbin y n) S2 f2 hr k (by rw [e]; rfl) (by rw [e]; rfl)
end
end LS

namespace LS
open PySem PySem.Spec PyProof.Rows L2
open Kp240 (Bobbin Machine)

theorem inV_contains {a : Nat} : ∀ {l : List Nat}, inV (vi a) (vl l) = l.contains a
  | [] => rfl
  | b :: l => by
    have ih := inV_contains (a := a) (l := l)
    unfold inV at ih ⊢
    show (eqV (vi b) (vi a) || ((vl l).any fun y => eqV y (vi a))) = _
    rw [ih, List.contains_cons]
    congr 1
    show ((b : Int) == (a : Int)) = (a == b)
    rw [Bool.eq_iff_iff, beq_iff_eq, beq_iff_eq]
    omega
theorem all_flat : ∀ {l : List Nat}, (vl l).all flatV = true
  | [] => rfl
  | b :: l => by
    show (flatV (vi b) && (vl l).all flatV) = true
    rw [all_flat]
    rfl
theorem isBob {m : Machine} {b : Nat} (h : b < m.bobbins.length) : ¬ Kp240.isBobbin m b = false := by
  unfold Kp240.isBobbin
  rw [decide_eq_true h]
  exact Bool.noConfusion
theorem set_get {m : Machine} {b : Nat} {x : Bobbin} (h : m.bobbins[b]? = some x) : Kp240.bobbinAt m b = x := getD_of h

section
variable {P : Program} {w : World} {K : PySem.W.Frag} {mg : Str → Option Value} {base : Heap} {CB CS : Addr}

abbrev sCJoint : Stmt := top 42
theorem scCJoint : FnScope ["strand", "numbers", "bobbin", "at"] ["strand", "numbers"] (defScope sCJoint) := ⟨rfl, rfl, rfl, by decide +kernel, rfl, by decide +kernel, by decide +kernel⟩
def selJoint (b : Bool) (m : Machine) (args : List Nat) (c : Kp240.Call) : Prop := b = true ∧ ∃ i n, args = [i, n] ∧ c = .joint i n ∧ i < m.bobbins.length
theorem ok_call_joint (F : FunIs K mg "call_joint" sCJoint) (T : TxtC K mg CS CB) (G_add_joint : Mth P w K mg base 1 CB "add_joint" ["self", "at"] (spAddJoint CB)) (G_place : Mth P w K mg base 1 CB "place" ["self", "laid", "at"] (spPlace CB)) :
    Cal P w K mg base 2 "call_joint" ["strand", "numbers"] (spCall CS CB selJoint) := by
  refine cal_mk F scCJoint (fun _ _ _ _ _ _ us hl => match us, hl with | [_, _], _ => rfl) spCall_len (fun f cdv A outer s H vs Q E hr h => ?_)
  obtain ⟨st, nu, l, p, as, js, b, m, args, c, rfl, S, ok, hgl, hnu, nnu, ⟨rfl, i, n, rfl, rfl, hi⟩, k⟩ := h
  have ok := ok rfl
  have nd := scCJoint.nd
  obtain ⟨dx, hH⟩ := S.ins
  obtain ⟨x, hx⟩ : ∃ x, m.bobbins[i]? = some x := ⟨_, List.getElem?_eq_getElem hi⟩
  have ex := set_get hx
  obtain ⟨a, j, ha, hj, B⟩ := S.bobs.get hx
  obtain ⟨dB, hB⟩ := B.ins
  have okx := ok.ok x (List.mem_of_getElem? hx)
  have few := okx.few
  refine ⟨_, (pss_cons (ps_set (i := 2) nd rfl (Or.inl rfl) (pe_ix (ix_listK (K := K) rfl) (pe_fldK (K := K) rfl (pv 0) rfl) (pe_ix (ix_listK (K := K) rfl) (pv 1) pe_int (fun _ _ => rfl)) (fun _ _ => rfl)))
      (pss_cons (ps_set (i := 3) nd rfl (Or.inl rfl) (pe_ix (ix_listK (K := K) rfl) (pv 1) pe_int (fun _ _ => rfl)))
      (pss_cons (ps_if (pt_cmpR op_ge (pv 3) (pe_fldK (K := K) rfl (pv 2) rfl) (nomark _)) (pss_one (ps_ret (pe_lst (pa_cons (pgi T.g_OUT_OF_BOUNDS) pa_nil)))) pss_nil)
      (pss_cons (ps_if (pt_cmpR (op_in_seqK (K := K) rfl) (pv 3) (pe_fldK (K := K) rfl (pv 2) rfl) (by with_unfolding_all rfl)) (pss_one (ps_ret (pe_lst (pa_cons (pgi T.g_THERE_ALREADY) pa_nil)))) pss_nil)
      (pss_cons (ps_if (pt_cmpR op_eq (pe_callB (call_len_seqK (K := K) rfl) (by rfl) T.b_len bo_len (pa_cons (pe_fldK (K := K) rfl (pv 2) rfl) pa_nil)) (pgi T.g_MOST_JOINTS) (nomark _)) (pss_one (ps_ret (pe_lst (pa_cons (pgi T.g_FULL) pa_nil)))) pss_nil)
      (pss_cons (ps_expr (pmeth G_add_joint hr (pv 2) (pa_cons (pv 3) pa_nil)))
      (pss_one (ps_ret (pe_lst (pa_cons (pmeth G_place hr (pv 2) (pa_cons (pe_fldK (K := K) rfl (pv 0) rfl) (pa_cons (pv 3) pa_nil))) pa_nil)))))))))), ?_⟩
  refine ⟨_, rfl, st, CS, dx, _, _, rfl, hH, T.cS, T.n_bobbins, st_bobbins, _, rfl, nu, _, _, vi i, rfl, rfl, hnu.sq, at_of (j := 0) rfl rfl, l, _, _, .ref a, rfl, rfl, SqL.of S.lst, atI_nat (by rw [List.getElem?_map, ha]; rfl), ?_⟩
  refine ⟨_, rfl, nu, _, _, vi n, rfl, rfl, hnu.sq, at_of (j := 1) rfl rfl, ?_⟩
  refine ⟨_, rfl, _, rfl, a, CB, dB, _, _, rfl, hB, T.cB, T.n_left, bob_left, _, _, rfl, rfl, _, rfl, ?_⟩
  show if decide ((x.left : Int) ≤ (n : Int)) = true then _ else _
  have e0 : Kp240.step (stOf true m) (.joint i n) = Kp240.step (some m) (.joint i n) := rfl
  rw [step_joint, if_neg (isBob hi), ex] at e0
  by_cases h1 : x.left ≤ n
  · rw [decide_eq_true (show (x.left : Int) ≤ (n : Int) by omega)]
    rw [if_pos h1] at e0
    refine iteT ⟨(by show 1 ≤ sizeLine; decide), fun r hr => ?_⟩
    exact ans_same (a := [-22]) S Same.rfl' hr k (by rw [e0]; rfl) (by rw [e0]; rfl)
  rw [decide_eq_false (show ¬ (x.left : Int) ≤ (n : Int) by omega)]
  rw [if_neg h1] at e0
  refine iteF ?_
  refine ⟨_, rfl, _, rfl, a, CB, dB, _, _, rfl, hB, T.cB, T.n_joints, bob_joints, j, _, rfl, .inl B.lst.sq, rfl, all_flat, _, rfl, ?_⟩
  show if inV (vi n) (vl x.joints) = true then _ else _
  rw [inV_contains]
  cases h2 : x.joints.contains n with
  | true =>
    rw [if_pos h2] at e0
    refine iteT ⟨(by show 1 ≤ sizeLine; decide), fun r hr => ?_⟩
    exact ans_same (a := [-17]) S Same.rfl' hr k (by rw [e0]; rfl) (by rw [e0]; rfl)
  | false =>
  rw [if_neg (by rw [h2]; exact Bool.false_ne_true)] at e0
  refine iteF ?_
  refine ⟨_, rfl, a, CB, dB, _, _, rfl, hB, T.cB, T.n_joints, bob_joints, j, _, rfl, .inl B.lst.sq, rfl, _, rfl, ?_⟩
  show if decide (V.int (((vl x.joints).length : Nat) : Int) = V.int ((4 : Nat) : Int)) = true then _ else _
  rw [eqI, List.length_map]
  by_cases h3 : x.joints.length = 4
  · rw [decide_eq_true h3]
    rw [if_pos (by rw [h3]; exact Nat.le_refl 4)] at e0
    refine iteT ⟨(by show 1 ≤ sizeLine; decide), fun r hr => ?_⟩
    exact ans_same (a := [-28]) S Same.rfl' hr k (by rw [e0]; rfl) (by rw [e0]; rfl)
  rw [decide_eq_false h3]
  rw [if_neg (by unfold Kp240.JOINTS; omega)] at e0
  refine iteF ?_
  have hnot : n ∉ x.joints := fun z => by
    rw [List.contains_iff_mem.mpr z] at h2
    cases h2
  refine ⟨_, rfl, a, dB, _, rfl, hB, rfl, _, rfl, a, j, x, n, rfl, B, okx.up, few, hnot, fun H1 ⟨j', B1, hj', fr⟩ => ?_⟩
  obtain ⟨S1, f1⟩ := S.setBob ha hj B1 (.inr hj') fr
  obtain ⟨dx1, hH1⟩ := S1.ins
  obtain ⟨dB1, hB1⟩ := B1.ins
  have ok1 : BobOk { x with joints := put x.joints n } := by
    refine ⟨okx.lo, okx.hi, okx.left, ?_, put_up okx.up, fun q hq => ?_⟩
    · show (put x.joints n).length ≤ 4
      rw [put_len hnot]; omega
    · have : q ∈ x.joints ++ [n] := (put_perm hnot).mem_iff.mp hq
      show q < x.left
      rcases List.mem_append.mp this with z | z
      · exact okx.below q z
      · rw [List.mem_singleton.mp z]; omega
  refine ⟨_, rfl, a, dB1, _, rfl, hB1, rfl, _, rfl, st, CS, dx1, _, _, rfl, hH1, T.cS, T.n_laid, st_laid, _, rfl, a, j', _, m.laid, n, _, rfl, rfl, B1, ok1, ?_⟩
  refine ⟨(by show 1 ≤ sizeLine; decide), fun r hr => ?_⟩
  exact ans_new (a := [((m.laid + Kp240.strandOf x n : Nat) : Int)]) S1 f1 hr k (by rw [e0]; rfl) (by rw [e0]; rfl)

abbrev sJOut : Stmt := top 43
theorem scJOut : FnScope ["bobbin", "metres"] ["bobbin", "metres"] (defScope sJOut) := ⟨rfl, rfl, rfl, by decide +kernel, rfl, by decide +kernel, by decide +kernel⟩
inductive spJOut (CB : Addr) (vs : List V) (H : Hp) (Q : VK) (_E : XK) : Prop
  | mk (a j : Addr) (x : Bobbin) (n : Nat) (_ : vs = [.ref a, vi n]) (_ : BobAt CB H a x j) (_ : Q (.bl (decide (n = 0 ∨ Kp240.LONG < x.left + n))) H) : spJOut CB vs H Q _E
theorem ok_jout (F : FunIs K mg "joins_out_of_bounds" sJOut) (T : TxtC K mg CS CB) : Cal P w K mg base 1 "joins_out_of_bounds" ["bobbin", "metres"] (spJOut CB) := by
  refine cal_mk F scJOut (fun _ _ _ _ _ _ us hl => match us, hl with | [_, _], _ => rfl) (fun vs H Q E h => ?_) (fun f cdv A outer s H vs Q E hr h => ?_)
  · obtain ⟨a, j, x, n, rfl, _⟩ := h
    rfl
  · obtain ⟨a, j, x, n, rfl, B, k⟩ := h
    have nd := scJOut.nd
    obtain ⟨dB, hB⟩ := B.ins
    refine ⟨_, (pss_one (ps_ret (pe_or (pe_cmpR op_eq (pv 1) pe_int (nomark _)) (pe_one (pe_cmpR op_gt (pe_op op_add (pe_fldK (K := K) rfl (pv 0) rfl) (pv 1)) (pgi T.g_MOST_LEFT) (nomark _)))))), ?_⟩
    refine ⟨_, rfl, rfl, _, rfl, ?_⟩
    show if decide (V.int (n : Int) = V.int ((0 : Nat) : Int)) = true then _ else _
    rw [eqI]
    by_cases h0 : n = 0
    · rw [decide_eq_true h0]
      rw [decide_eq_true (.inl h0)] at k
      exact iteT k
    · rw [decide_eq_false h0]
      refine iteF ⟨_, rfl, a, CB, dB, _, _, rfl, hB, T.cB, T.n_left, bob_left, _, rfl, _, _, rfl, rfl, _, _, rfl, rfl, ?_⟩
      have e : decide ((100000 : Int) < (x.left : Int) + (n : Int)) = decide (n = 0 ∨ Kp240.LONG < x.left + n) := by
        unfold Kp240.LONG
        by_cases c : 100000 < x.left + n
        · rw [decide_eq_true (show (100000 : Int) < (x.left : Int) + (n : Int) by omega), decide_eq_true (show n = 0 ∨ 100000 < x.left + n from .inr c)]
        · rw [decide_eq_false (show ¬ (100000 : Int) < (x.left : Int) + (n : Int) by omega), decide_eq_false (show ¬ (n = 0 ∨ 100000 < x.left + n) by omega)]
      show Q (.bl (decide ((100000 : Int) < (x.left : Int) + (n : Int)))) H
      rw [e]
      exact k

abbrev sCJoin : Stmt := top 44
theorem scCJoin : FnScope ["strand", "numbers", "bobbin", "metres"] ["strand", "numbers"] (defScope sCJoin) := ⟨rfl, rfl, rfl, by decide +kernel, rfl, by decide +kernel, by decide +kernel⟩
def selJoin (b : Bool) (m : Machine) (args : List Nat) (c : Kp240.Call) : Prop := b = true ∧ ∃ i n, args = [i, n] ∧ c = .join i n ∧ i < m.bobbins.length
theorem ok_call_join (F : FunIs K mg "call_join" sCJoin) (T : TxtC K mg CS CB) (G_joins_out_of_bounds : Cal P w K mg base 1 "joins_out_of_bounds" ["bobbin", "metres"] (spJOut CB)) (G_lengthen : Mth P w K mg base 2 CB "lengthen" ["self", "metres"] (spLengthen CB)) :
    Cal P w K mg base 3 "call_join" ["strand", "numbers"] (spCall CS CB selJoin) := by
  refine cal_mk F scCJoin (fun _ _ _ _ _ _ us hl => match us, hl with | [_, _], _ => rfl) spCall_len (fun f cdv A outer s H vs Q E hr h => ?_)
  obtain ⟨st, nu, l, p, as, js, b, m, args, c, rfl, S, ok, hgl, hnu, nnu, ⟨rfl, i, n, rfl, rfl, hi⟩, k⟩ := h
  have ok := ok rfl
  have nd := scCJoin.nd
  obtain ⟨dx, hH⟩ := S.ins
  obtain ⟨x, hx⟩ : ∃ x, m.bobbins[i]? = some x := ⟨_, List.getElem?_eq_getElem hi⟩
  have ex := set_get hx
  obtain ⟨a, j, ha, hj, B⟩ := S.bobs.get hx
  obtain ⟨dB, hB⟩ := B.ins
  have okx := ok.ok x (List.mem_of_getElem? hx)
  have few := okx.few
  refine ⟨_, (pss_cons (ps_set (i := 2) nd rfl (Or.inl rfl) (pe_ix (ix_listK (K := K) rfl) (pe_fldK (K := K) rfl (pv 0) rfl) (pe_ix (ix_listK (K := K) rfl) (pv 1) pe_int (fun _ _ => rfl)) (fun _ _ => rfl)))
      (pss_cons (ps_set (i := 3) nd rfl (Or.inl rfl) (pe_ix (ix_listK (K := K) rfl) (pv 1) pe_int (fun _ _ => rfl)))
      (pss_cons (ps_if (pt_val (pcall G_joins_out_of_bounds hr rfl (pa_cons (pv 2) (pa_cons (pv 3) pa_nil)))) (pss_one (ps_ret (pe_lst (pa_cons (pgi T.g_OUT_OF_BOUNDS) pa_nil)))) pss_nil)
      (pss_cons (ps_if (PW.pt (pw_and (pt_cmpR op_eq (pe_callB (call_len_seqK (K := K) rfl) (by rfl) T.b_len bo_len (pa_cons (pe_fldK (K := K) rfl (pv 2) rfl) pa_nil)) (pgi T.g_MOST_JOINTS) (nomark _)) (pw_and1 (pt_cmpR op_gt (pe_fldK (K := K) rfl (pv 2) rfl) pe_int (nomark _))))) (pss_one (ps_ret (pe_lst (pa_cons (pgi T.g_FULL) pa_nil)))) pss_nil)
      (pss_cons (ps_expr (pmeth G_lengthen hr (pv 2) (pa_cons (pv 3) pa_nil)))
      (pss_one (ps_ret (pe_lst (pa_cons (pe_fldK (K := K) rfl (pv 2) rfl) pa_nil))))))))), ?_⟩
  refine ⟨_, rfl, st, CS, dx, _, _, rfl, hH, T.cS, T.n_bobbins, st_bobbins, _, rfl, nu, _, _, vi i, rfl, rfl, hnu.sq, at_of (j := 0) rfl rfl, l, _, _, .ref a, rfl, rfl, SqL.of S.lst, atI_nat (by rw [List.getElem?_map, ha]; rfl), ?_⟩
  refine ⟨_, rfl, nu, _, _, vi n, rfl, rfl, hnu.sq, at_of (j := 1) rfl rfl, ?_⟩
  have e0 : Kp240.step (stOf true m) (.join i n) = Kp240.step (some m) (.join i n) := rfl
  rw [step_join, if_neg (isBob hi), ex] at e0
  refine ⟨_, rfl, _, rfl, a, j, x, n, rfl, B, _, rfl, ?_⟩
  by_cases h1 : n = 0 ∨ Kp240.LONG < x.left + n
  · rw [decide_eq_true h1]
    rw [if_pos h1] at e0
    refine iteT ⟨(by show 1 ≤ sizeLine; decide), fun r hr => ?_⟩
    exact ans_same (a := [-22]) S Same.rfl' hr k (by rw [e0]; rfl) (by rw [e0]; rfl)
  rw [decide_eq_false h1]
  rw [if_neg h1] at e0
  refine iteF ?_
  have full : Kp240.JOINTS ≤ x.joints.length ∧ x.left ≠ 0 → (([V.int (-28)] : List V).length ≤ sizeLine ∧ ∀ r, H r = none → Q (.ref r) (upd H r (.lst [V.int (-28)]))) := fun h2 => by
    rw [if_pos h2] at e0
    refine ⟨(by show 1 ≤ sizeLine; decide), fun r hr => ?_⟩
    exact ans_same (a := [-28]) S Same.rfl' hr k (by rw [e0]; rfl) (by rw [e0]; rfl)
  have go : ¬ (Kp240.JOINTS ≤ x.joints.length ∧ x.left ≠ 0) → ∀ H1 j', BobAt CB H1 a (Kp240.joined x n) j' → (j' = j ∨ H j' = none) → (∀ b o, H b = some o → b ≠ a → H1 b = some o) → ∃ dB1, H1 a = some (.ins CB dB1 (bobF x.lay (x.left + n) j')) ∧ (([V.int ((x.left + n : Nat) : Int)] : List V).length ≤ sizeLine ∧ ∀ r, H1 r = none → Q (.ref r) (upd H1 r (.lst [V.int ((x.left + n : Nat) : Int)]))) := fun h2 H1 j' B1 hj' fr => by
    rw [if_neg h2] at e0
    obtain ⟨S1, f1⟩ := S.setBob ha hj B1 hj' fr
    obtain ⟨dB1, hB1⟩ := B1.ins
    refine ⟨dB1, hB1, (by show 1 ≤ sizeLine; decide), fun r hr => ?_⟩
    exact ans_new (a := [((x.left + n : Nat) : Int)]) S1 f1 hr k (by rw [e0]; rfl) (by rw [e0]; rfl)
  refine ⟨_, rfl, a, CB, dB, _, _, rfl, hB, T.cB, T.n_joints, bob_joints, j, _, rfl, .inl B.lst.sq, rfl, _, rfl, ?_⟩
  show if decide (V.int (((vl x.joints).length : Nat) : Int) = V.int ((4 : Nat) : Int)) = true then _ else _
  rw [eqI, List.length_map]
  by_cases h3 : x.joints.length = 4
  · rw [decide_eq_true h3]
    refine iteT ⟨_, rfl, a, CB, dB, _, _, rfl, hB, T.cB, T.n_left, bob_left, _, _, rfl, rfl, _, rfl, ?_⟩
    show if decide ((0 : Int) < (x.left : Int)) = true then _ else _
    by_cases h4 : x.left = 0
    · rw [decide_eq_false (show ¬ (0 : Int) < (x.left : Int) by omega)]
      refine iteF ?_
      refine ⟨_, rfl, a, dB, _, rfl, hB, rfl, _, rfl, a, j, x, n, rfl, B, okx, fun z => absurd h4 z, fun H1 j' B1 hj' fr => ?_⟩
      obtain ⟨dB1, hB1, g1⟩ := go (fun z => z.2 h4) H1 j' B1 hj' fr
      exact ⟨_, rfl, a, CB, dB1, _, _, rfl, hB1, T.cB, T.n_left, bob_left, g1⟩
    · rw [decide_eq_true (show (0 : Int) < (x.left : Int) by omega)]
      exact iteT (full ⟨by rw [h3]; exact Nat.le_refl 4, h4⟩)
  · rw [decide_eq_false h3]
    refine iteF (iteF ?_)
    refine ⟨_, rfl, a, dB, _, rfl, hB, rfl, _, rfl, a, j, x, n, rfl, B, okx, fun _ => by omega, fun H1 j' B1 hj' fr => ?_⟩
    obtain ⟨dB1, hB1, g1⟩ := go (fun z => by have := z.1; unfold Kp240.JOINTS at this; omega) H1 j' B1 hj' fr
    exact ⟨_, rfl, a, CB, dB1, _, _, rfl, hB1, T.cB, T.n_left, bob_left, g1⟩

abbrev sCCut : Stmt := top 46
theorem scCCut : FnScope ["strand", "numbers", "bobbin"] ["strand", "numbers"] (defScope sCCut) := ⟨rfl, rfl, rfl, by decide +kernel, rfl, by decide +kernel, by decide +kernel⟩
def selCut (b : Bool) (m : Machine) (args : List Nat) (c : Kp240.Call) : Prop := b = true ∧ ∃ i n, args = [i, n] ∧ c = .cut i n ∧ i < m.bobbins.length
theorem ok_call_cut (F : FunIs K mg "call_cut" sCCut) (T : TxtC K mg CS CB) (G_cut_bobbin : Mth P w K mg base 2 CS "cut_bobbin" ["self", "b", "metres"] (spCutBobbin CS CB)) :
    Cal P w K mg base 3 "call_cut" ["strand", "numbers"] (spCall CS CB selCut) := by
  refine cal_mk F scCCut (fun _ _ _ _ _ _ us hl => match us, hl with | [_, _], _ => rfl) spCall_len (fun f cdv A outer s H vs Q E hr h => ?_)
  obtain ⟨st, nu, l, p, as, js, b, m, args, c, rfl, S, ok, hgl, hnu, nnu, ⟨rfl, i, n, rfl, rfl, hi⟩, k⟩ := h
  have ok := ok rfl
  have nd := scCCut.nd
  obtain ⟨dx, hH⟩ := S.ins
  obtain ⟨x, hx⟩ : ∃ x, m.bobbins[i]? = some x := ⟨_, List.getElem?_eq_getElem hi⟩
  have ex := set_get hx
  obtain ⟨a, j, ha, hj, B⟩ := S.bobs.get hx
  obtain ⟨dB, hB⟩ := B.ins
  refine ⟨_, (pss_cons (ps_set (i := 2) nd rfl (Or.inl rfl) (pe_ix (ix_listK (K := K) rfl) (pe_fldK (K := K) rfl (pv 0) rfl) (pe_ix (ix_listK (K := K) rfl) (pv 1) pe_int (fun _ _ => rfl)) (fun _ _ => rfl)))
      (pss_cons (ps_if (pt_cmpR op_lt (pe_fldK (K := K) rfl (pv 2) rfl) (pe_ix (ix_listK (K := K) rfl) (pv 1) pe_int (fun _ _ => rfl)) (nomark _)) (pss_one (ps_ret (pe_lst (pa_cons (pgi T.g_TOO_LITTLE_LEFT) pa_nil)))) pss_nil)
      (pss_cons (ps_expr (pmeth G_cut_bobbin hr (pv 0) (pa_cons (pe_ix (ix_listK (K := K) rfl) (pv 1) pe_int (fun _ _ => rfl)) (pa_cons (pe_ix (ix_listK (K := K) rfl) (pv 1) pe_int (fun _ _ => rfl)) pa_nil))))
      (pss_one (ps_ret (pe_lst (pa_cons (pe_fldK (K := K) rfl (pv 2) rfl) pa_nil))))))), ?_⟩
  refine ⟨_, rfl, st, CS, dx, _, _, rfl, hH, T.cS, T.n_bobbins, st_bobbins, _, rfl, nu, _, _, vi i, rfl, rfl, hnu.sq, at_of (j := 0) rfl rfl, l, _, _, .ref a, rfl, rfl, SqL.of S.lst, atI_nat (by rw [List.getElem?_map, ha]; rfl), ?_⟩
  refine ⟨_, rfl, a, CB, dB, _, _, rfl, hB, T.cB, T.n_left, bob_left, _, rfl, nu, _, _, vi n, rfl, rfl, hnu.sq, at_of (j := 1) rfl rfl, _, _, rfl, rfl, _, rfl, ?_⟩
  have e0 : Kp240.step (stOf true m) (.cut i n) = Kp240.step (some m) (.cut i n) := rfl
  rw [step_cut, if_neg (isBob hi), ex] at e0
  show if decide ((x.left : Int) < (n : Int)) = true then _ else _
  by_cases h1 : x.left < n
  · rw [decide_eq_true (show (x.left : Int) < (n : Int) by omega)]
    rw [if_pos h1] at e0
    refine iteT ⟨(by show 1 ≤ sizeLine; decide), fun r hr => ?_⟩
    exact ans_same (a := [-12]) S Same.rfl' hr k (by rw [e0]; rfl) (by rw [e0]; rfl)
  rw [decide_eq_false (show ¬ (x.left : Int) < (n : Int) by omega)]
  rw [if_neg h1] at e0
  refine iteF ?_
  refine ⟨_, rfl, st, dx, _, rfl, hH, rfl, _, rfl, nu, _, _, vi i, rfl, rfl, hnu.sq, at_of (j := 0) rfl rfl, _, rfl, nu, _, _, vi n, rfl, rfl, hnu.sq, at_of (j := 1) rfl rfl, st, l, p, as, js, true, m, i, n, rfl, S, ok, hi, by rw [ex]; omega, fun H1 js1 S1 f1 _ => ?_⟩
  have hx1 : (cutM m i n).bobbins[i]? = some (Kp240.cutOff x n) := by
    show (m.bobbins.set i (Kp240.cutOff (Kp240.bobbinAt m i) n))[i]? = _
    rw [ex, List.getElem?_set_self hi]
  obtain ⟨a1, j1, ha1, hj1, B1⟩ := S1.bobs.get hx1
  rw [ha] at ha1
  cases ha1
  obtain ⟨dB1, hB1⟩ := B1.ins
  refine ⟨_, rfl, a, CB, dB1, _, _, rfl, hB1, T.cB, T.n_left, bob_left, (by show 1 ≤ sizeLine; decide), fun r hr => ?_⟩
  exact ans_new (a := [((x.left - n : Nat) : Int)]) S1 f1 hr k (by rw [e0]; rfl) (by rw [e0]; rfl)

abbrev sCFine : Stmt := top 49
theorem scCFine : FnScope ["strand", "numbers"] ["strand", "numbers"] (defScope sCFine) := ⟨rfl, rfl, rfl, by decide +kernel, rfl, by decide +kernel, by decide +kernel⟩
def selFine (b : Bool) (_ : Machine) (args : List Nat) (c : Kp240.Call) : Prop := b = true ∧ c = .fine
theorem few_grp {m : Machine} (ok : MOk m) : (grp m).length ≤ 1000 ∧ ∀ x ∈ grp m, x.length < 64 := by
  unfold grp
  refine ⟨by rw [List.length_map]; have := ok.four; omega, fun x hx => ?_⟩
  obtain ⟨y, hy, rfl⟩ := List.mem_map.mp hx
  unfold Kp240.placesOf
  rw [List.length_map]
  have := (ok.ok y hy).few
  omega
theorem ok_call_fine (F : FunIs K mg "call_fine" sCFine) (T : TxtC K mg CS CB) (G_groups : Mth P w K mg base 3 CS "groups" ["self"] (spGroups CS CB)) (G_is_fine : Mth P w K mg base 6 CS "is_fine" ["self", "groups"] (spIsFine CS CB)) :
    Cal P w K mg base 7 "call_fine" ["strand", "numbers"] (spCall CS CB selFine) := by
  refine cal_mk F scCFine (fun _ _ _ _ _ _ us hl => match us, hl with | [_, _], _ => rfl) spCall_len (fun f cdv A outer s H vs Q E hr h => ?_)
  obtain ⟨st, nu, l, p, as, js, b, m, args, c, rfl, S, ok, hgl, hnu, nnu, ⟨rfl, rfl⟩, k⟩ := h
  have ok := ok rfl
  have nd := scCFine.nd
  obtain ⟨dx, hH⟩ := S.ins
  refine ⟨_, (pss_one (ps_ret (pe_lst (pa_cons (pe_ifExp (pt_val (pmeth G_is_fine hr (pv 0) (pa_cons (pmeth0 G_groups hr (pv 0) ) pa_nil))) pe_int pe_int) pa_nil)))), ?_⟩
  refine ⟨_, rfl, st, dx, _, rfl, hH, rfl, _, rfl, st, dx, _, rfl, hH, rfl, st, l, p, as, js, true, m, rfl, S, ok, fun H1 r1 s1 hg => ?_⟩
  refine ⟨st, l, p, r1, as, js, true, m, grp m, rfl, S.mono s1, hg.mono New.sub, (few_grp ok).1, (few_grp ok).2, fun H2 s2 => ⟨_, rfl, ?_⟩⟩
  have e0 : Kp240.step (stOf true m) .fine = (some m, Kp240.say (if Kp240.fine m m.bobbins then 1 else 0)) := rfl
  have eb : (badOf m.gap (grp m) m.gone).isEmpty = Kp240.fine m m.bobbins := fine_is m m.bobbins
  rw [eb]
  cases hf : Kp240.fine m m.bobbins with
  | true =>
    rw [hf, if_pos rfl] at e0
    refine iteT ⟨(by show 1 ≤ sizeLine; decide), fun r hr => ?_⟩
    exact ans_same (a := [1]) S (s1.trans s2) hr k (by rw [e0]; rfl) (by rw [e0]; rfl)
  | false =>
    rw [hf, if_neg Bool.false_ne_true] at e0
    refine iteF ⟨(by show 1 ≤ sizeLine; decide), fun r hr => ?_⟩
    exact ans_same (a := [0]) S (s1.trans s2) hr k (by rw [e0]; rfl) (by rw [e0]; rfl)

abbrev sCBadC : Stmt := top 50
theorem scCBadC : FnScope ["strand", "numbers", "bad"] ["strand", "numbers"] (defScope sCBadC) := ⟨rfl, rfl, rfl, by decide +kernel, rfl, by decide +kernel, by decide +kernel⟩
def selBad (b : Bool) (_ : Machine) (args : List Nat) (c : Kp240.Call) : Prop := b = true ∧ c = .bad
theorem ok_call_bad (F : FunIs K mg "call_bad" sCBadC) (T : TxtC K mg CS CB) (G_groups : Mth P w K mg base 3 CS "groups" ["self"] (spGroups CS CB)) (G_bad_bobbins : Cal P w K mg base 4 "bad_bobbins" ["groups", "passed", "gap"] spBad) :
    Cal P w K mg base 5 "call_bad" ["strand", "numbers"] (spCall CS CB selBad) := by
  refine cal_mk F scCBadC (fun _ _ _ _ _ _ us hl => match us, hl with | [_, _], _ => rfl) spCall_len (fun f cdv A outer s H vs Q E hr h => ?_)
  obtain ⟨st, nu, l, p, as, js, b, m, args, c, rfl, S, ok, hgl, hnu, nnu, ⟨rfl, rfl⟩, k⟩ := h
  have ok := ok rfl
  have nd := scCBadC.nd
  obtain ⟨dx, hH⟩ := S.ins
  refine ⟨_, (pss_cons (ps_set (i := 2) nd rfl (Or.inl rfl) (pcall G_bad_bobbins hr rfl (pa_cons (pmeth0 G_groups hr (pv 0) ) (pa_cons (pe_fldK (K := K) rfl (pv 0) rfl) (pa_cons (pe_fldK (K := K) rfl (pv 0) rfl) pa_nil)))))
      (pss_one (ps_ret (pe_op op_cat (pe_lst (pa_cons (pe_callB (call_len_seqK (K := K) rfl) (by rfl) T.b_len bo_len (pa_cons (pv 2) pa_nil)) pa_nil)) (pv 2))))), ?_⟩
  refine ⟨_, rfl, st, dx, _, rfl, hH, rfl, st, l, p, as, js, true, m, rfl, S, ok, fun H1 r1 s1 hg => ?_⟩
  refine ⟨_, rfl, st, CS, dx, _, _, rfl, s1 _ _ hH, T.cS, T.n_passed, st_passed, _, rfl, st, CS, dx, _, _, rfl, s1 _ _ hH, T.cS, T.n_gap, st_gap, r1, p, grp m, m.gone, m.gap, rfl, hg.mono New.sub, S.gone.mono s1, (few_grp ok).1, (few_grp ok).2, fun H2 q s2 hq hL => ?_⟩
  rw [bad_is] at hL
  have e0 : Kp240.step (stOf true m) .bad = (some m, Kp240.tellAll (Kp240.bad m)) := rfl
  have lenB : (Kp240.bad m).length ≤ 4 := by
    unfold Kp240.bad Kp240.all
    exact Nat.le_trans (List.length_filter_le _ _) (by rw [List.length_range]; exact ok.four)
  refine ⟨_, rfl, q, _, rfl, .inl hL.sq, (by show 1 ≤ sizeLine; decide), fun u hu => ?_⟩
  have su := Same.new (o := .lst [V.int ((vl (Kp240.bad m)).length : Nat)]) hu
  refine ⟨_, rfl, u, q, _, _, rfl, rfl, upd_same, su _ _ hL, (by show 1 + (vl (Kp240.bad m)).length ≤ sizeLine; rw [List.length_map]; exact line1 (by omega)), fun r hr => ?_⟩
  have ea : [V.int ((vl (Kp240.bad m)).length : Nat)] ++ vl (Kp240.bad m) = (ansL (Kp240.tellAll (Kp240.bad m))).map V.int := by
    unfold ansL Kp240.tellAll Kp240.ints
    rw [List.length_map, List.map_cons, List.map_map]
    rfl
  rw [ea]
  exact ans_same S ((s1.trans s2).trans su) hr k (by rw [e0]; rfl) (by rw [e0])
end
end LS

namespace LS
open PySem PySem.Spec PyProof.Rows L2
open Kp240 (Bobbin Machine)

/-! ### what the least way is like -/
theorem least_mem {m : Machine} {v : List Nat} (h : Kp240.least m = some v) : v.length = m.bobbins.length ∧ ∀ (i : Nat) (hi : i < m.bobbins.length), v.getD i 0 ≤ m.bobbins[i].left := by
  rw [← least_is] at h
  have h8 : ∀ s ∈ singles m.gap (optM m) m.gone, ∀ n ∈ s, n ≤ 8 := fun s hs n hn => by
    rw [singles_is] at hs
    obtain ⟨x, _, rfl⟩ := List.mem_map.mp hs
    have := List.mem_range.mp (List.mem_filter.mp hn).1
    omega
  unfold leastM at h
  obtain ⟨t, _, ht⟩ := List.exists_of_findSome?_eq_some h
  rw [wot_find h8] at ht
  have hv : v ∈ prod (singles m.gap (optM m) m.gone) := by
    cases e : (prod (singles m.gap (optM m) m.gone)).find? fun r => okExt (agB m.gap (optM m) (singles m.gap (optM m) m.gone)) [] r && decide (r.sum = t) with
    | none => rw [e] at ht; cases ht
    | some y =>
      rw [e] at ht
      have : y = v := by simpa using ht
      rw [← this]
      exact List.mem_of_find?_eq_some e
  rw [singles_is] at hv
  refine ⟨by rw [prod_len hv, List.length_map], fun i hi => ?_⟩
  have := prod_at (i := i) (s := (List.range (min 8 m.bobbins[i].left + 1)).filter fun n => alone m.gap (placesCut m.bobbins[i] m.laid n) m.gone) hv (by rw [List.getElem?_map, List.getElem?_eq_getElem hi]; rfl)
  have := List.mem_range.mp (List.mem_filter.mp this).1
  omega
theorem BobOk.cut {x : Bobbin} (ok : BobOk x) {n : Nat} (h : n ≤ x.left) : BobOk (Kp240.cutOff x n) := by
  refine ⟨ok.lo, ok.hi, ?_, ?_, ?_, fun q hq => ?_⟩
  · show x.left - n ≤ 100000
    have := ok.left
    omega
  · show ((x.joints.filter fun j => decide (n ≤ j)).map fun j => j - n).length ≤ 4
    rw [List.length_map]
    exact Nat.le_trans (List.length_filter_le _ _) ok.few
  · show ((x.joints.filter fun j => decide (n ≤ j)).map fun j => j - n).Pairwise (· < ·)
    rw [List.pairwise_map]
    refine (List.Pairwise.and_mem.mp (ok.up.filter _)).imp fun {a b} h => ?_
    have h1 := of_decide_eq_true (List.mem_filter.mp h.1).2
    have h3 := h.2.2
    omega
  · obtain ⟨j, hj, rfl⟩ := List.mem_map.mp hq
    have h1 := of_decide_eq_true (List.mem_filter.mp hj).2
    have h2 := ok.below j (List.mem_filter.mp hj).1
    show j - n < x.left - n
    omega
/-- the first i bobbins cut as v tells -/
def cutsTo (m : Machine) (v : List Nat) (i : Nat) : Machine := { m with bobbins := (List.range m.bobbins.length).map fun k => if k < i then Kp240.cutOff (m.bobbins.getD k ⟨1000, 0, []⟩) (v.getD k 0) else m.bobbins.getD k ⟨1000, 0, []⟩, cut := m.cut + (v.take i).sum }
theorem cutsTo_get {m : Machine} {v : List Nat} {i k : Nat} (h : k < m.bobbins.length) : (cutsTo m v i).bobbins[k]? = some (if k < i then Kp240.cutOff m.bobbins[k] (v.getD k 0) else m.bobbins[k]) := by
  show ((List.range m.bobbins.length).map _)[k]? = _
  rw [List.getElem?_map, List.getElem?_range h, Option.map_some, getD_lt h]
theorem cutsTo_len (m : Machine) (v : List Nat) (i : Nat) : (cutsTo m v i).bobbins.length = m.bobbins.length := by
  show ((List.range m.bobbins.length).map _).length = _
  rw [List.length_map, List.length_range]
theorem cutsTo_zero (m : Machine) (v : List Nat) : cutsTo m v 0 = m := by
  have e : (cutsTo m v 0).bobbins = m.bobbins := List.ext_getElem? fun k => by
    by_cases h : k < m.bobbins.length
    · rw [cutsTo_get h, if_neg (by omega), List.getElem?_eq_getElem h]
    · rw [List.getElem?_eq_none (by rw [cutsTo_len]; omega), List.getElem?_eq_none (by omega)]
  cases m
  unfold cutsTo at e ⊢
  simp only [Machine.mk.injEq]
  exact ⟨trivial, e, trivial, trivial, by simp⟩
theorem cutsTo_step {m : Machine} {v : List Nat} {i n : Nat} (hi : i < m.bobbins.length) (hv : v[i]? = some n) : cutM (cutsTo m v i) i n = cutsTo m v (i + 1) := by
  have ex : Kp240.bobbinAt (cutsTo m v i) i = m.bobbins[i] := by
    have := cutsTo_get (v := v) (i := i) hi
    rw [if_neg (by omega)] at this
    exact getD_of this
  have e : (cutM (cutsTo m v i) i n).bobbins = (cutsTo m v (i + 1)).bobbins := List.ext_getElem? fun k => by
    show ((cutsTo m v i).bobbins.set i (Kp240.cutOff (Kp240.bobbinAt (cutsTo m v i) i) n))[k]? = _
    by_cases h : k < m.bobbins.length
    · rw [cutsTo_get h, ex]
      by_cases hk : k = i
      · subst hk
        rw [List.getElem?_set_self (by rw [cutsTo_len]; exact h), if_pos (by omega), getD_of hv]
      · rw [List.getElem?_set_ne (fun z => hk z.symm), cutsTo_get h]
        by_cases c : k < i
        · rw [if_pos c, if_pos (by omega)]
        · rw [if_neg c, if_neg (by omega)]
    · rw [List.getElem?_eq_none (by rw [List.length_set, cutsTo_len]; omega), List.getElem?_eq_none (by rw [cutsTo_len]; omega)]
  have e2 : (cutM (cutsTo m v i) i n).cut = (cutsTo m v (i + 1)).cut := by
    show m.cut + (v.take i).sum + n = m.cut + (v.take (i + 1)).sum
    rw [take_snoc hv, List.sum_append]
    simp
    omega
  show ({ gap := m.gap, bobbins := (cutM (cutsTo m v i) i n).bobbins, laid := m.laid, gone := m.gone, cut := (cutM (cutsTo m v i) i n).cut } : Machine) = { gap := m.gap, bobbins := (cutsTo m v (i + 1)).bobbins, laid := m.laid, gone := m.gone, cut := (cutsTo m v (i + 1)).cut }
  rw [e, e2]
theorem cutsTo_all {m : Machine} {v : List Nat} (hv : v.length = m.bobbins.length) : cutsTo m v v.length = { m with bobbins := Kp240.cutAll m.bobbins v, cut := m.cut + Kp240.sumOf v } := by
  have e : (cutsTo m v v.length).bobbins = Kp240.cutAll m.bobbins v := by
    unfold cutsTo Kp240.cutAll
    refine List.map_congr_left fun k hk => ?_
    rw [if_pos (by rw [hv]; exact List.mem_range.mp hk)]
  have e2 : (cutsTo m v v.length).cut = m.cut + Kp240.sumOf v := by
    show m.cut + (v.take v.length).sum = _
    rw [List.take_length, sumOf_sum]
  show ({ gap := m.gap, bobbins := (cutsTo m v v.length).bobbins, laid := m.laid, gone := m.gone, cut := (cutsTo m v v.length).cut } : Machine) = _
  rw [e, e2]
theorem cutsTo_ok {m : Machine} {v : List Nat} (ok : MOk m) (hv : ∀ (i : Nat) (hi : i < m.bobbins.length), v.getD i 0 ≤ m.bobbins[i].left) (i : Nat) : MOk (cutsTo m v i) := by
  refine ⟨by rw [cutsTo_len]; exact ok.four, fun x hx => ?_, ok.gap⟩
  obtain ⟨k, hk, rfl⟩ := List.getElem_of_mem hx
  have hk' : k < m.bobbins.length := by rw [cutsTo_len] at hk; exact hk
  have := cutsTo_get (v := v) (i := i) hk'
  rw [List.getElem?_eq_getElem hk] at this
  have e := Option.some.inj this
  rw [e]
  by_cases c : k < i
  · rw [if_pos c]
    exact (ok.ok _ (List.getElem_mem hk')).cut (hv k hk')
  · rw [if_neg c]
    exact ok.ok _ (List.getElem_mem hk')
theorem zs_sum (l : List Nat) : (zs l).sum = ((l.sum : Nat) : Int) := by
  unfold zs
  induction l with
  | nil => rfl
  | cons a l ih =>
    rw [List.map_cons, List.sum_cons, List.sum_cons, ih]
    simp

section
variable {P : Program} {w : World} {K : PySem.W.Frag} {mg : Str → Option Value} {base : Heap} {CB CS : Addr}

abbrev sCLeast : Stmt := top 47
theorem scCLeast : FnScope ["strand", "numbers", "way"] ["strand", "numbers"] (defScope sCLeast) := ⟨rfl, rfl, rfl, by decide +kernel, rfl, by decide +kernel, by decide +kernel⟩
def selLeast (b : Bool) (_ : Machine) (args : List Nat) (c : Kp240.Call) : Prop := b = true ∧ c = .least
theorem ok_call_least (F : FunIs K mg "call_least" sCLeast) (T : TxtC K mg CS CB) (G_best_way : Mth P w K mg base 9 CS "best_way" ["self"] (spBestWay CS CB)) :
    Cal P w K mg base 10 "call_least" ["strand", "numbers"] (spCall CS CB selLeast) := by
  refine cal_mk F scCLeast (fun _ _ _ _ _ _ us hl => match us, hl with | [_, _], _ => rfl) spCall_len (fun f cdv A outer s H vs Q E hr h => ?_)
  obtain ⟨st, nu, l, p, as, js, b, m, args, c, rfl, S, ok, hgl, hnu, nnu, ⟨rfl, rfl⟩, k⟩ := h
  have ok := ok rfl
  have nd := scCLeast.nd
  obtain ⟨dx, hH⟩ := S.ins
  refine ⟨_, (pss_cons (ps_set (i := 2) nd rfl (Or.inl rfl) (pmeth0 G_best_way hr (pv 0) ))
      (pss_cons (ps_if (pt_cmpR op_isN (pv 2) pe_non (nomark _)) (pss_one (ps_ret (pe_lst (pa_cons (pgi T.g_NO_WAY) pa_nil)))) pss_nil)
      (pss_one (ps_ret (pe_op op_cat (pe_lst (pa_cons (pe_callB (cr_sumK (K := K) rfl rfl) (by rfl) T.b_sum bo_sum (pa_cons (pv 2) pa_nil)) pa_nil)) (pv 2)))))), ?_⟩
  refine ⟨_, rfl, st, dx, _, rfl, hH, rfl, st, l, p, as, js, true, m, rfl, S, ok, fun H1 s1 e1 => ?_, fun H1 a v s1 e1 hL => ?_⟩
  · refine ⟨_, rfl, rfl, _, rfl, ?_⟩
    have e0 : Kp240.step (stOf true m) .least = (some m, Kp240.say (-33)) := by show Kp240.step (some m) _ = _; rw [step_least, e1]
    refine iteT ⟨(by show 1 ≤ sizeLine; decide), fun r hr => ?_⟩
    exact ans_same (a := [-33]) S s1 hr k (by rw [e0]; rfl) (by rw [e0]; rfl)
  · refine ⟨_, rfl, rfl, _, rfl, ?_⟩
    have e0 : Kp240.step (stOf true m) .least = (some m, ⟨(Kp240.sumOf v : Int), Kp240.ints v⟩) := by show Kp240.step (some m) _ = _; rw [step_least, e1]
    have lenV := (least_mem e1).1
    have four := ok.four
    refine iteF ⟨_, rfl, a, zs v, rfl, (by rw [← vl_zs]; exact hL.sq), (by show 1 ≤ sizeLine; decide), fun u hu => ?_⟩
    have su := Same.new (o := .lst [V.int (zs v).sum]) hu
    refine ⟨_, rfl, u, a, _, _, rfl, rfl, upd_same, su _ _ hL, (by show 1 + (vl v).length ≤ sizeLine; rw [List.length_map]; exact line1 (by omega)), fun r hr => ?_⟩
    have ea : [V.int (zs v).sum] ++ vl v = (ansL ⟨(Kp240.sumOf v : Int), Kp240.ints v⟩).map V.int := by
      unfold ansL Kp240.ints
      rw [zs_sum, sumOf_sum, List.map_cons, List.map_map]
      rfl
    rw [ea]
    exact ans_same S (s1.trans su) hr k (by rw [e0]; rfl) (by rw [e0])

abbrev sCCutLeast : Stmt := top 48
theorem scCCutLeast : FnScope ["strand", "numbers", "way", "b", "metres"] ["strand", "numbers"] (defScope sCCutLeast) := ⟨rfl, rfl, rfl, by decide +kernel, rfl, by decide +kernel, by decide +kernel⟩
def selCutLeast (b : Bool) (_ : Machine) (args : List Nat) (c : Kp240.Call) : Prop := b = true ∧ c = .cutLeast
theorem ok_call_cutleast (F : FunIs K mg "call_cutleast" sCCutLeast) (T : TxtC K mg CS CB) (G_best_way : Mth P w K mg base 9 CS "best_way" ["self"] (spBestWay CS CB)) (G_cut_bobbin : Mth P w K mg base 2 CS "cut_bobbin" ["self", "b", "metres"] (spCutBobbin CS CB)) :
    Cal P w K mg base 10 "call_cutleast" ["strand", "numbers"] (spCall CS CB selCutLeast) := by
  refine cal_mk F scCCutLeast (fun _ _ _ _ _ _ us hl => match us, hl with | [_, _], _ => rfl) spCall_len (fun f cdv A outer s H vs Q E hr h => ?_)
  obtain ⟨st, nu, l, p, as, js, b, m, args, c, rfl, S, ok, hgl, hnu, nnu, ⟨rfl, rfl⟩, k⟩ := h
  have ok := ok rfl
  have nd := scCCutLeast.nd
  obtain ⟨dx, hH⟩ := S.ins
  refine ⟨_, (pss_cons (ps_set (i := 2) nd rfl (Or.inl rfl) (pmeth0 G_best_way hr (pv 0) ))
      (pss_cons (ps_if (pt_cmpR op_isN (pv 2) pe_non (nomark _)) (pss_one (ps_ret (pe_lst (pa_cons (pgi T.g_NO_WAY) pa_nil)))) pss_nil)
      (pss_cons (ps_for PassesOwn.never rfl (pi_enumK (K := K) rfl rfl T.b_enumerate (pa_cons (pv 2) pa_nil)) (pg_tupK (K := K) (n := 2) rfl rfl (pgs_cons (pg_name (i := 3) nd rfl (Or.inl rfl)) (pgs_cons (pg_name (i := 4) nd rfl (Or.inl rfl)) pgs_nil))) (pss_one (ps_expr (pmeth G_cut_bobbin hr (pv 0) (pa_cons (pv 3) (pa_cons (pv 4) pa_nil))))))
      (pss_one (ps_ret (pe_lst (pa_cons (pe_callB (cr_sumK (K := K) rfl rfl) (by rfl) T.b_sum bo_sum (pa_cons (pv 2) pa_nil)) pa_nil))))))), ?_⟩
  refine ⟨_, rfl, st, dx, _, rfl, hH, rfl, st, l, p, as, js, true, m, rfl, S, ok, fun H1 s1 e1 => ?_, fun H1 a v s1 e1 hL => ?_⟩
  · refine ⟨_, rfl, rfl, _, rfl, ?_⟩
    have e0 : Kp240.step (stOf true m) .cutLeast = (some m, Kp240.say (-33)) := by show Kp240.step (some m) _ = _; rw [step_cutLeast, e1]
    refine iteT ⟨(by show 1 ≤ sizeLine; decide), fun r hr => ?_⟩
    exact ans_same (a := [-33]) S s1 hr k (by rw [e0]; rfl) (by rw [e0]; rfl)
  · refine ⟨_, rfl, rfl, _, rfl, ?_⟩
    obtain ⟨lenV, hv⟩ := least_mem e1
    have e0 : Kp240.step (stOf true m) .cutLeast = (some (cutsTo m v v.length), Kp240.say (Kp240.sumOf v : Int)) := by show Kp240.step (some m) _ = _; rw [step_cutLeast, e1, cutsTo_all lenV]
    refine iteF ?_
    have S1 := S.mono s1
    -- the way's list is not the strand's own, or is not changed
    refine ⟨_, rfl, a, _, rfl, hL.sq, for_enum (K := K) (a := a) (xs := vl v) (fun i σ H' => (∃ v3 v4 : Option V, σ = [some (.ref st), some (.ref nu), some (.ref a), v3, v4]) ∧ LN H' a v ∧ ∃ js', StAt CS CB H' st true (cutsTo m v i) l p as js' ∧ Fr H H' (own st l p as js) (own st l p as js'))
      ⟨⟨none, none, rfl⟩, hL, js, by rw [cutsTo_zero]; exact S1, Fr.same s1⟩ (fun i σ H' _ p => p.2.1.sq) ?_ ?_⟩
    · rintro i y σ H2 T' hi ⟨⟨v3, v4, rfl⟩, hL2, js2, S2, f2⟩ hT
      obtain ⟨n, hn, rfl⟩ := vl_get hi
      have hi' : i < m.bobbins.length := by rw [← lenV]; exact (List.getElem?_eq_some_iff.mp hn).1
      have sT : Same H2 (upd H2 T' (.tup [.int (i : Nat), vi n])) := Same.new hT
      refine ⟨T', _, rfl, SqT.of upd_same, rfl, _, _, rfl, _, _, rfl, rfl, ?_⟩
      have S3 := S2.mono sT
      have hL3 := hL2.mono sT
      have f3 := f2.trans (Fr.same (o := own st l p as js2) sT)
      generalize upd H2 T' (.tup [.int (i : Nat), vi n]) = H3 at S3 hL3 f3 ⊢
      obtain ⟨dx3, hH3⟩ := S3.ins
      have exb : Kp240.bobbinAt (cutsTo m v i) i = m.bobbins[i] := by
        have := cutsTo_get (v := v) (i := i) hi'
        rw [if_neg (by omega)] at this
        exact getD_of this
      have hle : n ≤ m.bobbins[i].left := by have := hv i hi'; rw [getD_of hn] at this; exact this
      refine ⟨_, rfl, st, dx3, _, rfl, hH3, rfl, _, rfl, _, rfl, st, l, p, as, js2, true, cutsTo m v i, i, n, rfl, S3, cutsTo_ok ok hv i, by rw [cutsTo_len]; exact hi', by rw [exb]; exact hle, fun H4 js4 S4 f4 kp => ?_⟩
      rw [cutsTo_step hi' hn] at S4
      exact ⟨⟨_, _, rfl⟩, kp a _ hL3 (fun C d fs z => by cases z), js4, S4, f3.trans f4⟩
    · rintro σ H2 ⟨⟨v3, v4, rfl⟩, hL2, js2, S2, f2⟩
      rw [List.length_map] at S2
      refine ⟨_, rfl, a, zs v, rfl, (by rw [← vl_zs]; exact hL2.sq), (by show 1 ≤ sizeLine; decide), fun r hr => ?_⟩
      have ea : V.int (zs v).sum = V.int (Kp240.sumOf v : Int) := by rw [zs_sum, sumOf_sum]
      rw [ea]
      exact ans_new (a := [(Kp240.sumOf v : Int)]) S2 f2 hr k (by rw [e0]; rfl) (by rw [e0]; rfl)

abbrev sCCould : Stmt := top 45
theorem scCCould : FnScope ["strand", "numbers", "b", "bobbin", "groups"] ["strand", "numbers"] (defScope sCCould) := ⟨rfl, rfl, rfl, by decide +kernel, rfl, by decide +kernel, by decide +kernel⟩
def selCould (b : Bool) (m : Machine) (args : List Nat) (c : Kp240.Call) : Prop := b = true ∧ ∃ i n, args = [i, n] ∧ c = .could i n ∧ i < m.bobbins.length
theorem set_map {α β : Type} {f : α → β} : ∀ {l : List α} {i : Nat} {x : α}, (l.set i x).map f = (l.map f).set i (f x)
  | [], _, _ => rfl
  | a :: l, 0, x => rfl
  | a :: l, i + 1, x => by
    show f a :: (l.set i x).map f = f a :: (l.map f).set i (f x)
    rw [set_map (l := l)]
theorem set_same {α : Type} : ∀ {l : List α} {i : Nat} {x : α}, l[i]? = some x → l.set i x = l
  | [], _, _, _ => rfl
  | a :: l, 0, x, h => by simp at h; subst h; rfl
  | a :: l, i + 1, x, h => by
    show a :: l.set i x = a :: l
    rw [set_same (by simpa using h)]
theorem ok_call_could (F : FunIs K mg "call_could" sCCould) (T : TxtC K mg CS CB) (G_joins_out_of_bounds : Cal P w K mg base 1 "joins_out_of_bounds" ["bobbin", "metres"] (spJOut CB)) (G_groups : Mth P w K mg base 3 CS "groups" ["self"] (spGroups CS CB)) (G_place : Mth P w K mg base 1 CB "place" ["self", "laid", "at"] (spPlace CB)) (G_is_fine : Mth P w K mg base 6 CS "is_fine" ["self", "groups"] (spIsFine CS CB)) :
    Cal P w K mg base 7 "call_could" ["strand", "numbers"] (spCall CS CB selCould) := by
  refine cal_mk F scCCould (fun _ _ _ _ _ _ us hl => match us, hl with | [_, _], _ => rfl) spCall_len (fun f cdv A outer s H vs Q E hr h => ?_)
  obtain ⟨st, nu, l, p, as, js, b, m, args, c, rfl, S, ok, hgl, hnu, nnu, ⟨rfl, i, n, rfl, rfl, hi⟩, k⟩ := h
  have ok := ok rfl
  have nd := scCCould.nd
  obtain ⟨dx, hH⟩ := S.ins
  obtain ⟨x, hx⟩ : ∃ x, m.bobbins[i]? = some x := ⟨_, List.getElem?_eq_getElem hi⟩
  have ex := set_get hx
  obtain ⟨a, j, ha, hj, B⟩ := S.bobs.get hx
  obtain ⟨dB, hB⟩ := B.ins
  have okx := ok.ok x (List.mem_of_getElem? hx)
  have few := okx.few
  refine ⟨_, (pss_cons (ps_set (i := 2) nd rfl (Or.inl rfl) (pe_ix (ix_listK (K := K) rfl) (pv 1) pe_int (fun _ _ => rfl)))
      (pss_cons (ps_set (i := 3) nd rfl (Or.inl rfl) (pe_ix (ix_listK (K := K) rfl) (pe_fldK (K := K) rfl (pv 0) rfl) (pv 2) (fun _ _ => rfl)))
      (pss_cons (ps_if (pt_val (pcall G_joins_out_of_bounds hr rfl (pa_cons (pv 3) (pa_cons (pe_ix (ix_listK (K := K) rfl) (pv 1) pe_int (fun _ _ => rfl)) pa_nil)))) (pss_one (ps_ret (pe_lst (pa_cons (pgi T.g_OUT_OF_BOUNDS) pa_nil)))) pss_nil)
      (pss_cons (ps_set (i := 4) nd rfl (Or.inl rfl) (pmeth0 G_groups hr (pv 0) ))
      (pss_cons (ps_if (pt_cmpR op_gt (pe_fldK (K := K) rfl (pv 3) rfl) pe_int (nomark _)) (pss_one (ps_asg (pe_op op_cat (pe_ix (ix_listK (K := K) rfl) (pv 4) (pv 2) (fun _ _ => rfl)) (pe_lst (pa_cons (pmeth G_place hr (pv 3) (pa_cons (pe_fldK (K := K) rfl (pv 0) rfl) (pa_cons (pe_fldK (K := K) rfl (pv 3) rfl) pa_nil))) pa_nil))) (pg_sub (pv 4) (pv 2) set_list))) pss_nil)
      (pss_one (ps_ret (pe_lst (pa_cons (pe_ifExp (pt_val (pmeth G_is_fine hr (pv 0) (pa_cons (pv 4) pa_nil))) pe_int pe_int) pa_nil))))))))), ?_⟩
  refine ⟨_, rfl, nu, _, _, vi i, rfl, rfl, hnu.sq, at_of (j := 0) rfl rfl, ?_⟩
  refine ⟨_, rfl, st, CS, dx, _, _, rfl, hH, T.cS, T.n_bobbins, st_bobbins, _, rfl, l, _, _, .ref a, rfl, rfl, SqL.of S.lst, atI_nat (by rw [List.getElem?_map, ha]; rfl), ?_⟩
  have e0 : Kp240.step (stOf true m) (.could i n) = Kp240.step (some m) (.could i n) := rfl
  rw [step_could, if_neg (isBob hi), ex] at e0
  refine ⟨_, rfl, _, rfl, nu, _, _, vi n, rfl, rfl, hnu.sq, at_of (j := 1) rfl rfl, a, j, x, n, rfl, B, _, rfl, ?_⟩
  by_cases h1 : n = 0 ∨ Kp240.LONG < x.left + n
  · rw [decide_eq_true h1]
    rw [if_pos h1] at e0
    refine iteT ⟨(by show 1 ≤ sizeLine; decide), fun r hr => ?_⟩
    exact ans_same (a := [-22]) S Same.rfl' hr k (by rw [e0]; rfl) (by rw [e0]; rfl)
  rw [decide_eq_false h1]
  rw [if_neg h1] at e0
  refine iteF ?_
  refine ⟨_, rfl, st, dx, _, rfl, hH, rfl, st, l, p, as, js, true, m, rfl, S, ok, fun H1 g s1 hg => ?_⟩
  -- the end, from the groups as they are told
  have fin : ∀ (H2 : Hp) (gs : List (List Nat)), Same H H2 → LLN H2 g gs → gs = (m.bobbins.set i (Kp240.joined x n)).map (Kp240.placesOf m) → ∃ v, tRet (tLst (tCons (tIf (tB (tMeth CS "is_fine" (spIsFine CS CB) [] E0 (tVar 0) (tCons (tVar 4) tNil))) (tC (.int 1)) (tC (.int 0))) tNil)) { nx := fun _ H' => Q .non H', rt := Q } [some (.ref st), some (.ref nu), some (vi i), some (.ref a), some (.ref g)] H2 ∧ v = true := fun H2 gs s2 hgs egs => by
    obtain ⟨dx2, hH2⟩ := (S.mono s2).ins
    refine ⟨true, ?_, rfl⟩
    have lenG : gs.length ≤ 1000 := by rw [egs, List.length_map, List.length_set]; have := ok.four; omega
    have fewG : ∀ y ∈ gs, y.length < 64 := fun y hy => by
      rw [egs] at hy
      obtain ⟨z, hz, rfl⟩ := List.mem_map.mp hy
      unfold Kp240.placesOf
      rw [List.length_map]
      rcases List.mem_or_eq_of_mem_set hz with q | q
      · have := (ok.ok z q).few; omega
      · rw [q]
        show (if x.left = 0 then x.joints else x.joints ++ [x.left]).length < 64
        split
        · omega
        · rw [List.length_append]; simp; omega
    refine ⟨_, rfl, st, dx2, _, rfl, hH2, rfl, _, rfl, st, l, p, g, as, js, true, m, gs, rfl, S.mono s2, hgs, lenG, fewG, fun H3 s3 => ⟨_, rfl, ?_⟩⟩
    have eb : (badOf m.gap gs m.gone).isEmpty = Kp240.fine m (Kp240.set m i (Kp240.joined x n)).bobbins := by rw [egs]; exact fine_is m _
    rw [eb]
    cases hf : Kp240.fine m (Kp240.set m i (Kp240.joined x n)).bobbins with
    | true =>
      rw [hf, if_pos rfl] at e0
      refine iteT ⟨(by show 1 ≤ sizeLine; decide), fun r hr => ?_⟩
      exact ans_same (a := [1]) S (s2.trans s3) hr k (by rw [e0]; rfl) (by rw [e0]; rfl)
    | false =>
      rw [hf, if_neg Bool.false_ne_true] at e0
      refine iteF ⟨(by show 1 ≤ sizeLine; decide), fun r hr => ?_⟩
      exact ans_same (a := [0]) S (s2.trans s3) hr k (by rw [e0]; rfl) (by rw [e0]; rfl)
  have B1 := B.mono s1
  refine ⟨_, rfl, a, CB, dB, _, _, rfl, s1 _ _ hB, T.cB, T.n_left, bob_left, _, _, rfl, rfl, _, rfl, ?_⟩
  show if decide ((0 : Int) < (x.left : Int)) = true then _ else _
  by_cases h2 : x.left = 0
  · rw [decide_eq_false (show ¬ (0 : Int) < (x.left : Int) by omega)]
    refine iteF ?_
    have ej : Kp240.placesOf m (Kp240.joined x n) = Kp240.placesOf m x := by unfold Kp240.placesOf Kp240.joined; rw [if_pos h2]; rfl
    obtain ⟨_, hfin, _⟩ := fin H1 (grp m) s1 (hg.mono New.sub) (by
      rw [set_map, ej, set_same]
      · rfl
      · rw [List.getElem?_map, hx]; rfl)
    exact hfin
  · rw [decide_eq_true (show (0 : Int) < (x.left : Int) by omega)]
    refine iteT ?_
    obtain ⟨gas, hg0, hgs⟩ := hg
    obtain ⟨hgn, hg1⟩ := New.of hg0
    obtain ⟨ga, hga, hLga⟩ := hgs.get (i := i) (g := Kp240.placesOf m x) (by unfold grp; rw [List.getElem?_map, hx]; rfl)
    have hLga1 := hLga.mono New.sub
    refine ⟨_, rfl, _, rfl, g, _, _, .ref ga, rfl, rfl, SqL.of hg1, atI_nat (by rw [List.getElem?_map, hga]; rfl), _, rfl, a, dB, _, rfl, s1 _ _ hB, rfl, _, rfl, st, CS, dx, _, _, rfl, s1 _ _ hH, T.cS, T.n_laid, st_laid, _, rfl, a, CB, dB, _, _, rfl, s1 _ _ hB, T.cB, T.n_left, bob_left, a, j, x, m.laid, x.left, _, rfl, rfl, B1, okx, ?_⟩
    refine ⟨(by show 1 ≤ sizeLine; decide), fun q hq => ?_⟩
    have sq : Same H1 (upd H1 q (.lst [vi (m.laid + Kp240.strandOf x x.left)])) := Same.new hq
    have lenP : (Kp240.placesOf m x).length ≤ 4 := by unfold Kp240.placesOf; rw [List.length_map]; exact few
    refine ⟨ga, q, _, _, rfl, rfl, sq _ _ hLga1, upd_same, (by rw [List.length_map]; exact line1 (by show (Kp240.placesOf m x).length + 1 ≤ 1000000; omega)), fun u hu => ?_⟩
    have su := sq.add (o := .lst (vl (Kp240.placesOf m x) ++ [vi (m.laid + Kp240.strandOf x x.left)])) hu
    have hu2 : LN (upd (upd H1 q (.lst [vi (m.laid + Kp240.strandOf x x.left)])) u (.lst (vl (Kp240.placesOf m x) ++ [vi (m.laid + Kp240.strandOf x x.left)]))) u (Kp240.placesOf m x ++ [m.laid + Kp240.strandOf x x.left]) := by
      show upd _ u _ u = _
      rw [upd_same]
      show _ = some (HO.lst ((Kp240.placesOf m x ++ [m.laid + Kp240.strandOf x x.left]).map vi))
      rw [List.map_append]
      rfl
    generalize upd (upd H1 q (.lst [vi (m.laid + Kp240.strandOf x x.left)])) u (.lst (vl (Kp240.placesOf m x) ++ [vi (m.laid + Kp240.strandOf x x.left)])) = H2 at su hu2 ⊢
    have hlen : i < gas.length := (List.getElem?_eq_some_iff.mp hga).1
    refine ⟨_, rfl, _, rfl, g, _, _, i, rfl, rfl, su _ _ hg1, ?_, ?_⟩
    · unfold ixN
      rw [if_pos (by omega), List.length_map, if_pos (by omega)]
      rfl
    · have lenGr := hgs.length
      have eset : (gas.map V.ref).set i (.ref u) = (gas.set i u).map V.ref := set_map.symm
      -- the groups' own list is written: none of the groups is it
      have ngg : ∀ c ∈ gas, c ≠ g := fun c hc z => by
        obtain ⟨t, ht, rfl⟩ := List.getElem_of_mem hc
        obtain ⟨gl, _, hl⟩ := hgs.getA (List.getElem?_eq_getElem ht)
        have h1 := New.sub _ _ hl
        rw [z, hg1] at h1
        have h2 : gas.map V.ref = vl gl := by injection h1 with h1; injection h1
        have h3 : (gas.map V.ref)[i]? = some (.ref ga) := by rw [List.getElem?_map, hga]; rfl
        rw [h2] at h3
        obtain ⟨_, _, h4⟩ := vl_get h3
        cases h4
      have nug : u ≠ g := fun z => by
        have h1 : H2 u = _ := hu2
        rw [z, su _ _ hg1] at h1
        have h2 : gas.map V.ref = vl (Kp240.placesOf m x ++ [m.laid + Kp240.strandOf x x.left]) := by injection h1 with h1; injection h1
        have h3 : (gas.map V.ref)[i]? = some (.ref ga) := by rw [List.getElem?_map, hga]; rfl
        rw [h2] at h3
        obtain ⟨_, _, h4⟩ := vl_get h3
        cases h4
      have s3 : Same H (upd H2 g (.lst ((gas.set i u).map V.ref))) := (s1.trans su).put hgn
      have keepL : ∀ c, c ≠ g → ∀ t, LN H2 c t → LN (upd H2 g (.lst ((gas.set i u).map V.ref))) c t := fun c hc t h => by
        show upd _ g _ c = _
        rw [upd_ne hc]
        exact h
      have keepLs : ∀ {cs : List Addr} {ts : List (List Nat)}, LLs H2 cs ts → (∀ c ∈ cs, c ≠ g) → LLs (upd H2 g (.lst ((gas.set i u).map V.ref))) cs ts := by
        intro cs ts h
        induction h with
        | nil => exact fun _ => .nil
        | cons h t ih => exact fun hc => .cons (keepL _ (hc _ (by simp)) _ h) (ih fun c hc' => hc c (by simp [hc']))
      have hLL := LLs.set (i := i) hu2 (hgs.mono (New.sub.trans su))
      have hLLN : LLN (upd H2 g (.lst ((gas.set i u).map V.ref))) g ((grp m).set i (Kp240.placesOf m x ++ [m.laid + Kp240.strandOf x x.left])) := by
        refine ⟨gas.set i u, upd_same, keepLs hLL fun c hc => ?_⟩
        rcases List.mem_or_eq_of_mem_set hc with z | z
        · exact ngg c z
        · rw [z]; exact nug
      have ej : Kp240.placesOf m (Kp240.joined x n) = Kp240.placesOf m x ++ [m.laid + Kp240.strandOf x x.left] := by
        unfold Kp240.placesOf Kp240.joined
        rw [if_neg h2, List.map_append]
        rfl
      obtain ⟨_, hfin, _⟩ := fin _ _ s3 hLLN (by rw [set_map, ej]; rfl)
      rw [eset]
      exact hfin
end
end LS

namespace LS
open PySem PySem.Spec PyProof.Rows L2
open Kp240 (Bobbin Machine)

theorem shortest_nil : Kp240.shortest [] = none := rfl
theorem shortest_none : ∀ {l : List Nat}, Kp240.shortest l = none → l = []
  | [], _ => rfl
  | x :: l, h => by
    rw [Kp240.shortest] at h
    cases e : Kp240.shortest l with
    | none => rw [e] at h; cases h
    | some y => rw [e] at h; cases h
theorem shortest_iff : ∀ {l : List Nat} {y : Nat}, Kp240.shortest l = some y → y ∈ l ∧ ∀ x ∈ l, y ≤ x
  | [], y, h => by cases h
  | x :: l, y, h => by
    rw [Kp240.shortest] at h
    cases e : Kp240.shortest l with
    | none =>
      rw [e] at h
      cases h
      rw [shortest_none e]
      exact ⟨List.mem_singleton.mpr rfl, fun z hz => by rw [List.mem_singleton.mp hz]; exact Nat.le_refl _⟩
    | some z =>
      rw [e] at h
      have ih := shortest_iff e
      have e2 : min x z = y := Option.some.inj h
      refine ⟨?_, fun q hq => ?_⟩
      · rcases Nat.le_total x z with c | c
        · rw [Nat.min_eq_left c] at e2; rw [← e2]; exact List.mem_cons_self
        · rw [Nat.min_eq_right c] at e2; rw [← e2]; exact List.mem_cons_of_mem _ ih.1
      · rcases List.mem_cons.mp hq with c | c
        · rw [c]; omega
        · have := ih.2 q c; omega
theorem shortest_eq {l : List Nat} {v : Nat} (h : v ∈ l) (hm : ∀ y ∈ l, v ≤ y) : Kp240.shortest l = some v := by
  cases e : Kp240.shortest l with
  | none => rw [shortest_none e] at h; cases h
  | some y =>
    have := shortest_iff e
    have h1 := this.2 v h
    have h2 := hm y this.1
    rw [show y = v by omega]

section
variable {P : Program} {w : World} {K : PySem.W.Frag} {mg : Str → Option Value} {base : Heap} {CB CS : Addr}

abbrev sSLasts : Stmt := inClass (top 39) 6
theorem scSLasts : FnScope ["self", "bobbin"] ["self"] (defScope sSLasts) := ⟨rfl, rfl, rfl, by decide +kernel, rfl, by decide +kernel, by decide +kernel⟩
inductive spSLasts (CS CB : Addr) (vs : List V) (H : Hp) (Q : VK) (_E : XK) : Prop
  | mk (st l p : Addr) (as js : List Addr) (b : Bool) (m : Machine) (_ : vs = [.ref st]) (_ : StAt CS CB H st b m l p as js) (_ : MOk m) (_ : ∀ H' : Hp, Same H H' → Q (vi (Kp240.lasts m)) H') : spSLasts CS CB vs H Q _E
theorem ok_slasts (F : MethIs K CS "lasts_for" "Strand.lasts_for" sSLasts) (T : TxtS K mg CS CB) (G_lasts_for : Mth P w K mg base 1 CB "lasts_for" ["self"] (spBLasts CB)) :
    Mth P w K mg base 2 CS "lasts_for" ["self"] (spSLasts CS CB) := by
  refine mth_mk F T.cS scSLasts (fun _ _ _ _ _ _ us hl => match us, hl with | [_], _ => rfl) (fun vs H Q E h => ?_) (fun f cdv A outer s H vs Q E hr h => ?_)
  · obtain ⟨st, l, p, as, js, b, m, rfl, _⟩ := h
    rfl
  · obtain ⟨st, l, p, as, js, b, m, rfl, S, ok, k⟩ := h
    have nd := scSLasts.nd
    obtain ⟨dx, hH⟩ := S.ins
    have lenA := S.bobs.length.1
    have four := ok.four
    refine ⟨_, (pss_one (ps_ret (pe_minDK (K := K) rfl rfl (by rfl) T.b_min (pa_cons (pe_lc rfl nd (pi_listK (K := K) rfl (pe_fldK (K := K) rfl (pv 0) rfl)) (blkOk_by (own := [("bobbin", 1)]) (by rfl)) (fun _ _ _ _ _ => (pg_name (i := 1) nd rfl (Or.inl rfl))) (fun _ _ _ _ _ => pts_nil) (fun _ _ _ _ _ => (pmeth0 G_lasts_for hr (pv 1) ))) pa_nil) (pk_cons pe_int pk_nil)))), ?_⟩
    refine ⟨_, rfl, st, CS, dx, _, _, rfl, hH, T.cS, T.n_bobbins, st_bobbins, l, rfl, ⟨_, SqL.of S.lst⟩, fun D hD => ?_⟩
    refine lc_list (K := K) (a := l) (xs := as.map V.ref) (fun i H' => Same H H' ∧ H' D = some (.lst (vl ((m.bobbins.take i).map fun x => Kp240.strandOf x x.left))))
      ⟨Same.new hD, upd_same⟩ (fun i H' _ p => SqL.of (p.1 _ _ S.lst)) ?_ ?_
    · rintro i y H1 hi ⟨s1, hd⟩
      obtain ⟨a, ha, rfl⟩ := refs_get hi
      obtain ⟨x, j, hx, hj, B⟩ := S.bobs.getA ha
      obtain ⟨dB, hB⟩ := B.ins
      refine ⟨rfl, yesI ?_⟩
      refine ⟨_, rfl, a, dB, _, rfl, s1 _ _ hB, rfl, a, j, x, rfl, B.mono s1, ok.ok x (List.mem_of_getElem? hx), _, hd, ?_, s1.put hD, ?_⟩
      · rw [List.length_map, List.length_map]
        have h2 : (m.bobbins.take i).length ≤ m.bobbins.length := List.length_take_le' _ _
        exact line2 (by omega)
      · rw [upd_same, take_snoc hx, List.map_append]
        show _ = some (HO.lst ((_ ++ [Kp240.strandOf x x.left]).map vi))
        rw [List.map_append]
        rfl
    · rintro H1 ⟨s1, hd⟩
      rw [List.length_map, lenA, List.take_length] at hd
      have k1 := k H1 s1
      refine ⟨D, zs (m.bobbins.map fun x => Kp240.strandOf x x.left), 0, rfl, rfl, (by rw [← vl_zs]; exact SqL.of hd), fun e => ?_, fun v hv hmin => ?_⟩
      · have e0 : m.bobbins.map (fun x => Kp240.strandOf x x.left) = [] := List.length_eq_zero_iff.mp (by have := congrArg List.length e; rw [zs, List.length_map] at this; exact this)
        unfold Kp240.lasts at k1
        rw [e0] at k1
        exact k1
      · obtain ⟨d, hd', rfl⟩ := List.mem_map.mp hv
        have e0 := shortest_eq hd' fun y hy => Int.ofNat_le.mp (hmin (Int.ofNat y) (List.mem_map.mpr ⟨y, hy, rfl⟩))
        unfold Kp240.lasts at k1
        rw [e0] at k1
        exact k1

abbrev sCLasts : Stmt := top 55
theorem scCLasts : FnScope ["strand", "numbers"] ["strand", "numbers"] (defScope sCLasts) := ⟨rfl, rfl, rfl, by decide +kernel, rfl, by decide +kernel, by decide +kernel⟩
def selLasts (b : Bool) (_ : Machine) (args : List Nat) (c : Kp240.Call) : Prop := b = true ∧ c = .lasts
theorem ok_call_lasts (F : FunIs K mg "call_lasts" sCLasts) (T : TxtC K mg CS CB) (G_lasts_for : Mth P w K mg base 2 CS "lasts_for" ["self"] (spSLasts CS CB)) :
    Cal P w K mg base 3 "call_lasts" ["strand", "numbers"] (spCall CS CB selLasts) := by
  refine cal_mk F scCLasts (fun _ _ _ _ _ _ us hl => match us, hl with | [_, _], _ => rfl) spCall_len (fun f cdv A outer s H vs Q E hr h => ?_)
  obtain ⟨st, nu, l, p, as, js, b, m, args, c, rfl, S, ok, hgl, hnu, nnu, ⟨rfl, rfl⟩, k⟩ := h
  have ok := ok rfl
  have nd := scCLasts.nd
  obtain ⟨dx, hH⟩ := S.ins
  refine ⟨_, (pss_one (ps_ret (pe_lst (pa_cons (pmeth0 G_lasts_for hr (pv 0) ) pa_nil)))), ?_⟩
  refine ⟨_, rfl, st, dx, _, rfl, hH, rfl, st, l, p, as, js, true, m, rfl, S, ok, fun H1 s1 => ⟨(by show 1 ≤ sizeLine; decide), fun r hr => ?_⟩⟩
  have e0 : Kp240.step (stOf true m) .lasts = (some m, Kp240.say (Kp240.lasts m : Int)) := rfl
  exact ans_same (a := [(Kp240.lasts m : Int)]) S s1 hr k (by rw [e0]; rfl) (by rw [e0]; rfl)

abbrev sCPlaces : Stmt := top 56
theorem scCPlaces : FnScope ["strand", "numbers", "group"] ["strand", "numbers"] (defScope sCPlaces) := ⟨rfl, rfl, rfl, by decide +kernel, rfl, by decide +kernel, by decide +kernel⟩
def selPlaces (b : Bool) (m : Machine) (args : List Nat) (c : Kp240.Call) : Prop := b = true ∧ ∃ i, args = [i] ∧ c = .places i ∧ i < m.bobbins.length
theorem tell_eq (l : List Nat) : [V.int ((vl l).length : Nat)] ++ vl l = (ansL (Kp240.tellAll l)).map V.int := by
  unfold ansL Kp240.tellAll Kp240.ints
  rw [List.length_map, List.map_cons, List.map_map]
  rfl
theorem ok_call_places (F : FunIs K mg "call_places" sCPlaces) (T : TxtC K mg CS CB) (G_groups : Mth P w K mg base 3 CS "groups" ["self"] (spGroups CS CB)) :
    Cal P w K mg base 4 "call_places" ["strand", "numbers"] (spCall CS CB selPlaces) := by
  refine cal_mk F scCPlaces (fun _ _ _ _ _ _ us hl => match us, hl with | [_, _], _ => rfl) spCall_len (fun f cdv A outer s H vs Q E hr h => ?_)
  obtain ⟨st, nu, l, p, as, js, b, m, args, c, rfl, S, ok, hgl, hnu, nnu, ⟨rfl, i, rfl, rfl, hi⟩, k⟩ := h
  have ok := ok rfl
  have nd := scCPlaces.nd
  obtain ⟨dx, hH⟩ := S.ins
  obtain ⟨x, hx⟩ : ∃ x, m.bobbins[i]? = some x := ⟨_, List.getElem?_eq_getElem hi⟩
  have ex := set_get hx
  have okx := ok.ok x (List.mem_of_getElem? hx)
  refine ⟨_, (pss_cons (ps_set (i := 2) nd rfl (Or.inl rfl) (pe_ix (ix_listK (K := K) rfl) (pmeth0 G_groups hr (pv 0) ) (pe_ix (ix_listK (K := K) rfl) (pv 1) pe_int (fun _ _ => rfl)) (fun _ _ => rfl)))
      (pss_one (ps_ret (pe_op op_cat (pe_lst (pa_cons (pe_callB (call_len_seqK (K := K) rfl) (by rfl) T.b_len bo_len (pa_cons (pv 2) pa_nil)) pa_nil)) (pv 2))))), ?_⟩
  refine ⟨_, rfl, st, dx, _, rfl, hH, rfl, st, l, p, as, js, true, m, rfl, S, ok, fun H1 g s1 hg => ?_⟩
  obtain ⟨gas, hg0, hgs⟩ := hg
  obtain ⟨hgn, hg1⟩ := New.of hg0
  obtain ⟨ga, hga, hLga⟩ := hgs.get (i := i) (g := Kp240.placesOf m x) (by unfold grp; rw [List.getElem?_map, hx]; rfl)
  have hL := hLga.mono New.sub
  refine ⟨_, rfl, nu, _, _, vi i, rfl, rfl, (hnu.mono s1).sq, at_of (j := 0) rfl rfl, g, _, _, .ref ga, rfl, rfl, SqL.of hg1, atI_nat (by rw [List.getElem?_map, hga]; rfl), ?_⟩
  have e0 : Kp240.step (stOf true m) (.places i) = Kp240.step (some m) (.places i) := rfl
  rw [step_places, if_neg (isBob hi), ex] at e0
  have lenP : (Kp240.placesOf m x).length ≤ 4 := by unfold Kp240.placesOf; rw [List.length_map]; exact okx.few
  refine ⟨_, rfl, ga, _, rfl, .inl hL.sq, (by show 1 ≤ sizeLine; decide), fun u hu => ?_⟩
  have su := Same.new (o := .lst [V.int ((vl (Kp240.placesOf m x)).length : Nat)]) hu
  refine ⟨_, rfl, u, ga, _, _, rfl, rfl, upd_same, su _ _ hL, (by show 1 + (vl (Kp240.placesOf m x)).length ≤ sizeLine; rw [List.length_map]; exact line1 (by omega)), fun r hr => ?_⟩
  rw [tell_eq]
  exact ans_same S (s1.trans su) hr k (by rw [e0]; rfl) (by rw [e0])

abbrev sCGone : Stmt := top 58
theorem scCGone : FnScope ["strand", "numbers"] ["strand", "numbers"] (defScope sCGone) := ⟨rfl, rfl, rfl, by decide +kernel, rfl, by decide +kernel, by decide +kernel⟩
def selGone (b : Bool) (_ : Machine) (args : List Nat) (c : Kp240.Call) : Prop := b = true ∧ c = .gone
theorem ok_call_gone (F : FunIs K mg "call_gone" sCGone) (T : TxtC K mg CS CB) : Cal P w K mg base 1 "call_gone" ["strand", "numbers"] (spCall CS CB selGone) := by
  refine cal_mk F scCGone (fun _ _ _ _ _ _ us hl => match us, hl with | [_, _], _ => rfl) spCall_len (fun f cdv A outer s H vs Q E hr h => ?_)
  obtain ⟨st, nu, l, p, as, js, b, m, args, c, rfl, S, ok, hgl, hnu, nnu, ⟨rfl, rfl⟩, k⟩ := h
  have hgl := hgl rfl
  have nd := scCGone.nd
  obtain ⟨dx, hH⟩ := S.ins
  refine ⟨_, (pss_one (ps_ret (pe_op op_cat (pe_lst (pa_cons (pe_callB (call_len_seqK (K := K) rfl) (by rfl) T.b_len bo_len (pa_cons (pe_fldK (K := K) rfl (pv 0) rfl) pa_nil)) pa_nil)) (pe_fldK (K := K) rfl (pv 0) rfl)))), ?_⟩
  have e0 : Kp240.step (stOf true m) .gone = (some m, Kp240.tellAll m.gone) := rfl
  refine ⟨_, rfl, st, CS, dx, _, _, rfl, hH, T.cS, T.n_passed, st_passed, p, _, rfl, .inl S.gone.sq, (by show 1 ≤ sizeLine; decide), fun u hu => ?_⟩
  have su := Same.new (o := .lst [V.int ((vl m.gone).length : Nat)]) hu
  refine ⟨_, rfl, st, CS, dx, _, _, rfl, su _ _ hH, T.cS, T.n_passed, st_passed, u, p, _, _, rfl, rfl, upd_same, su _ _ S.gone, (by show 1 + (vl m.gone).length ≤ sizeLine; rw [List.length_map]; exact line1 (by omega)), fun r hr => ?_⟩
  rw [tell_eq]
  exact ans_same S su hr k (by rw [e0]; rfl) (by rw [e0])

abbrev sCWire : Stmt := top 59
theorem scCWire : FnScope ["strand", "numbers"] ["strand", "numbers"] (defScope sCWire) := ⟨rfl, rfl, rfl, by decide +kernel, rfl, by decide +kernel, by decide +kernel⟩
def selWire (b : Bool) (m : Machine) (args : List Nat) (c : Kp240.Call) : Prop := b = true ∧ ∃ i n, args = [i, n] ∧ c = .wire i n ∧ i < m.bobbins.length
theorem ok_call_wire (F : FunIs K mg "call_wire" sCWire) (T : TxtC K mg CS CB) (G_wire_for : Mth P w K mg base 1 CB "wire_for" ["self", "metres"] (spWireFor CB)) :
    Cal P w K mg base 2 "call_wire" ["strand", "numbers"] (spCall CS CB selWire) := by
  refine cal_mk F scCWire (fun _ _ _ _ _ _ us hl => match us, hl with | [_, _], _ => rfl) spCall_len (fun f cdv A outer s H vs Q E hr h => ?_)
  obtain ⟨st, nu, l, p, as, js, b, m, args, c, rfl, S, ok, hgl, hnu, nnu, ⟨rfl, i, n, rfl, rfl, hi⟩, k⟩ := h
  have ok := ok rfl
  have nd := scCWire.nd
  obtain ⟨dx, hH⟩ := S.ins
  obtain ⟨x, hx⟩ : ∃ x, m.bobbins[i]? = some x := ⟨_, List.getElem?_eq_getElem hi⟩
  have ex := set_get hx
  obtain ⟨a, j, ha, hj, B⟩ := S.bobs.get hx
  obtain ⟨dB, hB⟩ := B.ins
  have okx := ok.ok x (List.mem_of_getElem? hx)
  refine ⟨_, (pss_cons (ps_if (pt_cmpR op_gt (pe_ix (ix_listK (K := K) rfl) (pv 1) pe_int (fun _ _ => rfl)) (pgi T.g_MOST_RUN) (nomark _)) (pss_one (ps_ret (pe_lst (pa_cons (pgi T.g_OUT_OF_BOUNDS) pa_nil)))) pss_nil)
      (pss_one (ps_ret (pe_lst (pa_cons (pmeth G_wire_for hr (pe_ix (ix_listK (K := K) rfl) (pe_fldK (K := K) rfl (pv 0) rfl) (pe_ix (ix_listK (K := K) rfl) (pv 1) pe_int (fun _ _ => rfl)) (fun _ _ => rfl)) (pa_cons (pe_ix (ix_listK (K := K) rfl) (pv 1) pe_int (fun _ _ => rfl)) pa_nil)) pa_nil))))), ?_⟩
  have e0 : Kp240.step (stOf true m) (.wire i n) = Kp240.step (some m) (.wire i n) := rfl
  rw [step_wire, if_neg (isBob hi), ex] at e0
  refine ⟨_, rfl, nu, _, _, vi n, rfl, rfl, hnu.sq, at_of (j := 1) rfl rfl, _, _, rfl, rfl, _, rfl, ?_⟩
  show if decide ((100000 : Int) < (n : Int)) = true then _ else _
  by_cases h1 : 100000 < n
  · rw [decide_eq_true (show (100000 : Int) < (n : Int) by omega)]
    rw [if_pos (show Kp240.LONG < n from h1)] at e0
    refine iteT ⟨(by show 1 ≤ sizeLine; decide), fun r hr => ?_⟩
    exact ans_same (a := [-22]) S Same.rfl' hr k (by rw [e0]; rfl) (by rw [e0]; rfl)
  rw [decide_eq_false (show ¬ (100000 : Int) < (n : Int) by omega)]
  rw [if_neg (show ¬ Kp240.LONG < n from h1)] at e0
  refine iteF ?_
  refine ⟨_, rfl, st, CS, dx, _, _, rfl, hH, T.cS, T.n_bobbins, st_bobbins, _, rfl, nu, _, _, vi i, rfl, rfl, hnu.sq, at_of (j := 0) rfl rfl, l, _, _, .ref a, rfl, rfl, SqL.of S.lst, atI_nat (by rw [List.getElem?_map, ha]; rfl), a, dB, _, rfl, hB, rfl, _, rfl, nu, _, _, vi n, rfl, rfl, hnu.sq, at_of (j := 1) rfl rfl, a, j, x, n, rfl, B, okx, ?_⟩
  refine ⟨(by show 1 ≤ sizeLine; decide), fun r hr => ?_⟩
  exact ans_same (a := [(Kp240.wireFor x n : Int)]) S Same.rfl' hr k (by rw [e0]; rfl) (by rw [e0]; rfl)

abbrev sCLook : Stmt := top 60
theorem scCLook : FnScope ["strand", "numbers", "bobbin"] ["strand", "numbers"] (defScope sCLook) := ⟨rfl, rfl, rfl, by decide +kernel, rfl, by decide +kernel, by decide +kernel⟩
def selLook (b : Bool) (m : Machine) (args : List Nat) (c : Kp240.Call) : Prop := b = true ∧ ∃ i, args = [i] ∧ c = .look i ∧ i < m.bobbins.length
theorem ok_call_look (F : FunIs K mg "call_look" sCLook) (T : TxtC K mg CS CB) : Cal P w K mg base 1 "call_look" ["strand", "numbers"] (spCall CS CB selLook) := by
  refine cal_mk F scCLook (fun _ _ _ _ _ _ us hl => match us, hl with | [_, _], _ => rfl) spCall_len (fun f cdv A outer s H vs Q E hr h => ?_)
  obtain ⟨st, nu, l, p, as, js, b, m, args, c, rfl, S, ok, hgl, hnu, nnu, ⟨rfl, i, rfl, rfl, hi⟩, k⟩ := h
  have ok := ok rfl
  have nd := scCLook.nd
  obtain ⟨dx, hH⟩ := S.ins
  obtain ⟨x, hx⟩ : ∃ x, m.bobbins[i]? = some x := ⟨_, List.getElem?_eq_getElem hi⟩
  have ex := set_get hx
  obtain ⟨a, j, ha, hj, B⟩ := S.bobs.get hx
  obtain ⟨dB, hB⟩ := B.ins
  have okx := ok.ok x (List.mem_of_getElem? hx)
  have few := okx.few
  refine ⟨_, (pss_cons (ps_set (i := 2) nd rfl (Or.inl rfl) (pe_ix (ix_listK (K := K) rfl) (pe_fldK (K := K) rfl (pv 0) rfl) (pe_ix (ix_listK (K := K) rfl) (pv 1) pe_int (fun _ _ => rfl)) (fun _ _ => rfl)))
      (pss_one (ps_ret (pe_op op_cat (pe_lst (pa_cons (pe_fldK (K := K) rfl (pv 2) rfl) (pa_cons (pe_fldK (K := K) rfl (pv 2) rfl) pa_nil))) (pe_fldK (K := K) rfl (pv 2) rfl))))), ?_⟩
  have e0 : Kp240.step (stOf true m) (.look i) = Kp240.step (some m) (.look i) := rfl
  rw [step_look, if_neg (isBob hi), ex] at e0
  refine ⟨_, rfl, st, CS, dx, _, _, rfl, hH, T.cS, T.n_bobbins, st_bobbins, _, rfl, nu, _, _, vi i, rfl, rfl, hnu.sq, at_of (j := 0) rfl rfl, l, _, _, .ref a, rfl, rfl, SqL.of S.lst, atI_nat (by rw [List.getElem?_map, ha]; rfl), ?_⟩
  refine ⟨_, rfl, a, CB, dB, _, _, rfl, hB, T.cB, T.n_left, bob_left, _, rfl, a, CB, dB, _, _, rfl, hB, T.cB, T.n_lay, bob_lay, (by show 2 ≤ sizeLine; decide), fun u hu => ?_⟩
  have su := Same.new (o := .lst [vi x.left, vi x.lay]) hu
  refine ⟨_, rfl, a, CB, dB, _, _, rfl, su _ _ hB, T.cB, T.n_joints, bob_joints, u, j, _, _, rfl, rfl, upd_same, su _ _ B.lst, (by show 2 + (vl x.joints).length ≤ sizeLine; rw [List.length_map]; exact line1 (by omega)), fun r hr => ?_⟩
  have ea : [vi x.left, vi x.lay] ++ vl x.joints = (ansL ⟨(x.left : Int), Kp240.ints (x.lay :: x.joints)⟩).map V.int := by
    unfold ansL Kp240.ints
    rw [List.map_cons, List.map_map]
    rfl
  rw [ea]
  exact ans_same S su hr k (by rw [e0]; rfl) (by rw [e0])

abbrev sCSums : Stmt := top 61
theorem scCSums : FnScope ["strand", "numbers"] ["strand", "numbers"] (defScope sCSums) := ⟨rfl, rfl, rfl, by decide +kernel, rfl, by decide +kernel, by decide +kernel⟩
def selSums (b : Bool) (_ : Machine) (args : List Nat) (c : Kp240.Call) : Prop := b = true ∧ c = .sums
theorem ok_call_sums (F : FunIs K mg "call_sums" sCSums) (T : TxtC K mg CS CB) : Cal P w K mg base 1 "call_sums" ["strand", "numbers"] (spCall CS CB selSums) := by
  refine cal_mk F scCSums (fun _ _ _ _ _ _ us hl => match us, hl with | [_, _], _ => rfl) spCall_len (fun f cdv A outer s H vs Q E hr h => ?_)
  obtain ⟨st, nu, l, p, as, js, b, m, args, c, rfl, S, ok, hgl, hnu, nnu, ⟨rfl, rfl⟩, k⟩ := h
  have nd := scCSums.nd
  obtain ⟨dx, hH⟩ := S.ins
  have lenA := S.bobs.length.1
  refine ⟨_, (pss_one (ps_ret (pe_lst (pa_cons (pe_fldK (K := K) rfl (pv 0) rfl) (pa_cons (pe_fldK (K := K) rfl (pv 0) rfl) (pa_cons (pe_callB (call_len_seqK (K := K) rfl) (by rfl) T.b_len bo_len (pa_cons (pe_fldK (K := K) rfl (pv 0) rfl) pa_nil)) (pa_cons (pe_fldK (K := K) rfl (pv 0) rfl) (pa_cons (pe_callB (call_len_seqK (K := K) rfl) (by rfl) T.b_len bo_len (pa_cons (pe_fldK (K := K) rfl (pv 0) rfl) pa_nil)) pa_nil)))))))), ?_⟩
  have e0 : Kp240.step (stOf true m) .sums = (some m, ⟨(m.laid : Int), Kp240.ints [m.gap, m.bobbins.length, m.cut, m.gone.length]⟩) := rfl
  refine ⟨_, rfl, st, CS, dx, _, _, rfl, hH, T.cS, T.n_laid, st_laid, _, rfl, st, CS, dx, _, _, rfl, hH, T.cS, T.n_gap, st_gap, _, rfl, st, CS, dx, _, _, rfl, hH, T.cS, T.n_bobbins, st_bobbins, l, _, rfl, .inl (SqL.of S.lst), _, rfl, st, CS, dx, _, _, rfl, hH, T.cS, T.n_cut_off, st_cut, _, rfl, st, CS, dx, _, _, rfl, hH, T.cS, T.n_passed, st_passed, p, _, rfl, .inl S.gone.sq, (by show 5 ≤ sizeLine; decide), fun r hr => ?_⟩
  have ea : [vi m.laid, vi m.gap, V.int ((as.map V.ref).length : Nat), vi m.cut, V.int ((vl m.gone).length : Nat)] = (ansL ⟨(m.laid : Int), Kp240.ints [m.gap, m.bobbins.length, m.cut, m.gone.length]⟩).map V.int := by
    rw [List.length_map, List.length_map, lenA]
    rfl
  show Q (.ref r) (upd H r (.lst [vi m.laid, vi m.gap, V.int ((as.map V.ref).length : Nat), vi m.cut, V.int ((vl m.gone).length : Nat)]))
  rw [ea]
  exact ans_same S Same.rfl' hr k (by rw [e0]; rfl) (by rw [e0])
end
end LS

namespace LS
open PySem PySem.Spec PyProof.Rows L2
open Kp240 (Bobbin Machine)

/-! ### how far the nearest two lie apart -/
theorem nearest_clear : ∀ (l : List Nat), (Kp240.nearest l = none → l.length < 2) ∧ ∀ d, Kp240.nearest l = some d → 2 ≤ l.length ∧ ∀ g, Kp240.clear g l = true ↔ g ≤ d
  | [] => ⟨fun _ => (by decide), fun d h => (by cases h)⟩
  | p :: l => by
    obtain ⟨ih0, ih1⟩ := nearest_clear l
    have hc : ∀ g, Kp240.clear g (p :: l) = true ↔ (∀ q ∈ l, g ≤ Kp240.apart p q) ∧ Kp240.clear g l = true := fun g => by
      rw [Kp240.clear, Bool.and_eq_true, List.all_eq_true]
      simp
    have hn : Kp240.nearest (p :: l) = match Kp240.shortest (l.map (Kp240.apart p)), Kp240.nearest l with | none, x => x | x, none => x | some a, some b => some (min a b) := rfl
    rw [hn]
    cases es : Kp240.shortest (l.map (Kp240.apart p)) with
    | none =>
      have el : l = [] := List.map_eq_nil_iff.mp (shortest_none es)
      subst el
      exact ⟨fun _ => (by simp), fun d h => (by cases h)⟩
    | some a =>
      obtain ⟨ma, la⟩ := shortest_iff es
      have hs : ∀ g, (∀ q ∈ l, g ≤ Kp240.apart p q) ↔ g ≤ a := fun g => by
        constructor
        · intro h
          obtain ⟨q, hq, e⟩ := List.mem_map.mp ma
          have := h q hq
          omega
        · intro h q hq
          have := la _ (List.mem_map.mpr ⟨q, hq, rfl⟩)
          omega
      have hpos : 1 ≤ l.length := by
        obtain ⟨q, hq, _⟩ := List.mem_map.mp ma
        exact List.length_pos_of_mem hq
      cases en : Kp240.nearest l with
      | none =>
        refine ⟨fun h => (by cases h), fun d h => ?_⟩
        have e : a = d := Option.some.inj h
        subst e
        refine ⟨by simp; omega, fun g => ?_⟩
        rw [hc, hs]
        have hl := ih0 en
        have : Kp240.clear g l = true := by
          match l, hl with
          | [], _ => rfl
          | [x], _ => simp [Kp240.clear]
        rw [this]
        simp
      | some b =>
        refine ⟨fun h => (by cases h), fun d h => ?_⟩
        have e : min a b = d := Option.some.inj h
        refine ⟨by simp; omega, fun g => ?_⟩
        rw [hc, hs, (ih1 b en).2 g]
        omega
theorem nearest_min {l s : List Nat} {v : Nat} (hp : s.Perm l) (up : s.Pairwise (· ≤ ·)) (hv : v ∈ diffs s) (hm : ∀ y ∈ diffs s, v ≤ y) : Kp240.nearest l = some v := by
  have hlen : 2 ≤ l.length := by
    have := List.length_pos_of_mem hv
    rw [diffs_len] at this
    have := hp.length_eq
    omega
  obtain ⟨h0, h1⟩ := nearest_clear l
  have hg : ∀ g, Kp240.clear g l = true ↔ g ≤ v := fun g => by
    rw [← clear_perm hp, clear_diffs up]
    exact ⟨fun h => h v hv, fun h y hy => Nat.le_trans h (hm y hy)⟩
  cases e : Kp240.nearest l with
  | none => have := h0 e; omega
  | some d =>
    have hd := (h1 d e).2
    have a1 := (hd v).mp ((hg v).mpr (Nat.le_refl _))
    have a2 := (hg d).mp ((hd d).mpr (Nat.le_refl _))
    rw [show d = v by omega]
theorem nearest_few {l : List Nat} (h : l.length < 2) : Kp240.nearest l = none := by
  match l, h with
  | [], _ => rfl
  | [x], _ => rfl
theorem places_grp (m : Machine) : Kp240.places m m.bobbins = (grp m).flatten := by
  unfold Kp240.places grp
  rw [List.flatMap_def]
theorem take_flat {gs : List (List Nat)} {i : Nat} {g : List Nat} (h : gs[i]? = some g) : (gs.take (i + 1)).flatten = (gs.take i).flatten ++ g := by
  rw [take_snoc h, List.flatten_append]
  simp
theorem flat_len : ∀ {gs : List (List Nat)}, (∀ g ∈ gs, g.length ≤ 4) → gs.flatten.length ≤ 4 * gs.length
  | [], _ => by simp
  | g :: gs, h => by
    have := flat_len (gs := gs) fun x hx => h x (List.mem_cons_of_mem _ hx)
    have := h g List.mem_cons_self
    simp only [List.flatten_cons, List.length_append, List.length_cons]
    omega
theorem grp_few {m : Machine} (ok : MOk m) : ∀ g ∈ grp m, g.length ≤ 4 := fun g hg => by
  unfold grp at hg
  obtain ⟨y, hy, rfl⟩ := List.mem_map.mp hg
  unfold Kp240.placesOf
  rw [List.length_map]
  exact (ok.ok y hy).few

section
variable {P : Program} {w : World} {K : PySem.W.Frag} {mg : Str → Option Value} {base : Heap} {CB CS : Addr}

abbrev sCNearest : Stmt := top 51
theorem scCNearest : FnScope ["strand", "numbers", "places", "group"] ["strand", "numbers"] (defScope sCNearest) := ⟨rfl, rfl, rfl, by decide +kernel, rfl, by decide +kernel, by decide +kernel⟩
def selNearest (b : Bool) (_ : Machine) (args : List Nat) (c : Kp240.Call) : Prop := b = true ∧ c = .nearest
theorem ok_call_nearest (F : FunIs K mg "call_nearest" sCNearest) (T : TxtC K mg CS CB) (G_groups : Mth P w K mg base 3 CS "groups" ["self"] (spGroups CS CB)) (G_steps : Cal P w K mg base 1 "steps" ["places"] spSteps) :
    Cal P w K mg base 4 "call_nearest" ["strand", "numbers"] (spCall CS CB selNearest) := by
  refine cal_mk F scCNearest (fun _ _ _ _ _ _ us hl => match us, hl with | [_, _], _ => rfl) spCall_len (fun f cdv A outer s H vs Q E hr h => ?_)
  obtain ⟨st, nu, l, p, as, js, b, m, args, c, rfl, S, ok, hgl, hnu, nnu, ⟨rfl, rfl⟩, k⟩ := h
  have ok := ok rfl
  have hgl := hgl rfl
  have nd := scCNearest.nd
  obtain ⟨dx, hH⟩ := S.ins
  refine ⟨_, (pss_cons (ps_set (i := 2) nd rfl (Or.inl rfl) (pe_callTy (call_list_ofK (K := K) rfl) (by rfl) T.b_list bo_list (pa_cons (pe_fldK (K := K) rfl (pv 0) rfl) pa_nil)))
      (pss_cons (ps_for PassesOwn.never rfl (pi_listK (K := K) rfl (pmeth0 G_groups hr (pv 0) )) (pg_name (i := 3) nd rfl (Or.inl rfl)) (pss_one (ps_expr (pe_bmK (K := K) rfl PySem.F.plainAttrs_list PySem.F.slot_list_extend PySem.F.type_list_extend mt_extend (pv 2) (pa_cons (pv 3) pa_nil)))))
      (pss_cons (ps_if (pt_cmpR op_lt (pe_callB (call_len_seqK (K := K) rfl) (by rfl) T.b_len bo_len (pa_cons (pv 2) pa_nil)) pe_int (nomark _)) (pss_one (ps_ret (pe_lst (pa_cons (pgi T.g_TOO_FEW_JOINTS) pa_nil)))) pss_nil)
      (pss_one (ps_ret (pe_lst (pa_cons (pe_callB (cr_minK (K := K) rfl rfl) (by rfl) T.b_min bo_min (pa_cons (pcall G_steps hr rfl (pa_cons (pv 2) pa_nil)) pa_nil)) pa_nil))))))), ?_⟩
  refine ⟨_, rfl, st, CS, dx, _, _, rfl, hH, T.cS, T.n_passed, st_passed, p, _, rfl, .inl S.gone.sq, fun q hq => ?_⟩
  have sq1 : Same H (upd H q (.lst (vl m.gone))) := Same.new hq
  have hq1 : LN (upd H q (.lst (vl m.gone))) q m.gone := upd_same
  generalize upd H q (.lst (vl m.gone)) = H1 at sq1 hq1 ⊢
  have S1 := S.mono sq1
  refine ⟨_, rfl, st, dx, _, rfl, sq1 _ _ hH, rfl, st, l, p, as, js, true, m, rfl, S1, ok, fun H2 g s2 hg => ?_⟩
  obtain ⟨gas, hg0, hgs⟩ := hg
  obtain ⟨hgn, hg2⟩ := New.of hg0
  have hq2 := hq1.mono s2
  have ngq : g ≠ q := fun z => by rw [z, show H1 q = _ from hq1] at hgn; cases hgn
  have lenG := hgs.length
  have lenGr : (grp m).length ≤ 4 := by unfold grp; rw [List.length_map]; exact ok.four
  have fl : ∀ i, ((grp m).take i).flatten.length ≤ 16 := fun i => by
    have h1 := flat_len (gs := (grp m).take i) fun x hx => grp_few ok x (List.mem_of_mem_take hx)
    have h2 : ((grp m).take i).length ≤ (grp m).length := List.length_take_le' _ _
    omega
  refine ⟨g, rfl, ⟨_, SqL.of hg2⟩, for_list (K := K) (a := g) (xs := gas.map V.ref) (fun i σ H' => (∃ v : Option V, σ = [some (.ref st), some (.ref nu), some (.ref q), v]) ∧ (∀ c o, H2 c = some o → c ≠ q → H' c = some o) ∧ LN H' q (m.gone ++ ((grp m).take i).flatten))
    ⟨⟨none, rfl⟩, fun c o e _ => e, by simpa using hq2⟩ (fun i σ H' _ p => SqL.of (p.2.1 _ _ hg2 ngq)) ?_ ?_⟩
  · rintro i y σ H3 hi ⟨⟨v, rfl⟩, k3, hq3⟩
    obtain ⟨ga, hga, rfl⟩ := refs_get hi
    obtain ⟨gr, hgr, hLg⟩ := hgs.getA hga
    obtain ⟨hgan, hga2⟩ := New.of hLg
    have nga : ga ≠ q := fun z => by rw [z, show H1 q = _ from hq1] at hgan; cases hgan
    have h3 := fl i
    have h4 := grp_few ok gr (List.mem_of_getElem? hgr)
    refine ⟨_, rfl, .inl ⟨rfl, _, SqL.of hq3⟩, _, rfl, q, ga, _, _, rfl, rfl, hq3, k3 _ _ hga2 nga, (by rw [List.length_map, List.length_map, List.length_append]; exact line1 (by omega)), ?_⟩
    refine ⟨⟨_, rfl⟩, fun c o e hc => by rw [upd_ne hc]; exact k3 c o e hc, ?_⟩
    show upd _ q _ q = _
    rw [upd_same, take_flat hgr, ← List.append_assoc, ← List.map_append]
  · rintro σ H3 ⟨⟨v, rfl⟩, k3, hq3⟩
    rw [List.length_map, lenG, List.take_length, ← places_grp] at hq3
    have s3 : Same H H3 := fun c o e => k3 c o (s2 _ _ (sq1 _ _ e)) fun z => by rw [z, hq] at e; cases e
    have h16 : (m.gone ++ Kp240.places m m.bobbins).length ≤ 600000 := by
      have := fl (grp m).length
      rw [List.take_length] at this
      rw [List.length_append, places_grp]
      omega
    have e0 : Kp240.step (stOf true m) .nearest = (some m, match Kp240.nearest (m.gone ++ Kp240.places m m.bobbins) with | some d => Kp240.say (d : Int) | none => Kp240.say (-33)) := rfl
    generalize m.gone ++ Kp240.places m m.bobbins = pl at hq3 h16 e0
    refine ⟨_, rfl, q, _, rfl, .inl hq3.sq, _, _, rfl, rfl, _, rfl, ?_⟩
    show if decide ((((vl pl).length : Nat) : Int) < 2) = true then _ else _
    rw [List.length_map]
    by_cases h2 : pl.length < 2
    · rw [decide_eq_true (show ((pl.length : Nat) : Int) < 2 by omega)]
      rw [nearest_few h2] at e0
      refine iteT ⟨(by show 1 ≤ sizeLine; decide), fun r hr => ?_⟩
      exact ans_same (a := [-33]) S s3 hr k (by rw [e0]; rfl) (by rw [e0]; rfl)
    · rw [decide_eq_false (show ¬ ((pl.length : Nat) : Int) < 2 by omega)]
      refine iteF ?_
      refine ⟨_, rfl, q, pl, rfl, hq3, by omega, fun H4 r4 l4 s4 hr4 hperm up hL4 => ?_⟩
      have hpos : 0 < (zs (diffs l4)).length := by
        unfold zs
        rw [List.length_map, diffs_len, hperm.length_eq]
        omega
      refine ⟨r4, zs (diffs l4), rfl, (by rw [← vl_zs]; exact hL4.sq), hpos, fun v hv hmin => ⟨(by show 1 ≤ sizeLine; decide), fun r hr => ?_⟩⟩
      obtain ⟨d, hd, rfl⟩ := List.mem_map.mp hv
      rw [nearest_min hperm up hd fun y hy => Int.ofNat_le.mp (hmin (Int.ofNat y) (List.mem_map.mpr ⟨y, hy, rfl⟩))] at e0
      exact ans_same (a := [(d : Int)]) S (s3.trans s4) hr k (by rw [e0]; rfl) (by rw [e0]; rfl)
end
end LS

namespace LS
open PySem PySem.Spec PyProof.Rows L2
open Kp240 (Bobbin Machine)

/-! ### the one that will lie first -/
def nxL (m : Machine) : List (Nat × Nat) := (Kp240.all m).flatMap fun b => (Kp240.placesOf m (Kp240.bobbinAt m b)).map fun p => (p, b)
def leP (x y : Nat × Nat) : Prop := x.1 < y.1 ∨ (x.1 = y.1 ∧ x.2 ≤ y.2)
def nxF (x : Option (Nat × Nat)) (z : Nat × Nat) : Option (Nat × Nat) := match x with
  | none => some z
  | some y => if z.1 < y.1 then some z else some y
theorem next_fold (m : Machine) : Kp240.next m = (nxL m).foldl nxF none := rfl
theorem nx_go : ∀ (L : List (Nat × Nat)) (y : Nat × Nat), (∀ x ∈ L, y.2 ≤ x.2) → L.Pairwise (fun a c => a.2 ≤ c.2) → ∃ r, L.foldl nxF (some y) = some r ∧ (r = y ∨ r ∈ L) ∧ leP r y ∧ ∀ x ∈ L, leP r x
  | [], y, _, _ => ⟨y, rfl, .inl rfl, .inr ⟨rfl, Nat.le_refl _⟩, fun x hx => (by cases hx)⟩
  | z :: L, y, hy, hp => by
    have hp' := List.pairwise_cons.mp hp
    have e : (z :: L).foldl nxF (some y) = L.foldl nxF (if z.1 < y.1 then some z else some y) := rfl
    rw [e]
    by_cases c : z.1 < y.1
    · rw [if_pos c]
      obtain ⟨r, h1, h2, h3, h4⟩ := nx_go L z (fun x hx => hp'.1 x hx) hp'.2
      refine ⟨r, h1, .inr ?_, ?_, fun x hx => ?_⟩
      · rcases h2 with q | q
        · rw [q]; exact List.mem_cons_self
        · exact List.mem_cons_of_mem _ q
      · unfold leP at h3 ⊢; omega
      · rcases List.mem_cons.mp hx with q | q
        · rw [q]; exact h3
        · exact h4 x q
    · rw [if_neg c]
      obtain ⟨r, h1, h2, h3, h4⟩ := nx_go L y (fun x hx => hy x (List.mem_cons_of_mem _ hx)) hp'.2
      refine ⟨r, h1, ?_, h3, fun x hx => ?_⟩
      · rcases h2 with q | q
        · exact .inl q
        · exact .inr (List.mem_cons_of_mem _ q)
      · rcases List.mem_cons.mp hx with q | q
        · have := hy z List.mem_cons_self
          rw [q]
          unfold leP at h3 ⊢
          omega
        · exact h4 x q
theorem nxL_up (m : Machine) : (nxL m).Pairwise (fun a c => a.2 ≤ c.2) := by
  unfold nxL Kp240.all
  rw [List.pairwise_flatMap]
  refine ⟨fun b _ => ?_, ?_⟩
  · rw [List.pairwise_map]
    exact List.pairwise_of_forall (by intros; exact Nat.le_refl _)
  · refine (List.pairwise_lt_range).imp fun h x hx y hy => ?_
    obtain ⟨p, _, rfl⟩ := List.mem_map.mp hx
    obtain ⟨q, _, rfl⟩ := List.mem_map.mp hy
    exact Nat.le_of_lt h
theorem next_some {m : Machine} {z : Nat × Nat} (hz : z ∈ nxL m) : ∃ r, Kp240.next m = some r ∧ r ∈ nxL m ∧ ∀ x ∈ nxL m, leP r x := by
  rw [next_fold]
  have up := nxL_up m
  match hL : nxL m, up, hz with
  | y :: L, up, hz =>
    have up' := List.pairwise_cons.mp up
    obtain ⟨r, h1, h2, h3, h4⟩ := nx_go L y up'.1 up'.2
    refine ⟨r, h1, ?_, fun x hx => ?_⟩
    · rcases h2 with q | q
      · rw [q]; exact List.mem_cons_self
      · exact List.mem_cons_of_mem _ q
    · rcases List.mem_cons.mp hx with q | q
      · rw [q]; exact h3
      · exact h4 x q
/-- of each bobbin that has one, its first -/
def firstsOf (gs : List (List Nat)) (i : Nat) : List (Nat × Nat) := (List.range i).filterMap fun b => (gs.getD b []).head?.map fun q => (q, b)
theorem firsts_succ (gs : List (List Nat)) (i : Nat) : firstsOf gs (i + 1) = firstsOf gs i ++ (match (gs.getD i []).head? with | none => [] | some q => [(q, i)]) := by
  unfold firstsOf
  rw [List.range_succ, List.filterMap_append]
  congr 1
  rw [List.filterMap_cons]
  cases e : (gs.getD i []).head? with
  | none => rfl
  | some q => rfl
theorem firsts_len (gs : List (List Nat)) (i : Nat) : (firstsOf gs i).length ≤ i := by
  unfold firstsOf
  exact Nat.le_trans (List.length_filterMap_le _ _) (by rw [List.length_range]; exact Nat.le_refl _)
theorem mem_firsts {gs : List (List Nat)} {i : Nat} {z : Nat × Nat} : z ∈ firstsOf gs i ↔ z.2 < i ∧ (gs.getD z.2 []).head? = some z.1 := by
  unfold firstsOf
  rw [List.mem_filterMap]
  constructor
  · rintro ⟨b, hb, e⟩
    cases h : (gs.getD b []).head? with
    | none => rw [h] at e; cases e
    | some q =>
      rw [h] at e
      have e : (q, b) = z := Option.some.inj e
      subst e
      exact ⟨List.mem_range.mp hb, h⟩
  · rintro ⟨h1, h2⟩
    exact ⟨z.2, List.mem_range.mpr h1, by rw [h2]; rfl⟩
theorem grp_at {m : Machine} {b : Nat} (hb : b < m.bobbins.length) : (grp m).getD b [] = Kp240.placesOf m (Kp240.bobbinAt m b) := by
  unfold grp Kp240.bobbinAt
  rw [List.getD_eq_getElem?_getD, List.getElem?_map, List.getElem?_eq_getElem hb, getD_lt hb]
  rfl
theorem grp_len (m : Machine) : (grp m).length = m.bobbins.length := by unfold grp; rw [List.length_map]
theorem mem_nxL {m : Machine} {z : Nat × Nat} : z ∈ nxL m ↔ z.2 < m.bobbins.length ∧ z.1 ∈ (grp m).getD z.2 [] := by
  unfold nxL Kp240.all
  rw [List.mem_flatMap]
  constructor
  · rintro ⟨b, hb, h⟩
    obtain ⟨p, hp, rfl⟩ := List.mem_map.mp h
    have hb := List.mem_range.mp hb
    exact ⟨hb, by rw [grp_at hb]; exact hp⟩
  · rintro ⟨h1, h2⟩
    rw [grp_at h1] at h2
    exact ⟨z.2, List.mem_range.mpr h1, List.mem_map.mpr ⟨z.1, h2, rfl⟩⟩
theorem head_mem {l : List Nat} {q : Nat} (h : l.head? = some q) : q ∈ l := List.mem_of_mem_head? h
theorem places_up {m : Machine} {x : Bobbin} (ok : BobOk x) : (Kp240.placesOf m x).Pairwise (· ≤ ·) := by
  unfold Kp240.placesOf
  rw [List.pairwise_map]
  refine ok.up.imp fun {a c} h => ?_
  show m.laid + a * 1000 / x.lay ≤ m.laid + c * 1000 / x.lay
  have := Nat.div_le_div_right (c := x.lay) (show a * 1000 ≤ c * 1000 by omega)
  omega
theorem head_le {l : List Nat} {q p : Nat} (up : l.Pairwise (· ≤ ·)) (h : l.head? = some q) (hp : p ∈ l) : q ≤ p := by
  cases l with
  | nil => cases h
  | cons a l =>
    have e : a = q := Option.some.inj h
    subst e
    rcases List.mem_cons.mp hp with z | z
    · rw [z]; exact Nat.le_refl _
    · exact (List.pairwise_cons.mp up).1 p z
theorem next_is {m : Machine} (ok : MOk m) {x : Nat × Nat} (hx : x ∈ firstsOf (grp m) (grp m).length) (hm : ∀ y ∈ firstsOf (grp m) (grp m).length, ¬ (y.1 < x.1 ∨ (y.1 = x.1 ∧ y.2 < x.2))) : Kp240.next m = some x := by
  obtain ⟨hx1, hx2⟩ := mem_firsts.mp hx
  rw [grp_len] at hx1
  have hxL : x ∈ nxL m := mem_nxL.mpr ⟨hx1, head_mem hx2⟩
  obtain ⟨r, hr, hrL, hle⟩ := next_some hxL
  rw [hr]
  obtain ⟨hr1, hr2⟩ := mem_nxL.mp hrL
  obtain ⟨f, hf⟩ : ∃ f, ((grp m).getD r.2 []).head? = some f := by
    cases e : (grp m).getD r.2 [] with
    | nil => rw [e] at hr2; cases hr2
    | cons a l => exact ⟨a, rfl⟩
  have hup : ((grp m).getD r.2 []).Pairwise (· ≤ ·) := by
    rw [grp_at hr1]
    exact places_up (ok.ok _ (by unfold Kp240.bobbinAt; rw [getD_lt hr1]; exact List.getElem_mem hr1))
  have h1 : f ≤ r.1 := head_le hup hf hr2
  have h2 := hle (f, r.2) (mem_nxL.mpr ⟨hr1, head_mem hf⟩)
  have h3 := hm (f, r.2) (mem_firsts.mpr ⟨by rw [grp_len]; exact hr1, hf⟩)
  have h4 := hle x hxL
  unfold leP at h2 h4
  dsimp only at h2 h3
  congr 1
  refine Prod.ext ?_ ?_ <;> omega
theorem next_no {m : Machine} (h : firstsOf (grp m) (grp m).length = []) : Kp240.next m = none := by
  have e : nxL m = [] := by
    refine List.eq_nil_iff_forall_not_mem.mpr fun z hz => ?_
    obtain ⟨h1, h2⟩ := mem_nxL.mp hz
    cases e : (grp m).getD z.2 [] with
    | nil => rw [e] at h2; cases h2
    | cons a l =>
      have : (a, z.2) ∈ firstsOf (grp m) (grp m).length := mem_firsts.mpr ⟨by rw [grp_len]; exact h1, by show ((grp m).getD z.2 []).head? = _; rw [e]; rfl⟩
      rw [h] at this
      cases this
  rw [next_fold, e]
  rfl
/-- a list of two numbers -/
def FL (H : Hp) (u : Addr) (z : Nat × Nat) : Prop := H u = some (.lst [vi z.1, vi z.2])
inductive FLs (H : Hp) : List Addr → List (Nat × Nat) → Prop
  | nil : FLs H [] []
  | cons {a : Addr} {as : List Addr} {z : Nat × Nat} {zs : List (Nat × Nat)} : FL H a z → FLs H as zs → FLs H (a :: as) (z :: zs)
theorem FLs.mono {H H' : Hp} (s : Same H H') : ∀ {as zs}, FLs H as zs → FLs H' as zs
  | _, _, .nil => .nil
  | _, _, .cons h t => .cons (s _ _ h) (FLs.mono s t)
theorem FLs.length {H : Hp} : ∀ {as zs}, FLs H as zs → as.length = zs.length
  | _, _, .nil => rfl
  | _, _, .cons _ t => congrArg (· + 1) (FLs.length t)
theorem FLs.get {H : Hp} : ∀ {as : List Addr} {zs : List (Nat × Nat)} {i : Nat} {a : Addr} {z : Nat × Nat}, FLs H as zs → as[i]? = some a → zs[i]? = some z → FL H a z
  | _, _, _, _, _, .nil, h, _ => by simp at h
  | _, _, 0, _, _, .cons h _, e, e2 => by simp at e e2; subst e e2; exact h
  | _, _, i + 1, _, _, .cons _ t, e, e2 => FLs.get (i := i) t (by simpa using e) (by simpa using e2)
theorem FLs.snoc {H : Hp} {a : Addr} {z : Nat × Nat} (h : FL H a z) : ∀ {as zs}, FLs H as zs → FLs H (as ++ [a]) (zs ++ [z])
  | _, _, .nil => .cons h .nil
  | _, _, .cons q t => .cons q (FLs.snoc h t)

section
variable {P : Program} {w : World} {K : PySem.W.Frag} {mg : Str → Option Value} {base : Heap} {CB CS : Addr}

abbrev sCNext : Stmt := top 57
theorem scCNext : FnScope ["strand", "numbers", "firsts", "b", "group"] ["strand", "numbers"] (defScope sCNext) := ⟨rfl, rfl, rfl, by decide +kernel, rfl, by decide +kernel, by decide +kernel⟩
def selNext (b : Bool) (_ : Machine) (args : List Nat) (c : Kp240.Call) : Prop := b = true ∧ c = .next
theorem ok_call_next (F : FunIs K mg "call_next" sCNext) (T : TxtC K mg CS CB) (G_groups : Mth P w K mg base 3 CS "groups" ["self"] (spGroups CS CB)) :
    Cal P w K mg base 4 "call_next" ["strand", "numbers"] (spCall CS CB selNext) := by
  refine cal_mk F scCNext (fun _ _ _ _ _ _ us hl => match us, hl with | [_, _], _ => rfl) spCall_len (fun f cdv A outer s H vs Q E hr h => ?_)
  obtain ⟨st, nu, l, p, as, js, b, m, args, c, rfl, S, ok, hgl, hnu, nnu, ⟨rfl, rfl⟩, k⟩ := h
  have ok := ok rfl
  have nd := scCNext.nd
  have hu := hu_of hr
  obtain ⟨dx, hH⟩ := S.ins
  refine ⟨_, (pss_cons (ps_setLc (i := 2) rfl nd rfl rfl (sw_true rfl rfl rfl (by decide +kernel)) (pi_enumK (K := K) rfl rfl T.b_enumerate (pa_cons (pmeth0 G_groups hr (pv 0) ) pa_nil)) (blkOk_by (own := [("b", 3), ("group", 4)]) (by rfl)) (fun _ _ _ _ _ => (pg_tupK (K := K) (n := 2) rfl rfl (pgs_cons (pg_name (i := 3) nd rfl (Or.inl rfl)) (pgs_cons (pg_name (i := 4) nd rfl (Or.inl rfl)) pgs_nil)))) (fun _ _ _ _ _ => (pts_one (pt_cmpR op_gt (pe_callB (call_len_seqK (K := K) rfl) (by rfl) T.b_len bo_len (pa_cons (pv 4) pa_nil)) pe_int (nomark _)))) (fun _ _ _ _ _ => (pe_lst (pa_cons (pe_ix (ix_listK (K := K) rfl) (pv 4) pe_int (fun _ _ => rfl)) (pa_cons (pv 3) pa_nil)))))
      (pss_one (ps_ret (pe_minLK (K := K) rfl rfl hu (by rfl) T.b_min (pa_cons (pv 2) pa_nil) (pk_cons (pe_lst (pa_cons (pgi T.g_TOO_FEW_JOINTS) pa_nil)) pk_nil))))), ?_⟩
  refine ⟨_, rfl, st, dx, _, rfl, hH, rfl, st, l, p, as, js, true, m, rfl, S, ok, fun H1 g s1 hg => ?_⟩
  obtain ⟨gas, hg0, hgs⟩ := hg
  obtain ⟨hgn, hg1⟩ := New.of hg0
  have lenG := hgs.length
  have lenGr : (grp m).length ≤ 4 := by rw [grp_len]; exact ok.four
  refine ⟨g, _, rfl, SqL.of hg1, fun D hD => ?_⟩
  refine lc_enum (K := K) (a := g) (xs := gas.map V.ref) (fun i H' => Same H1 H' ∧ ∃ us, H' D = some (.lst (us.map V.ref)) ∧ FLs (New (upd H1 D (.lst [])) H') us (firstsOf (grp m) i))
    ⟨Same.new hD, [], upd_same, .nil⟩ (fun i H' _ p => SqL.of (p.1 _ _ hg1)) ?_ ?_
  · rintro i y H2 T' hi ⟨s2, us, hd, hF⟩ hT
    obtain ⟨c, hc, rfl⟩ := refs_get hi
    obtain ⟨gc, hgc, hLc⟩ := hgs.getA hc
    have hLc := hLc.mono New.sub
    have sT : Same H2 (upd H2 T' (.tup [.int (i : Nat), .ref c])) := Same.new hT
    have s3 : Same H1 (upd H2 T' (.tup [.int (i : Nat), .ref c])) := s2.add hT
    have hd3 := sT _ _ hd
    have hF3 := hF.mono (New.step sT)
    have hlt : i < (grp m).length := (List.getElem?_eq_some_iff.mp hgc).1
    refine ⟨T', _, rfl, SqT.of upd_same, rfl, _, _, rfl, _, _, rfl, rfl, rfl, ?_⟩
    generalize upd H2 T' (.tup [.int (i : Nat), .ref c]) = H3 at s3 hd3 hF3 ⊢
    refine ⟨_, rfl, c, _, rfl, .inl (hLc.mono s3).sq, _, _, rfl, rfl, _, rfl, ?_⟩
    show if decide ((0 : Int) < (((vl gc).length : Nat) : Int)) = true then _ else _
    have fs := firsts_succ (grp m) i
    rw [getD_of hgc] at fs
    cases gc with
    | nil =>
      rw [decide_eq_false (by simp)]
      refine iteF ⟨s3, us, hd3, ?_⟩
      rw [fs]
      simpa using hF3
    | cons q gr =>
      rw [decide_eq_true (by simp)]
      refine iteT ⟨_, rfl, c, _, _, vi q, rfl, rfl, (hLc.mono s3).sq, at_of (j := 0) rfl rfl, _, rfl, (by show 2 ≤ sizeLine; decide), fun u hu => ?_⟩
      have su : Same H3 (upd H3 u (.lst [vi q, vi i])) := Same.new hu
      have nuD : u ≠ D := fun z => by rw [z, hd3] at hu; cases hu
      refine ⟨_, su _ _ hd3, ?_, (s3.trans su).put hD, us ++ [u], ?_, ?_⟩
      · rw [List.length_map, hF3.length]
        have := firsts_len (grp m) i
        exact line2 (by omega)
      · rw [upd_same, List.map_append]
        rfl
      · rw [fs, New.put (u := .lst []) upd_same]
        refine FLs.snoc ?_ (hF3.mono (New.step su))
        show New _ _ u = _
        rw [New.at (by rw [upd_ne nuD]; exact s3.free hu), upd_same]
  · rintro H2 ⟨s2, us, hd, hF⟩
    rw [List.length_map, lenG] at hF
    refine ⟨_, rfl, (by show 1 ≤ sizeLine; decide), fun dd hdd => ?_⟩
    have sd : Same H2 (upd H2 dd (.lst [V.int (-33)])) := Same.new hdd
    have s4 : Same H (upd H2 dd (.lst [V.int (-33)])) := (s1.trans s2).trans sd
    have lenF := hF.length
    have e0 : Kp240.step (stOf true m) .next = (some m, match Kp240.next m with | some z => ⟨(z.1 : Int), [(z.2 : Int)]⟩ | none => Kp240.say (-33)) := rfl
    refine ⟨D, dd, us, (firstsOf (grp m) (grp m).length).map fun z => ((z.1 : Int), (z.2 : Int)), rfl, rfl, SqL.of (sd _ _ hd), by rw [List.length_map]; exact lenF, fun i x z hx hz => ?_, fun e => ?_, fun i x z hx hz hmin => ?_⟩
    · rw [List.getElem?_map] at hz
      cases ez : (firstsOf (grp m) (grp m).length)[i]? with
      | none => rw [ez] at hz; cases hz
      | some z' =>
        rw [ez] at hz
        have e : ((z'.1 : Int), (z'.2 : Int)) = z := Option.some.inj hz
        subst e
        exact sd _ _ (New.sub _ _ (hF.get hx ez))
    · have ef : firstsOf (grp m) (grp m).length = [] := List.length_eq_zero_iff.mp (by rw [← lenF, e]; rfl)
      rw [next_no ef] at e0
      refine k _ dd l p as js true m (by rw [e0]; rfl) (S.mono s4) (Fr.same s4) ((s1.trans s2).free hdd) (S.new ((s1.trans s2).free hdd)) ?_
      rw [upd_same, e0]
      rfl
    · rw [List.getElem?_map] at hz
      cases ez : (firstsOf (grp m) (grp m).length)[i]? with
      | none => rw [ez] at hz; cases hz
      | some z' =>
        rw [ez] at hz
        have e : ((z'.1 : Int), (z'.2 : Int)) = z := Option.some.inj hz
        subst e
        have hn : Kp240.next m = some z' := next_is ok (List.mem_of_getElem? ez) fun y hy hlt => by
          obtain ⟨j, hj, ej⟩ := List.getElem_of_mem hy
          refine hmin j ((y.1 : Int), (y.2 : Int)) (by rw [List.getElem?_map, List.getElem?_eq_getElem hj, ej]; rfl) ?_
          unfold ltP
          dsimp only
          omega
        rw [hn] at e0
        have hx2 := hF.get hx ez
        obtain ⟨hxn, hx3⟩ := New.of hx2
        have hxH : H x = none := by
          have nxD : x ≠ D := fun z => by rw [z, upd_same] at hxn; cases hxn
          rw [upd_ne nxD] at hxn
          exact s1.free hxn
        refine k _ x l p as js true m (by rw [e0]; rfl) (S.mono s4) (Fr.same s4) hxH (S.new hxH) ?_
        rw [sd _ _ hx3, e0]
        rfl
end
end LS

namespace LS
open PySem PySem.Spec PyProof.Rows L2
open Kp240 (Bobbin Machine)

theorem shortest_le : ∀ {l : List Nat} {x : Nat}, x ∈ l → ∃ y, Kp240.shortest l = some y ∧ y ≤ x
  | [], x, h => by simp at h
  | a :: l, x, h => by
    rw [Kp240.shortest]
    rcases List.mem_cons.mp h with e | e
    · subst e
      cases Kp240.shortest l with
      | none => exact ⟨_, rfl, Nat.le_refl _⟩
      | some y => exact ⟨_, rfl, Nat.min_le_left _ _⟩
    · obtain ⟨y, hy, hle⟩ := shortest_le e
      rw [hy]
      exact ⟨_, rfl, Nat.le_trans (Nat.min_le_right _ _) hle⟩
theorem lasts_le {m : Machine} {x : Bobbin} (h : x ∈ m.bobbins) : Kp240.lasts m ≤ Kp240.strandOf x x.left := by
  unfold Kp240.lasts
  obtain ⟨y, hy, hle⟩ := shortest_le (List.mem_map.mpr ⟨x, h, rfl⟩ : Kp240.strandOf x x.left ∈ m.bobbins.map fun x => Kp240.strandOf x x.left)
  rw [hy]
  exact hle
theorem wire_le {x : Bobbin} (ok : BobOk x) {n : Nat} : n ≤ Kp240.strandOf x x.left ↔ Kp240.wireFor x n ≤ x.left := by
  unfold Kp240.strandOf Kp240.wireFor
  have h0 : 0 < x.lay := by have := ok.lo; omega
  rw [Nat.le_div_iff_mul_le h0]
  generalize n * x.lay = a
  omega
/-! ### a run, bobbin by bobbin -/
def runTo (m : Machine) (n i : Nat) : Machine := { m with bobbins := (m.bobbins.take i).map (fun x => Kp240.ranBobbin x n) ++ m.bobbins.drop i, gone := m.gone ++ (m.bobbins.take i).flatMap (fun x => Kp240.cameBy m x n) }
theorem runTo_zero (m : Machine) (n : Nat) : runTo m n 0 = m := by
  unfold runTo
  simp
theorem runTo_get {m : Machine} {n i : Nat} {x : Bobbin} (h : m.bobbins[i]? = some x) : (runTo m n i).bobbins[i]? = some x := by
  have hi := (List.getElem?_eq_some_iff.mp h).1
  show ((m.bobbins.take i).map (fun x => Kp240.ranBobbin x n) ++ m.bobbins.drop i)[i]? = _
  rw [List.getElem?_append_right (by rw [List.length_map, List.length_take]; omega), List.length_map, List.length_take, Nat.min_eq_left (by omega), List.getElem?_drop]
  simpa using h
theorem runTo_step {m : Machine} {n i : Nat} {x : Bobbin} (h : m.bobbins[i]? = some x) : ({ runTo m n i with bobbins := (runTo m n i).bobbins.set i (Kp240.ranBobbin x n), gone := (runTo m n i).gone ++ Kp240.cameBy m x n } : Machine) = runTo m n (i + 1) := by
  have hi := (List.getElem?_eq_some_iff.mp h).1
  have e1 : ((m.bobbins.take i).map (fun x => Kp240.ranBobbin x n) ++ m.bobbins.drop i).set i (Kp240.ranBobbin x n) = (m.bobbins.take (i + 1)).map (fun x => Kp240.ranBobbin x n) ++ m.bobbins.drop (i + 1) := by
    rw [List.set_append_right _ _ (by rw [List.length_map, List.length_take]; omega), List.length_map, List.length_take, Nat.min_eq_left (by omega), Nat.sub_self, drop_get h, take_snoc h, List.map_append]
    simp
  have e2 : (m.gone ++ (m.bobbins.take i).flatMap (fun x => Kp240.cameBy m x n)) ++ Kp240.cameBy m x n = m.gone ++ (m.bobbins.take (i + 1)).flatMap (fun x => Kp240.cameBy m x n) := by
    rw [take_snoc h, List.flatMap_append, List.append_assoc]
    simp
  unfold runTo
  simp only [e1, e2]
theorem runTo_all (m : Machine) (n : Nat) : ({ runTo m n m.bobbins.length with laid := m.laid + n } : Machine) = Kp240.ran m n := by
  unfold runTo Kp240.ran
  simp
theorem came_len {m : Machine} {x : Bobbin} (ok : BobOk x) (n : Nat) : (Kp240.cameBy m x n).length ≤ 4 := by
  unfold Kp240.cameBy
  rw [List.length_map]
  exact Nat.le_trans (List.length_filter_le _ _) ok.few
theorem flatMap_len {α : Type} {f : α → List Nat} : ∀ {l : List α}, (∀ x ∈ l, (f x).length ≤ 4) → (l.flatMap f).length ≤ 4 * l.length
  | [], _ => by simp
  | a :: l, h => by
    have := flatMap_len (f := f) (l := l) fun x hx => h x (List.mem_cons_of_mem _ hx)
    have := h a List.mem_cons_self
    simp only [List.flatMap_cons, List.length_append, List.length_cons]
    omega
theorem runTo_gone {m : Machine} (ok : MOk m) (n i : Nat) : (runTo m n i).gone.length ≤ m.gone.length + 16 := by
  show (m.gone ++ (m.bobbins.take i).flatMap _).length ≤ _
  rw [List.length_append]
  have h1 := flatMap_len (f := fun x => Kp240.cameBy m x n) (l := m.bobbins.take i) fun x hx => came_len (ok.ok x (List.mem_of_mem_take hx)) n
  have h2 : (m.bobbins.take i).length ≤ m.bobbins.length := List.length_take_le' _ _
  have := ok.four
  omega
/-- what came by is told anew -/
theorem StAt.setGone {CS CB : Addr} {H : Hp} {st l p : Addr} {bg : Bool} {m : Machine} {as js : List Addr} {g : List Nat} (S : StAt CS CB H st bg m l p as js) :
    StAt CS CB (upd H p (.lst (vl g))) st bg { m with gone := g } l p as js ∧ Fr H (upd H p (.lst (vl g))) (own st l p as js) (own st l p as js) := by
  obtain ⟨nsa, nsl, nsp, nsj, naa⟩ := st_ne S
  have k : ∀ c, c ≠ p → ∀ o, H c = some o → upd H p (.lst (vl g)) c = some o := fun c hc o e => by rw [upd_ne hc]; exact e
  refine ⟨⟨let ⟨dx, h⟩ := S.ins; ⟨dx, k st nsp _ h⟩, k l S.lp _ S.lst, upd_same, S.lp, S.nd, ?_, S.jl, S.jp⟩, ⟨fun c u e hc => k c (fun z => hc (by rw [z]; simp [own])) u e, fun c hc => .inl hc, fun c h => ?_⟩⟩
  · refine S.bobs.keep fun c hc o e => k c (fun z => ?_) o e
    rcases List.mem_append.mp hc with y | y
    · exact (naa c y).2.1 z
    · exact S.jp (by rw [← z]; exact y)
  · by_cases z : c = p
    · rw [z, upd_same] at h; cases h
    · rw [upd_ne z] at h; exact h

section
variable {P : Program} {w : World} {K : PySem.W.Frag} {mg : Str → Option Value} {base : Heap} {CB CS : Addr}

abbrev sLay : Stmt := inClass (top 39) 7
theorem scLay : FnScope ["self", "metres", "bobbin", "taken"] ["self", "metres"] (defScope sLay) := ⟨rfl, rfl, rfl, by decide +kernel, rfl, by decide +kernel, by decide +kernel⟩
inductive spLay (CS CB : Addr) (vs : List V) (H : Hp) (Q : VK) (_E : XK) : Prop
  | mk (st l p : Addr) (as js : List Addr) (b : Bool) (m : Machine) (n : Nat) (_ : vs = [.ref st, vi n]) (_ : StAt CS CB H st b m l p as js) (_ : MOk m) (_ : m.gone.length ≤ 500000) (_ : n ≤ Kp240.lasts m) (_ : ∀ (H' : Hp) (js' : List Addr), StAt CS CB H' st b (Kp240.ran m n) l p as js' → Fr H H' (own st l p as js) (own st l p as js') → Q .non H') : spLay CS CB vs H Q _E
theorem ok_lay (F : MethIs K CS "lay_strand" "Strand.lay_strand" sLay) (T : TxtS K mg CS CB) (G_wire_for : Mth P w K mg base 1 CB "wire_for" ["self", "metres"] (spWireFor CB)) (G_places_within : Mth P w K mg base 2 CB "places_within" ["self", "laid", "metres"] (spPlacesWithin CB)) (G_shorten : Mth P w K mg base 1 CB "shorten" ["self", "metres"] (spShorten CB)) :
    Mth P w K mg base 3 CS "lay_strand" ["self", "metres"] (spLay CS CB) := by
  refine mth_mk F T.cS scLay (fun _ _ _ _ _ _ us hl => match us, hl with | [_, _], _ => rfl) (fun vs H Q E h => ?_) (fun f cdv A outer s H vs Q E hr h => ?_)
  · obtain ⟨st, l, p, as, js, b, m, n, rfl, _⟩ := h
    rfl
  · obtain ⟨st, l, p, as, js, b, m, n, rfl, S, ok, hgl, hn, k⟩ := h
    have nd := scLay.nd
    obtain ⟨dx, hH⟩ := S.ins
    have lenA := S.bobs.length.1
    refine ⟨_, (pss_cons (ps_for PassesOwn.never rfl (pi_listK (K := K) rfl (pe_fldK (K := K) rfl (pv 0) rfl)) (pg_name (i := 2) nd rfl (Or.inl rfl)) (pss_cons (ps_set (i := 3) nd rfl (Or.inl rfl) (pmeth G_wire_for hr (pv 2) (pa_cons (pv 1) pa_nil)))
      (pss_cons (ps_expr (pe_bmK (K := K) rfl PySem.F.plainAttrs_list PySem.F.slot_list_extend PySem.F.type_list_extend mt_extend (pe_fldK (K := K) rfl (pv 0) rfl) (pa_cons (pmeth G_places_within hr (pv 2) (pa_cons (pe_fldK (K := K) rfl (pv 0) rfl) (pa_cons (pv 3) pa_nil))) pa_nil)))
      (pss_one (ps_expr (pmeth G_shorten hr (pv 2) (pa_cons (pv 3) pa_nil)))))))
      (pss_one (ps_fldaugK (K := K) rfl (pv 0) (pv 1) in_add))), ?_⟩
    refine ⟨_, rfl, st, CS, dx, _, _, rfl, hH, T.cS, T.n_bobbins, st_bobbins, l, rfl, ⟨_, SqL.of S.lst⟩, for_list (K := K) (a := l) (xs := as.map V.ref) (fun i σ H' => (∃ v2 v3 : Option V, σ = [some (.ref st), some (vi n), v2, v3]) ∧ ∃ js', StAt CS CB H' st b (runTo m n i) l p as js' ∧ Fr H H' (own st l p as js) (own st l p as js'))
      ⟨⟨none, none, rfl⟩, js, by rw [runTo_zero]; exact S, Fr.same Same.rfl'⟩ (fun i σ H' _ p => let ⟨_, _, S', _⟩ := p; SqL.of S'.lst) ?_ ?_⟩
    · rintro i y σ H1 hi ⟨⟨v2, v3, rfl⟩, js1, S1, f1⟩
      obtain ⟨a, ha, rfl⟩ := refs_get hi
      have hi' : i < m.bobbins.length := by rw [← lenA]; exact (List.getElem?_eq_some_iff.mp ha).1
      obtain ⟨x, hx⟩ : ∃ x, m.bobbins[i]? = some x := ⟨_, List.getElem?_eq_getElem hi'⟩
      have okx := ok.ok x (List.mem_of_getElem? hx)
      have few := okx.few
      have hle : Kp240.wireFor x n ≤ x.left := (wire_le okx).mp (Nat.le_trans hn (lasts_le (List.mem_of_getElem? hx)))
      obtain ⟨a', j, ha', hj, B⟩ := S1.bobs.get (runTo_get (n := n) hx)
      rw [ha] at ha'
      cases ha'
      obtain ⟨dB, hB⟩ := B.ins
      obtain ⟨dx1, hH1⟩ := S1.ins
      -- taken = bobbin.wire_for(metres)
      refine ⟨_, rfl, a, dB, _, rfl, hB, rfl, _, rfl, a, j, x, n, rfl, B, okx, ?_⟩
      -- self.passed.extend(bobbin.places_within(self.laid, taken))
      refine ⟨_, rfl, st, CS, dx1, _, _, rfl, hH1, T.cS, T.n_passed, st_passed, .inl ⟨rfl, _, S1.gone.sq⟩, _, rfl, a, dB, _, rfl, hB, rfl, _, rfl, st, CS, dx1, _, _, rfl, hH1, T.cS, T.n_laid, st_laid, _, rfl, a, j, x, m.laid, Kp240.wireFor x n, rfl, B, okx, fun H2 r s2 hr2 hLr => ?_⟩
      have S2 := S1.mono s2
      have f2 := f1.trans (Fr.same (o := own st l p as js1) s2)
      have hLr : LN H2 r (Kp240.cameBy m x n) := hLr
      have lg := runTo_gone ok n i
      have lc := came_len (m := m) okx n
      refine ⟨p, r, _, _, rfl, rfl, S2.gone, hLr, (by rw [List.length_map, List.length_map]; exact line1 (by omega)), ?_⟩
      rw [← List.map_append]
      obtain ⟨S3, f3⟩ := S2.setGone (g := (runTo m n i).gone ++ Kp240.cameBy m x n)
      have f3 := f2.trans f3
      obtain ⟨a3, j3, ha3, hj3, B3⟩ := S3.bobs.get (show ({ runTo m n i with gone := (runTo m n i).gone ++ Kp240.cameBy m x n } : Machine).bobbins[i]? = some x from runTo_get hx)
      rw [ha] at ha3
      cases ha3
      obtain ⟨dB3, hB3⟩ := B3.ins
      generalize upd H2 p (.lst (vl ((runTo m n i).gone ++ Kp240.cameBy m x n))) = H3 at S3 f3 hB3 B3 ⊢
      -- bobbin.shorten(taken)
      refine ⟨_, rfl, a, dB3, _, rfl, hB3, rfl, _, rfl, a, j3, x, Kp240.wireFor x n, rfl, B3, by omega, hle, fun H4 ⟨j4, B4, hj4, fr4⟩ => ?_⟩
      obtain ⟨S4, f4⟩ := S3.setBob ha hj3 B4 (.inr hj4) fr4
      refine ⟨⟨_, _, rfl⟩, _, ?_, f3.trans f4⟩
      rw [← runTo_step hx]
      exact S4
    · rintro σ H1 ⟨⟨v2, v3, rfl⟩, js1, S1, f1⟩
      rw [List.length_map, lenA] at S1
      obtain ⟨dx1, hH1⟩ := S1.ins
      refine ⟨_, rfl, st, CS, dx1, _, _, rfl, hH1, T.cS, T.n_laid, st_laid, _, rfl, _, _, rfl, rfl, dx1, _, hH1, (by show 6 < 1000; decide), ?_⟩
      obtain ⟨S2, f2⟩ := S1.setF (dx := dx1) (bg' := b) (m' := Kp240.ran m n) (by rw [← runTo_all]) (by rw [← runTo_all])
      have e : ((m.laid : Int) + (n : Int)) = ((m.laid + n : Nat) : Int) := by omega
      show Q V.non (upd H1 st (HO.ins CS dx1 (putF "laid" (V.int ((m.laid : Int) + (n : Int))) (stF b m.gap l m.laid p m.cut))))
      rw [e]
      exact k _ _ S2 (f1.trans f2)
end
end LS

namespace LS
open PySem PySem.Spec PyProof.Rows L2
open Kp240 (Bobbin Machine)

/-- what a run is refused with -/
def refV (m : Machine) (n : Nat) : V := if n = 0 ∨ Kp240.LONG < n then .int (-22) else if Kp240.lasts m < n then .int (-12) else if Kp240.fine m m.bobbins = false then .int (-33) else .non
section
variable {P : Program} {w : World} {K : PySem.W.Frag} {mg : Str → Option Value} {base : Heap} {CB CS : Addr}

abbrev sRefusal : Stmt := top 52
theorem scRefusal : FnScope ["strand", "metres"] ["strand", "metres"] (defScope sRefusal) := ⟨rfl, rfl, rfl, by decide +kernel, rfl, by decide +kernel, by decide +kernel⟩
inductive spRefusal (CS CB : Addr) (vs : List V) (H : Hp) (Q : VK) (_E : XK) : Prop
  | mk (st l p : Addr) (as js : List Addr) (b : Bool) (m : Machine) (n : Nat) (_ : vs = [.ref st, vi n]) (_ : StAt CS CB H st b m l p as js) (_ : MOk m) (_ : ∀ H' : Hp, Same H H' → Q (refV m n) H') : spRefusal CS CB vs H Q _E
theorem ok_refusal (F : FunIs K mg "refusal_of_run" sRefusal) (T : TxtC K mg CS CB) (G_lasts_for : Mth P w K mg base 2 CS "lasts_for" ["self"] (spSLasts CS CB)) (G_groups : Mth P w K mg base 3 CS "groups" ["self"] (spGroups CS CB)) (G_is_fine : Mth P w K mg base 6 CS "is_fine" ["self", "groups"] (spIsFine CS CB)) :
    Cal P w K mg base 7 "refusal_of_run" ["strand", "metres"] (spRefusal CS CB) := by
  refine cal_mk F scRefusal (fun _ _ _ _ _ _ us hl => match us, hl with | [_, _], _ => rfl) (fun vs H Q E h => ?_) (fun f cdv A outer s H vs Q E hr h => ?_)
  · obtain ⟨st, l, p, as, js, b, m, n, rfl, _⟩ := h
    rfl
  · obtain ⟨st, l, p, as, js, b, m, n, rfl, S, ok, k⟩ := h
    have nd := scRefusal.nd
    obtain ⟨dx, hH⟩ := S.ins
    refine ⟨_, (pss_cons (ps_if (PW.pt (pw_or (pt_cmpR op_lt (pv 1) pe_int (nomark _)) (pw_or1 (pt_cmpR op_gt (pv 1) (pgi T.g_MOST_RUN) (nomark _))))) (pss_one (ps_ret (pgi T.g_OUT_OF_BOUNDS))) pss_nil)
      (pss_cons (ps_if (pt_cmpR op_gt (pv 1) (pmeth0 G_lasts_for hr (pv 0) ) (nomark _)) (pss_one (ps_ret (pgi T.g_TOO_LITTLE_LEFT))) pss_nil)
      (pss_cons (ps_if (pt_not (pt_val (pmeth G_is_fine hr (pv 0) (pa_cons (pmeth0 G_groups hr (pv 0) ) pa_nil)))) (pss_one (ps_ret (pgi T.g_NOT_FINE))) pss_nil)
      (pss_one (ps_ret pe_non))))), ?_⟩
    refine ⟨_, rfl, _, _, rfl, rfl, _, rfl, ?_⟩
    show if decide ((n : Int) < (1 : Int)) = true then _ else _
    by_cases h1 : n = 0
    · rw [decide_eq_true (show (n : Int) < (1 : Int) by omega)]
      have k1 := k H Same.rfl'
      unfold refV at k1
      rw [if_pos (.inl h1)] at k1
      exact iteT (iteT k1)
    rw [decide_eq_false (show ¬ (n : Int) < (1 : Int) by omega)]
    refine iteF ⟨_, rfl, _, _, rfl, rfl, _, rfl, ?_⟩
    show if decide ((100000 : Int) < (n : Int)) = true then _ else _
    by_cases h2 : 100000 < n
    · rw [decide_eq_true (show (100000 : Int) < (n : Int) by omega)]
      have k1 := k H Same.rfl'
      unfold refV at k1
      rw [if_pos (.inr h2)] at k1
      exact iteT k1
    rw [decide_eq_false (show ¬ (100000 : Int) < (n : Int) by omega)]
    have hno : ¬ (n = 0 ∨ Kp240.LONG < n) := by unfold Kp240.LONG; omega
    refine iteF ?_
    dsimp only [tNext]
    refine ⟨_, rfl, _, rfl, st, dx, _, rfl, hH, rfl, st, l, p, as, js, b, m, rfl, S, ok, fun H1 s1 => ?_⟩
    refine ⟨_, _, rfl, rfl, _, rfl, ?_⟩
    show if decide ((Kp240.lasts m : Int) < (n : Int)) = true then _ else _
    by_cases h3 : Kp240.lasts m < n
    · rw [decide_eq_true (show (Kp240.lasts m : Int) < (n : Int) by omega)]
      have k1 := k H1 s1
      unfold refV at k1
      rw [if_neg hno, if_pos h3] at k1
      exact iteT k1
    rw [decide_eq_false (show ¬ (Kp240.lasts m : Int) < (n : Int) by omega)]
    refine iteF ?_
    dsimp only [tNext]
    have S1 := S.mono s1
    refine ⟨_, rfl, st, dx, _, rfl, s1 _ _ hH, rfl, _, rfl, st, dx, _, rfl, s1 _ _ hH, rfl, st, l, p, as, js, b, m, rfl, S1, ok, fun H2 r2 s2 hg => ?_⟩
    refine ⟨st, l, p, r2, as, js, b, m, grp m, rfl, S1.mono s2, hg.mono New.sub, (few_grp ok).1, (few_grp ok).2, fun H3 s3 => ⟨_, rfl, ?_⟩⟩
    have eb : (badOf m.gap (grp m) m.gone).isEmpty = Kp240.fine m m.bobbins := fine_is m m.bobbins
    have k1 := k H3 ((s1.trans s2).trans s3)
    unfold refV at k1
    rw [if_neg hno, if_neg h3] at k1
    rw [eb]
    cases hf : Kp240.fine m m.bobbins with
    | true =>
      rw [hf, if_neg (by decide)] at k1
      exact iteF k1
    | false =>
      rw [hf, if_pos rfl] at k1
      exact iteT k1

abbrev sCRun : Stmt := top 53
theorem scCRun : FnScope ["strand", "numbers", "refusal"] ["strand", "numbers"] (defScope sCRun) := ⟨rfl, rfl, rfl, by decide +kernel, rfl, by decide +kernel, by decide +kernel⟩
def selRun (b : Bool) (_ : Machine) (args : List Nat) (c : Kp240.Call) : Prop := b = true ∧ ∃ n, args = [n] ∧ c = .run n
theorem ok_call_run (F : FunIs K mg "call_run" sCRun) (T : TxtC K mg CS CB) (G_refusal_of_run : Cal P w K mg base 7 "refusal_of_run" ["strand", "metres"] (spRefusal CS CB)) (G_lay_strand : Mth P w K mg base 3 CS "lay_strand" ["self", "metres"] (spLay CS CB)) :
    Cal P w K mg base 8 "call_run" ["strand", "numbers"] (spCall CS CB selRun) := by
  refine cal_mk F scCRun (fun _ _ _ _ _ _ us hl => match us, hl with | [_, _], _ => rfl) spCall_len (fun f cdv A outer s H vs Q E hr h => ?_)
  obtain ⟨st, nu, l, p, as, js, b, m, args, c, rfl, S, ok, hgl, hnu, nnu, ⟨rfl, n, rfl, rfl⟩, k⟩ := h
  have ok := ok rfl
  have hgl := hgl rfl
  have nd := scCRun.nd
  refine ⟨_, (pss_cons (ps_set (i := 2) nd rfl (Or.inl rfl) (pcall G_refusal_of_run hr rfl (pa_cons (pv 0) (pa_cons (pe_ix (ix_listK (K := K) rfl) (pv 1) pe_int (fun _ _ => rfl)) pa_nil))))
      (pss_cons (ps_if (pt_cmpR op_notN (pv 2) pe_non (nomark _)) (pss_one (ps_ret (pe_lst (pa_cons (pv 2) pa_nil)))) pss_nil)
      (pss_cons (ps_expr (pmeth G_lay_strand hr (pv 0) (pa_cons (pe_ix (ix_listK (K := K) rfl) (pv 1) pe_int (fun _ _ => rfl)) pa_nil)))
      (pss_one (ps_ret (pe_lst (pa_cons (pe_fldK (K := K) rfl (pv 0) rfl) pa_nil))))))), ?_⟩
  refine ⟨_, rfl, _, rfl, nu, _, _, vi n, rfl, rfl, hnu.sq, at_of (j := 0) rfl rfl, st, l, p, as, js, true, m, n, rfl, S, ok, fun H1 s1 => ?_⟩
  have S1 := S.mono s1
  obtain ⟨dx, hH⟩ := S1.ins
  have e0 : Kp240.step (stOf true m) (.run n) = Kp240.step (some m) (.run n) := rfl
  rw [step_run] at e0
  unfold refV
  by_cases h1 : n = 0 ∨ Kp240.LONG < n
  · rw [if_pos h1] at e0 ⊢
    refine ⟨_, rfl, rfl, _, rfl, ?_⟩
    refine iteT ⟨_, rfl, (by show 1 ≤ sizeLine; decide), fun r hr => ?_⟩
    exact ans_same (a := [-22]) S s1 hr k (by rw [e0]; rfl) (by rw [e0]; rfl)
  rw [if_neg h1] at e0 ⊢
  by_cases h2 : Kp240.lasts m < n
  · rw [if_pos h2] at e0 ⊢
    refine ⟨_, rfl, rfl, _, rfl, ?_⟩
    refine iteT ⟨_, rfl, (by show 1 ≤ sizeLine; decide), fun r hr => ?_⟩
    exact ans_same (a := [-12]) S s1 hr k (by rw [e0]; rfl) (by rw [e0]; rfl)
  rw [if_neg h2] at e0 ⊢
  by_cases h3 : Kp240.fine m m.bobbins = false
  · rw [if_pos h3] at e0 ⊢
    refine ⟨_, rfl, rfl, _, rfl, ?_⟩
    refine iteT ⟨_, rfl, (by show 1 ≤ sizeLine; decide), fun r hr => ?_⟩
    exact ans_same (a := [-33]) S s1 hr k (by rw [e0]; rfl) (by rw [e0]; rfl)
  rw [if_neg h3] at e0 ⊢
  refine ⟨_, rfl, rfl, _, rfl, ?_⟩
  refine iteF ?_
  dsimp only [tNext]
  refine ⟨_, rfl, st, dx, _, rfl, hH, rfl, _, rfl, nu, _, _, vi n, rfl, rfl, (hnu.mono s1).sq, at_of (j := 0) rfl rfl, st, l, p, as, js, true, m, n, rfl, S1, ok, hgl, by omega, fun H2 js2 S2 f2 => ?_⟩
  obtain ⟨dx2, hH2⟩ := S2.ins
  refine ⟨_, rfl, st, CS, dx2, _, _, rfl, hH2, T.cS, T.n_laid, st_laid, (by show 1 ≤ sizeLine; decide), fun r hr => ?_⟩
  exact ans_new (a := [((m.laid + n : Nat) : Int)]) S2 ((Fr.same s1).trans f2) hr k (by rw [e0]; rfl) (by rw [e0]; rfl)

abbrev sCMay : Stmt := top 54
theorem scCMay : FnScope ["strand", "numbers", "refusal"] ["strand", "numbers"] (defScope sCMay) := ⟨rfl, rfl, rfl, by decide +kernel, rfl, by decide +kernel, by decide +kernel⟩
def selMay (b : Bool) (_ : Machine) (args : List Nat) (c : Kp240.Call) : Prop := b = true ∧ ∃ n, args = [n] ∧ c = .may n
theorem ok_call_may (F : FunIs K mg "call_may" sCMay) (T : TxtC K mg CS CB) (G_refusal_of_run : Cal P w K mg base 7 "refusal_of_run" ["strand", "metres"] (spRefusal CS CB)) :
    Cal P w K mg base 8 "call_may" ["strand", "numbers"] (spCall CS CB selMay) := by
  refine cal_mk F scCMay (fun _ _ _ _ _ _ us hl => match us, hl with | [_, _], _ => rfl) spCall_len (fun f cdv A outer s H vs Q E hr h => ?_)
  obtain ⟨st, nu, l, p, as, js, b, m, args, c, rfl, S, ok, hgl, hnu, nnu, ⟨rfl, n, rfl, rfl⟩, k⟩ := h
  have ok := ok rfl
  have nd := scCMay.nd
  refine ⟨_, (pss_cons (ps_set (i := 2) nd rfl (Or.inl rfl) (pcall G_refusal_of_run hr rfl (pa_cons (pv 0) (pa_cons (pe_ix (ix_listK (K := K) rfl) (pv 1) pe_int (fun _ _ => rfl)) pa_nil))))
      (pss_cons (ps_if (pt_cmpR op_eq (pv 2) (pgi T.g_OUT_OF_BOUNDS) (nomark _)) (pss_one (ps_ret (pe_lst (pa_cons (pgi T.g_OUT_OF_BOUNDS) pa_nil)))) pss_nil)
      (pss_one (ps_ret (pe_lst (pa_cons (pe_ifExp (pt_cmpR op_isN (pv 2) pe_non (nomark _)) pe_int pe_int) pa_nil)))))), ?_⟩
  refine ⟨_, rfl, _, rfl, nu, _, _, vi n, rfl, rfl, hnu.sq, at_of (j := 0) rfl rfl, st, l, p, as, js, true, m, n, rfl, S, ok, fun H1 s1 => ?_⟩
  have e0 : Kp240.step (stOf true m) (.may n) = Kp240.step (some m) (.may n) := rfl
  rw [step_may] at e0
  unfold refV
  by_cases h1 : n = 0 ∨ Kp240.LONG < n
  · rw [if_pos h1] at e0 ⊢
    refine ⟨_, rfl, rfl, _, rfl, ?_⟩
    show if decide (V.int (-22) = V.int (-22)) = true then _ else _
    rw [decide_eq_true rfl]
    refine iteT ⟨(by show 1 ≤ sizeLine; decide), fun r hr => ?_⟩
    exact ans_same (a := [-22]) S s1 hr k (by rw [e0]; rfl) (by rw [e0]; rfl)
  rw [if_neg h1] at e0 ⊢
  by_cases h2 : Kp240.lasts m < n
  · rw [if_pos h2]
    rw [decide_eq_false (show ¬ n ≤ Kp240.lasts m by omega), Bool.false_and, if_neg Bool.false_ne_true] at e0
    refine ⟨_, rfl, rfl, _, rfl, ?_⟩
    show if decide (V.int (-12) = V.int (-22)) = true then _ else _
    rw [decide_eq_false (by intro z; injection z with z; omega)]
    refine iteF ?_
    dsimp only [tNext]
    refine ⟨_, rfl, rfl, _, rfl, ?_⟩
    refine iteF ⟨(by show 1 ≤ sizeLine; decide), fun r hr => ?_⟩
    exact ans_same (a := [0]) S s1 hr k (by rw [e0]; rfl) (by rw [e0]; rfl)
  rw [if_neg h2]
  rw [decide_eq_true (show n ≤ Kp240.lasts m by omega), Bool.true_and] at e0
  cases h3 : Kp240.fine m m.bobbins with
  | false =>
    rw [h3, if_neg Bool.false_ne_true] at e0
    rw [if_pos rfl]
    refine ⟨_, rfl, rfl, _, rfl, ?_⟩
    show if decide (V.int (-33) = V.int (-22)) = true then _ else _
    rw [decide_eq_false (by intro z; injection z with z; omega)]
    refine iteF ?_
    dsimp only [tNext]
    refine ⟨_, rfl, rfl, _, rfl, ?_⟩
    refine iteF ⟨(by show 1 ≤ sizeLine; decide), fun r hr => ?_⟩
    exact ans_same (a := [0]) S s1 hr k (by rw [e0]; rfl) (by rw [e0]; rfl)
  | true =>
    rw [h3, if_pos rfl] at e0
    rw [if_neg (by decide)]
    refine ⟨_, rfl, rfl, _, rfl, ?_⟩
    show if decide (V.non = V.int (-22)) = true then _ else _
    rw [decide_eq_false (by intro z; cases z)]
    refine iteF ?_
    dsimp only [tNext]
    refine ⟨_, rfl, rfl, _, rfl, ?_⟩
    refine iteT ⟨(by show 1 ≤ sizeLine; decide), fun r hr => ?_⟩
    exact ans_same (a := [1]) S s1 hr k (by rw [e0]; rfl) (by rw [e0]; rfl)
end
end LS

namespace LS
open PySem PySem.Spec PyProof.Rows L2
open Kp240 (Bobbin Machine)

/-! ### a call of a def that an expression tells -/
def tCallX (OK : Addr → Sp → Prop) (te : TE) (t : TA) : TE := fun σ H Q => te σ H fun x H1 => ∃ f sp, x = .ref f ∧ OK f sp ∧ t σ H1 fun vs H2 => sp vs H2 Q E0
theorem pcallx {X : Cx} {k k' : Nat} {OK : Addr → Sp → Prop} {e o i : Expr} {es : List Expr} {t : TA} {te : TE} {p pos : Pos} (hOK : ∀ f sp, OK f sp → ∃ (x : Str) (ps : List Str), Cal X.prog X.w X.K X.mg X.base k x ps sp ∧ X.mg x = some (.ref f)) (hr : Room k' X.A) (hf : PE X (.Subscript o i p) te) (ha : PA X (e :: es) t)
    (hk : k ≤ k' := by first | decide | omega) (hx : Passes CX0 X E0 := by exact pass0)
    (he : starEach (e :: es) X.env = (false, eval e X.env) :: starEach es X.env := by rfl) (hpl : (backTo pos (starEach es X.env)).any (·.1) = false := by rfl) :
    PE X (.Call (.Subscript o i p) (e :: es) [] pos) (tCallX OK te t) := by
  intro pins s σ H Q I h
  have arm : eval (.Call (.Subscript o i p) (e :: es) [] pos) X.env = (do callWith pos (← eval (.Subscript o i p) X.env) [] (backTo pos (starEach (e :: es) X.env)) (backToKw pos (keywordEach [] X.env))) := rfl
  rw [arm]
  refine wpAny_bind (thn (hf pins s σ H _ I h) fun u s1 ⟨x, H1, I1, rx, f, sp, ex, ok, q⟩ => ?_)
  subst ex
  obtain rfl : u = Value.ref f := rx
  obtain ⟨y, ps, G, hm⟩ := hOK f sp ok
  obtain ⟨f', fd, F, hm', kp, b⟩ := G.ex
  rw [hm] at hm'
  cases hm'
  refine PySem.W.callWith_K (h₀ := X.base) I.ok.mod.kin kp (thn (ha pos pins s1 σ H1 _ I1 q) fun us s2 ⟨vs, H2, I2, r, q2⟩ => ⟨I2.kIn, ?_⟩) he hpl
  exact run_fn F (hr.mono hk) b .nil hx I2 r (by rw [List.append_nil]; exact q2)

/-- a call by its number and its numbers -/
inductive Dec : Nat → List Nat → Kp240.Call → Prop
  | begin_ (g : Nat) : Dec 0 [g] (.begin_ g)
  | bobbin (y n : Nat) : Dec 1 [y, n] (.bobbin y n)
  | joint (b n : Nat) : Dec 2 [b, n] (.joint b n)
  | join (b n : Nat) : Dec 3 [b, n] (.join b n)
  | could (b n : Nat) : Dec 4 [b, n] (.could b n)
  | cut (b n : Nat) : Dec 5 [b, n] (.cut b n)
  | least : Dec 6 [] .least
  | cutLeast : Dec 7 [] .cutLeast
  | fine : Dec 8 [] .fine
  | bad : Dec 9 [] .bad
  | nearest : Dec 10 [] .nearest
  | run (n : Nat) : Dec 11 [n] (.run n)
  | may (n : Nat) : Dec 12 [n] (.may n)
  | lasts : Dec 13 [] .lasts
  | places (b : Nat) : Dec 14 [b] (.places b)
  | next : Dec 15 [] .next
  | gone : Dec 16 [] .gone
  | wire (b n : Nat) : Dec 17 [b, n] (.wire b n)
  | look (b : Nat) : Dec 18 [b] (.look b)
  | sums : Dec 19 [] .sums
theorem Dec.lt {q : Nat} {args : List Nat} {c : Kp240.Call} (d : Dec q args c) : q < 20 := by cases d <;> decide
theorem Dec.none {q : Nat} {args : List Nat} {c : Kp240.Call} (d : Dec q args c) (h : q ≠ 0) : Kp240.step none c = (none, Kp240.say (-11)) := by
  cases d <;> first | exact absurd rfl h | rfl
/-- which numbers a bobbin's call has -/
def ofBob (q : Nat) : Bool := q == 2 || q == 3 || q == 4 || q == 5 || q == 14 || q == 17 || q == 18
theorem Dec.no {q b : Nat} {r : List Nat} {c : Kp240.Call} {m : Machine} (d : Dec q (b :: r) c) (h : ofBob q = true) (hb : m.bobbins.length ≤ b) : Kp240.step (some m) c = (some m, Kp240.say (-2)) := by
  have nb : Kp240.isBobbin m b = false := by unfold Kp240.isBobbin; exact decide_eq_false (by omega)
  cases d with
  | begin_ _ => cases h
  | bobbin _ _ => cases h
  | joint _ _ => rw [step_joint, if_pos nb]
  | join _ _ => rw [step_join, if_pos nb]
  | could _ _ => rw [step_could, if_pos nb]
  | cut _ _ => rw [step_cut, if_pos nb]
  | run _ => cases h
  | may _ => cases h
  | places _ => show (some m, if Kp240.isBobbin m b = false then _ else _) = _; rw [if_pos nb]
  | wire _ _ => show (some m, if Kp240.isBobbin m b = false then _ else _) = _; rw [if_pos nb]
  | look _ => show (some m, if Kp240.isBobbin m b = false then _ else _) = _; rw [if_pos nb]
end LS

namespace LS
open PySem PySem.Spec PyProof.Rows L2
open Kp240 (Bobbin Machine)

theorem Cal.mono {P : Program} {w : World} {K : PySem.W.Frag} {mg : Str → Option Value} {base : Heap} {j k : Nat} {x : Str} {ps : List Str} {sp : Sp} (G : Cal P w K mg base j x ps sp) (h : j ≤ k) : Cal P w K mg base k x ps sp := by
  obtain ⟨f, fd, F, r⟩ := G.ex
  exact ⟨f, fd, F.mono h, r⟩
def selH : Nat → Bool → Machine → List Nat → Kp240.Call → Prop
  | 0 => selBegin | 1 => selBobbin | 2 => selJoint | 3 => selJoin | 4 => selCould | 5 => selCut | 6 => selLeast | 7 => selCutLeast | 8 => selFine | 9 => selBad
  | 10 => selNearest | 11 => selRun | 12 => selMay | 13 => selLasts | 14 => selPlaces | 15 => selNext | 16 => selGone | 17 => selWire | 18 => selLook | 19 => selSums
  | _ => fun _ _ _ _ => False
def hNames : List Str := ["call_begin", "call_bobbin", "call_joint", "call_join", "call_could", "call_cut", "call_least", "call_cutleast", "call_fine", "call_bad", "call_nearest", "call_run", "call_may", "call_lasts", "call_places", "call_next", "call_gone", "call_wire", "call_look", "call_sums"]
def nCalls : Nat := 20
theorem Dec.sel {q : Nat} {args : List Nat} {c : Kp240.Call} {b : Bool} {m : Machine} (d : Dec q args c) (hq : q < nCalls) (hb : q ≠ 0 → b = true) (ho : ∀ i r, args = i :: r → ofBob q = true → i < m.bobbins.length) : selH q b m args c := by
  cases d with
  | begin_ g => exact ⟨g, rfl, rfl⟩
  | bobbin y n => exact ⟨hb (by decide), y, n, rfl, rfl⟩
  | joint i n => exact ⟨hb (by decide), i, n, rfl, rfl, ho i [n] rfl rfl⟩
  | join i n => exact ⟨hb (by decide), i, n, rfl, rfl, ho i [n] rfl rfl⟩
  | could i n => exact ⟨hb (by decide), i, n, rfl, rfl, ho i [n] rfl rfl⟩
  | cut i n => exact ⟨hb (by decide), i, n, rfl, rfl, ho i [n] rfl rfl⟩
  | least => exact ⟨hb (by decide), rfl⟩
  | cutLeast => exact ⟨hb (by decide), rfl⟩
  | fine => exact ⟨hb (by decide), rfl⟩
  | bad => exact ⟨hb (by decide), rfl⟩
  | nearest => exact ⟨hb (by decide), rfl⟩
  | run n => exact ⟨hb (by decide), n, rfl, rfl⟩
  | may n => exact ⟨hb (by decide), n, rfl, rfl⟩
  | lasts => exact ⟨hb (by decide), rfl⟩
  | places i => exact ⟨hb (by decide), i, rfl, rfl, ho i [] rfl rfl⟩
  | next => exact ⟨hb (by decide), rfl⟩
  | gone => exact ⟨hb (by decide), rfl⟩
  | wire i n => exact ⟨hb (by decide), i, n, rfl, rfl, ho i [n] rfl rfl⟩
  | look i => exact ⟨hb (by decide), i, rfl, rfl, ho i [] rfl rfl⟩
  | sums => exact ⟨hb (by decide), rfl⟩

/-- a test of two that changes nothing -/
theorem and_ev {t u : TT} {σ : L2.St} {H : Hp} {Q : Bool → Hp → Prop} {c1 c2 : Bool} (ht : ∀ Q' : Bool → Hp → Prop, Q' c1 H → t σ H Q') (hu : c1 = true → ∀ Q' : Bool → Hp → Prop, Q' c2 H → u σ H Q') (h : Q (c1 && c2) H) : tAnd t u σ H Q := by
  refine ht _ ?_
  cases c1 with
  | true => exact iteT (hu rfl _ h)
  | false => exact iteF h

section
variable {P : Program} {w : World} {K : PySem.W.Frag} {mg : Str → Option Value} {base : Heap} {CB CS : Addr}
/-- every handler keeps its promise -/
def Handlers (P : Program) (w : World) (K : PySem.W.Frag) (mg : Str → Option Value) (base : Heap) (CS CB : Addr) (k : Nat) : Prop := ∀ i x, hNames[i]? = some x → Cal P w K mg base k x ["strand", "numbers"] (spCall CS CB (selH i))
theorem paired_get {α β : Type} {R : α → β → Prop} : ∀ {l : List α} {r : List β} {i : Nat} {x : α}, Paired R l r → l[i]? = some x → ∃ y, r[i]? = some y ∧ R x y
  | _, _, _, _, .nil, h => by simp at h
  | _, _, 0, _, .cons h _, e => by simp at e; subst e; exact ⟨_, rfl, h⟩
  | _, _, i + 1, _, .cons _ t, e => paired_get (i := i) t (by simpa using e)
theorem paired_len {α β : Type} {R : α → β → Prop} : ∀ {l : List α} {r : List β}, Paired R l r → l.length = r.length
  | _, _, .nil => rfl
  | _, _, .cons _ t => congrArg (· + 1) (paired_len t)
abbrev sAnswerCall : Stmt := top 63
theorem scAnswerCall : FnScope ["strand", "call", "numbers"] ["strand", "call", "numbers"] (defScope sAnswerCall) := ⟨rfl, rfl, rfl, by decide +kernel, rfl, by decide +kernel, by decide +kernel⟩
inductive spAC (CS CB : Addr) (vs : List V) (H : Hp) (Q : VK) (_E : XK) : Prop
  | mk (st nu l p : Addr) (as js : List Addr) (b : Bool) (m : Machine) (args : List Nat) (c : Kp240.Call) (q : Nat) (_ : vs = [.ref st, vi q, .ref nu]) (_ : StAt CS CB H st b m l p as js) (_ : (b = true → MOk m)) (_ : (b = true → m.gone.length ≤ 500000)) (_ : LN H nu args) (_ : nu ∉ own st l p as js) (_ : Dec q args c) (_ : q < nCalls) (_ : ∀ (H' : Hp) (r l' p' : Addr) (as' js' : List Addr) (b' : Bool) (m' : Machine), (Kp240.step (stOf b m) c).1 = stOf b' m' → StAt CS CB H' st b' m' l' p' as' js' → Fr H H' (own st l p as js) (own st l' p' as' js') → H r = none → r ∉ own st l' p' as' js' → H' r = some (.lst ((ansL (Kp240.step (stOf b m) c).2).map V.int)) → Q (.ref r) H') : spAC CS CB vs H Q _E
structure TxtA (K : PySem.W.Frag) (mg : Str → Option Value) (CS CB : Addr) : Prop extends TxtC K mg CS CB where
  g_BEGIN : ∃ t, mg "BEGIN" = some (.int 0 t)
  t_OF_A_BOBBIN : ∃ a, mg "OF_A_BOBBIN" = some (.ref a) ∧ ∀ H : Hp, SqT K H a [.int 2, .int 3, .int 4, .int 5, .int 14, .int 17, .int 18]
  t_HANDLERS : ∃ (a : Addr) (fs : List Addr), mg "HANDLERS" = some (.ref a) ∧ (∀ H : Hp, SqT K H a (fs.map V.ref)) ∧ Paired (fun (x : Str) (f : Addr) => mg x = some (.ref f)) hNames fs
theorem in_bob {q : Nat} (h : q < nCalls) : inV (vi q) [.int 2, .int 3, .int 4, .int 5, .int 14, .int 17, .int 18] = ofBob q := by
  unfold nCalls at h
  match q, h with
  | 0, _ => decide
  | 1, _ => decide
  | 2, _ => decide
  | 3, _ => decide
  | 4, _ => decide
  | 5, _ => decide
  | 6, _ => decide
  | 7, _ => decide
  | 8, _ => decide
  | 9, _ => decide
  | 10, _ => decide
  | 11, _ => decide
  | 12, _ => decide
  | 13, _ => decide
  | 14, _ => decide
  | 15, _ => decide
  | 16, _ => decide
  | 17, _ => decide
  | 18, _ => decide
  | 19, _ => decide
  | q + 20, h => exact absurd h (by omega)
theorem Dec.cons {q : Nat} {args : List Nat} {c : Kp240.Call} (d : Dec q args c) (h : ofBob q = true) : ∃ i r, args = i :: r := by
  cases d <;> first | exact ⟨_, _, rfl⟩ | cases h
theorem ok_answer_call (F : FunIs K mg "answer_call" sAnswerCall) (T : TxtA K mg CS CB) (G : Handlers P w K mg base CS CB 10) : Cal P w K mg base 11 "answer_call" ["strand", "call", "numbers"] (spAC CS CB) := by
  refine cal_mk F scAnswerCall (fun _ _ _ _ _ _ us hl => match us, hl with | [_, _, _], _ => rfl) (fun vs H Q E h => ?_) (fun f cdv A outer s H vs Q E hr h => ?_)
  · obtain ⟨st, nu, l, p, as, js, b, m, args, c, q, rfl, _⟩ := h
    rfl
  · obtain ⟨st, nu, l, p, as, js, b, m, args, c, q, rfl, S, ok, hgl, hnu, nnu, d, hq, k⟩ := h
    have nd := scAnswerCall.nd
    obtain ⟨dx, hH⟩ := S.ins
    obtain ⟨aO, g_OF_A_BOBBIN, tO⟩ := T.t_OF_A_BOBBIN
    obtain ⟨aH, fs, g_HANDLERS, tH, pr⟩ := T.t_HANDLERS
    have lenF := paired_len pr
    have hX : ∀ f sp, (∃ i x, hNames[i]? = some x ∧ mg x = some (.ref f) ∧ sp = spCall CS CB (selH i)) → ∃ (x : Str) (ps : List Str), Cal P w K mg base 10 x ps sp ∧ mg x = some (.ref f) := by
      rintro f sp ⟨i, x, hx, hm, rfl⟩
      exact ⟨x, _, G i x hx, hm⟩
    refine ⟨_, (pss_cons (ps_if (PW.pt (pw_and (pt_cmpR op_ne (pv 1) (pgi T.g_BEGIN) (nomark _)) (pw_and1 (pt_not (pt_val (pe_fldK (K := K) rfl (pv 0) rfl)))))) (pss_one (ps_ret (pe_lst (pa_cons (pgi T.g_NOT_BEGUN) pa_nil)))) pss_nil)
      (pss_cons (ps_if (PW.pt (pw_and (pt_cmpR (op_in_seqK (K := K) rfl) (pv 1) (pgr g_OF_A_BOBBIN) (by with_unfolding_all rfl)) (pw_and1 (pt_cmpR op_ge (pe_ix (ix_listK (K := K) rfl) (pv 2) pe_int (fun _ _ => rfl)) (pe_callB (call_len_seqK (K := K) rfl) (by rfl) T.b_len bo_len (pa_cons (pe_fldK (K := K) rfl (pv 0) rfl) pa_nil)) (nomark _))))) (pss_one (ps_ret (pe_lst (pa_cons (pgi T.g_NO_SUCH_BOBBIN) pa_nil)))) pss_nil)
      (pss_one (ps_ret (pcallx hX hr (pe_ix (ix_tupK (K := K) rfl) (pgr g_HANDLERS) (pv 1) (fun _ _ => rfl)) (pa_cons (pv 0) (pa_cons (pv 2) pa_nil))))))), ?_⟩
    refine and_ev (c1 := !decide (q = 0)) (c2 := !b) (fun Q' h => ⟨_, rfl, rfl, _, rfl, (by have e := eqI q 0; show Q' (!decide (V.int (q : Int) = V.int ((0 : Nat) : Int))) H; rw [e]; exact h)⟩) (fun _ Q' h => ⟨_, rfl, st, CS, dx, _, _, rfl, hH, T.cS, T.n_begun, st_begun, _, rfl, h⟩) ?_
    by_cases h0 : q ≠ 0 ∧ b = false
    · obtain ⟨h1, rfl⟩ := h0
      rw [decide_eq_false h1]
      refine iteT ⟨(by show 1 ≤ sizeLine; decide), fun r hr => ?_⟩
      have e0 : Kp240.step (stOf false m) c = (none, Kp240.say (-11)) := d.none h1
      exact ans_same (a := [-11]) S Same.rfl' hr k (by rw [e0]; rfl) (by rw [e0]; rfl)
    have hb : q ≠ 0 → b = true := fun h1 => by
      cases b with
      | true => rfl
      | false => exact absurd ⟨h1, rfl⟩ h0
    have e1 : (!decide (q = 0) && !b) = false := by
      by_cases h1 : q = 0
      · rw [decide_eq_true h1]; rfl
      · rw [hb h1]; simp
    rw [e1]
    refine iteF ?_
    dsimp only [tNext]
    have hin := in_bob hq
    by_cases h2 : ofBob q = true
    · obtain ⟨i, r, rfl⟩ := d.cons h2
      have hq0 : q ≠ 0 := fun z => by rw [z] at h2; cases h2
      have hb' := hb hq0
      subst hb'
      refine and_ev (c1 := true) (c2 := decide (m.bobbins.length ≤ i)) (fun Q' h => ⟨_, rfl, aO, _, rfl, .inr (tO H), rfl, rfl, _, rfl, (by show Q' (inV (vi q) [.int 2, .int 3, .int 4, .int 5, .int 14, .int 17, .int 18]) H; rw [hin, h2]; exact h)⟩)
        (fun _ Q' h => ⟨_, rfl, nu, _, _, vi i, rfl, rfl, hnu.sq, at_of (j := 0) rfl rfl, _, rfl, st, CS, dx, _, _, rfl, hH, T.cS, T.n_bobbins, st_bobbins, l, _, rfl, .inl (SqL.of S.lst), _, _, rfl, rfl, _, rfl, (by
          show Q' (decide ((((as.map V.ref).length : Nat) : Int) ≤ (i : Int))) H
          have e : decide ((((as.map V.ref).length : Nat) : Int) ≤ (i : Int)) = decide (m.bobbins.length ≤ i) := by
            rw [List.length_map, S.bobs.length.1]
            by_cases z : m.bobbins.length ≤ i
            · rw [decide_eq_true z, decide_eq_true (by omega)]
            · rw [decide_eq_false z, decide_eq_false (by omega)]
          rw [e]
          exact h)⟩) ?_
      by_cases h3 : m.bobbins.length ≤ i
      · rw [decide_eq_true h3]
        refine iteT ⟨(by show 1 ≤ sizeLine; decide), fun r hr => ?_⟩
        have e0 : Kp240.step (stOf true m) c = (some m, Kp240.say (-2)) := d.no h2 h3
        exact ans_same (a := [-2]) S Same.rfl' hr k (by rw [e0]; rfl) (by rw [e0]; rfl)
      · rw [decide_eq_false h3]
        refine iteF ?_
        obtain ⟨x, hx⟩ : ∃ x, hNames[q]? = some x := ⟨_, List.getElem?_eq_getElem (show q < hNames.length from hq)⟩
        obtain ⟨f, hf, hm⟩ := paired_get pr hx
        exact ⟨_, rfl, aH, _, _, .ref f, rfl, rfl, tH H, atI_nat (by rw [List.getElem?_map, hf]; rfl), f, _, rfl, ⟨q, x, hx, hm, rfl⟩, _, rfl, _, rfl, st, nu, l, p, as, js, _, m, _, c, rfl, S, ok, hgl, hnu, nnu, d.sel hq (fun _ => rfl) fun i' r' e _ => (by cases e; omega), k⟩
    · have h2' : ofBob q = false := by
        cases z : ofBob q with
        | false => rfl
        | true => exact absurd z h2
      refine and_ev (c1 := false) (c2 := true) (fun Q' h => ⟨_, rfl, aO, _, rfl, .inr (tO H), rfl, rfl, _, rfl, (by show Q' (inV (vi q) [.int 2, .int 3, .int 4, .int 5, .int 14, .int 17, .int 18]) H; rw [hin, h2']; exact h)⟩) (fun z => by cases z) ?_
      refine iteF ?_
      obtain ⟨x, hx⟩ : ∃ x, hNames[q]? = some x := ⟨_, List.getElem?_eq_getElem (show q < hNames.length from hq)⟩
      obtain ⟨f, hf, hm⟩ := paired_get pr hx
      exact ⟨_, rfl, aH, _, _, .ref f, rfl, rfl, tH H, atI_nat (by rw [List.getElem?_map, hf]; rfl), f, _, rfl, ⟨q, x, hx, hm, rfl⟩, _, rfl, _, rfl, st, nu, l, p, as, js, _, m, _, c, rfl, S, ok, hgl, hnu, nnu, d.sel hq hb fun i' r' e z => absurd z h2, k⟩
end
end LS

namespace LS
open Kp240 (Bobbin Machine)

/-! ### what holds of a machine stays so -/
theorem MOk.set {m : Machine} (ok : MOk m) {b : Nat} {x : Bobbin} (hx : BobOk x) : MOk (Kp240.set m b x) := by
  refine ⟨by show (m.bobbins.set b x).length ≤ 4; rw [List.length_set]; exact ok.four, fun y hy => ?_, ok.gap⟩
  rcases List.mem_or_eq_of_mem_set (show y ∈ m.bobbins.set b x from hy) with z | z
  · exact ok.ok y z
  · rw [z]; exact hx
theorem bob_mem {m : Machine} {b : Nat} (h : Kp240.isBobbin m b ≠ false) : Kp240.bobbinAt m b ∈ m.bobbins := by
  have hb : b < m.bobbins.length := by
    unfold Kp240.isBobbin at h
    by_cases z : b < m.bobbins.length
    · exact z
    · exact absurd (decide_eq_false z) h
  unfold Kp240.bobbinAt
  rw [getD_lt hb]
  exact List.getElem_mem hb
theorem BobOk.put {x : Bobbin} (ok : BobOk x) {n : Nat} (h1 : n < x.left) (h2 : n ∉ x.joints) (h3 : x.joints.length < 4) : BobOk { x with joints := LS.put x.joints n } := by
  refine ⟨ok.lo, ok.hi, ok.left, ?_, put_up ok.up, fun q hq => ?_⟩
  · show (LS.put x.joints n).length ≤ 4
    rw [put_len h2]; omega
  · have : q ∈ x.joints ++ [n] := (put_perm h2).mem_iff.mp hq
    show q < x.left
    rcases List.mem_append.mp this with z | z
    · exact ok.below q z
    · rw [List.mem_singleton.mp z]; exact h1
theorem BobOk.join {x : Bobbin} (ok : BobOk x) {n : Nat} (h1 : x.left + n ≤ 100000) (h0 : n ≠ 0) (h2 : ¬ (4 ≤ x.joints.length ∧ x.left ≠ 0)) : BobOk (Kp240.joined x n) := by
  by_cases z : x.left = 0
  · have e : (Kp240.joined x n).joints = x.joints := by unfold Kp240.joined; rw [if_pos z]
    refine ⟨ok.lo, ok.hi, h1, by rw [e]; exact ok.few, by rw [e]; exact ok.up, fun q hq => ?_⟩
    rw [e] at hq
    have := ok.below q hq
    show q < x.left + n
    omega
  · have e : (Kp240.joined x n).joints = x.joints ++ [x.left] := by unfold Kp240.joined; rw [if_neg z]
    refine ⟨ok.lo, ok.hi, h1, ?_, ?_, fun q hq => ?_⟩
    · rw [e, List.length_append]
      show x.joints.length + 1 ≤ 4
      have : ¬ 4 ≤ x.joints.length := fun y => h2 ⟨y, z⟩
      omega
    · rw [e, List.pairwise_append]
      refine ⟨ok.up, by simp, fun a ha c hc => ?_⟩
      rw [List.mem_singleton.mp hc]
      exact ok.below a ha
    · rw [e] at hq
      show q < x.left + n
      rcases List.mem_append.mp hq with y | y
      · have := ok.below q y; omega
      · rw [List.mem_singleton.mp y]; omega
theorem MOk_m0 {g : Nat} (h : g ≤ 10000) : MOk (m0 g) := ⟨Nat.zero_le _, fun x hx => (by cases hx), h⟩
theorem step_ok {s : Kp240.State} {c : Kp240.Call} (h : ∀ m, s = some m → MOk m) : ∀ m', (Kp240.step s c).1 = some m' → MOk m' := by
  intro m' e
  cases c with
  | begin_ g =>
    rw [step_begin] at e
    by_cases z : 10000 < g
    · rw [if_pos z] at e; exact h m' e
    · rw [if_neg z] at e
      have e' : m0 g = m' := Option.some.inj e
      rw [← e']
      exact MOk_m0 (by omega)
  | bobbin y n =>
    cases s with
    | none => cases e
    | some m =>
      have ok := h m rfl
      rw [step_bobbin] at e
      by_cases z : y < 1000 ∨ 2000 < y ∨ Kp240.LONG < n
      · rw [if_pos z] at e; exact h m' e
      rw [if_neg z] at e
      by_cases z2 : Kp240.BOBBINS ≤ m.bobbins.length
      · rw [if_pos z2] at e; exact h m' e
      rw [if_neg z2] at e
      have e' := Option.some.inj e
      rw [← e']
      unfold Kp240.LONG at z
      unfold Kp240.BOBBINS at z2
      refine ⟨by show (m.bobbins ++ [_]).length ≤ 4; rw [List.length_append]; show m.bobbins.length + 1 ≤ 4; omega, fun x hx => ?_, ok.gap⟩
      rcases List.mem_append.mp (show x ∈ m.bobbins ++ [⟨y, n, []⟩] from hx) with q | q
      · exact ok.ok x q
      · rw [List.mem_singleton.mp q]
        exact ⟨by show 1000 ≤ y; omega, by show y ≤ 2000; omega, by show n ≤ 100000; omega, Nat.zero_le _, List.Pairwise.nil, fun j hj => by cases hj⟩
  | joint b n =>
    cases s with
    | none => cases e
    | some m =>
      have ok := h m rfl
      rw [step_joint] at e
      by_cases z : Kp240.isBobbin m b = false
      · rw [if_pos z] at e; exact h m' e
      rw [if_neg z] at e
      by_cases z2 : (Kp240.bobbinAt m b).left ≤ n
      · rw [if_pos z2] at e; exact h m' e
      rw [if_neg z2] at e
      by_cases z3 : (Kp240.bobbinAt m b).joints.contains n = true
      · rw [if_pos z3] at e; exact h m' e
      rw [if_neg z3] at e
      by_cases z4 : Kp240.JOINTS ≤ (Kp240.bobbinAt m b).joints.length
      · rw [if_pos z4] at e; exact h m' e
      rw [if_neg z4] at e
      have e' := Option.some.inj e
      rw [← e']
      unfold Kp240.JOINTS at z4
      exact ok.set ((ok.ok _ (bob_mem z)).put (by omega) (fun q => z3 (List.contains_iff_mem.mpr q)) (by omega))
  | join b n =>
    cases s with
    | none => cases e
    | some m =>
      have ok := h m rfl
      rw [step_join] at e
      by_cases z : Kp240.isBobbin m b = false
      · rw [if_pos z] at e; exact h m' e
      rw [if_neg z] at e
      by_cases z2 : n = 0 ∨ Kp240.LONG < (Kp240.bobbinAt m b).left + n
      · rw [if_pos z2] at e; exact h m' e
      rw [if_neg z2] at e
      by_cases z3 : Kp240.JOINTS ≤ (Kp240.bobbinAt m b).joints.length ∧ (Kp240.bobbinAt m b).left ≠ 0
      · rw [if_pos z3] at e; exact h m' e
      rw [if_neg z3] at e
      have e' := Option.some.inj e
      rw [← e']
      unfold Kp240.LONG at z2
      exact ok.set ((ok.ok _ (bob_mem z)).join (by omega) (by omega) z3)
  | cut b n =>
    cases s with
    | none => cases e
    | some m =>
      have ok := h m rfl
      rw [step_cut] at e
      by_cases z : Kp240.isBobbin m b = false
      · rw [if_pos z] at e; exact h m' e
      rw [if_neg z] at e
      by_cases z2 : (Kp240.bobbinAt m b).left < n
      · rw [if_pos z2] at e; exact h m' e
      rw [if_neg z2] at e
      have e' := Option.some.inj e
      rw [← e']
      have o2 := ok.set (b := b) ((ok.ok _ (bob_mem z)).cut (n := n) (by omega))
      exact ⟨o2.four, o2.ok, o2.gap⟩
  | cutLeast =>
    cases s with
    | none => cases e
    | some m =>
      have ok := h m rfl
      rw [step_cutLeast] at e
      cases el : Kp240.least m with
      | none => rw [el] at e; exact h m' e
      | some v =>
        rw [el] at e
        obtain ⟨lenV, hv⟩ := least_mem el
        have e' := Option.some.inj e
        rw [← e', ← cutsTo_all lenV]
        exact cutsTo_ok ok hv _
  | run n =>
    cases s with
    | none => cases e
    | some m =>
      have ok := h m rfl
      have e2 : (if n = 0 ∨ Kp240.LONG < n then (some m, Kp240.say (-22)) else if Kp240.lasts m < n then (some m, Kp240.say (-12)) else if Kp240.fine m m.bobbins = false then (some m, Kp240.say (-33)) else (some (Kp240.ran m n), Kp240.say (m.laid + n : Nat))).1 = some m' := e
      by_cases z : n = 0 ∨ Kp240.LONG < n
      · rw [if_pos z] at e2; exact h m' e2
      rw [if_neg z] at e2
      by_cases z2 : Kp240.lasts m < n
      · rw [if_pos z2] at e2; exact h m' e2
      rw [if_neg z2] at e2
      by_cases z3 : Kp240.fine m m.bobbins = false
      · rw [if_pos z3] at e2; exact h m' e2
      rw [if_neg z3] at e2
      have e' := Option.some.inj e2
      rw [← e']
      refine ⟨by show (m.bobbins.map _).length ≤ 4; rw [List.length_map]; exact ok.four, fun x hx => ?_, ok.gap⟩
      obtain ⟨y, hy, rfl⟩ := List.mem_map.mp (show x ∈ m.bobbins.map fun x => Kp240.ranBobbin x n from hx)
      have hle := lasts_le hy
      exact (ok.ok y hy).cut ((wire_le (ok.ok y hy)).mp (by omega))
  | could b n => cases s with | none => cases e | some m => exact h m' e
  | least => cases s with | none => cases e | some m => exact h m' e
  | fine => cases s with | none => cases e | some m => exact h m' e
  | bad => cases s with | none => cases e | some m => exact h m' e
  | nearest => cases s with | none => cases e | some m => exact h m' e
  | may n => cases s with | none => cases e | some m => exact h m' e
  | lasts => cases s with | none => cases e | some m => exact h m' e
  | places b => cases s with | none => cases e | some m => exact h m' e
  | next => cases s with | none => cases e | some m => exact h m' e
  | gone => cases s with | none => cases e | some m => exact h m' e
  | wire b n => cases s with | none => cases e | some m => exact h m' e
  | look b => cases s with | none => cases e | some m => exact h m' e
  | sums => cases s with | none => cases e | some m => exact h m' e

/-- a call lets no more than 16 joints come by -/
theorem step_gone_le {s : Kp240.State} {c : Kp240.Call} {G : Nat} (h : ∀ m, s = some m → MOk m ∧ m.gone.length ≤ G) : ∀ m', (Kp240.step s c).1 = some m' → m'.gone.length ≤ G + 16 := by
  intro m' e
  have same : s = some m' → m'.gone.length ≤ G + 16 := fun z => Nat.le_trans (h m' z).2 (Nat.le_add_right _ _)
  cases c with
  | begin_ g =>
    rw [step_begin] at e
    by_cases z : 10000 < g
    · rw [if_pos z] at e; exact same e
    · rw [if_neg z] at e
      have e' : m0 g = m' := Option.some.inj e
      rw [← e']
      exact Nat.zero_le _
  | bobbin y n =>
    cases s with
    | none => cases e
    | some m =>
      rw [step_bobbin] at e
      by_cases z : y < 1000 ∨ 2000 < y ∨ Kp240.LONG < n
      · rw [if_pos z] at e; exact same e
      rw [if_neg z] at e
      by_cases z2 : Kp240.BOBBINS ≤ m.bobbins.length
      · rw [if_pos z2] at e; exact same e
      rw [if_neg z2] at e
      have e' := Option.some.inj e
      rw [← e']
      exact Nat.le_trans (h m rfl).2 (Nat.le_add_right _ _)
  | joint b n =>
    cases s with
    | none => cases e
    | some m =>
      rw [step_joint] at e
      by_cases z : Kp240.isBobbin m b = false
      · rw [if_pos z] at e; exact same e
      rw [if_neg z] at e
      by_cases z2 : (Kp240.bobbinAt m b).left ≤ n
      · rw [if_pos z2] at e; exact same e
      rw [if_neg z2] at e
      by_cases z3 : (Kp240.bobbinAt m b).joints.contains n = true
      · rw [if_pos z3] at e; exact same e
      rw [if_neg z3] at e
      by_cases z4 : Kp240.JOINTS ≤ (Kp240.bobbinAt m b).joints.length
      · rw [if_pos z4] at e; exact same e
      rw [if_neg z4] at e
      have e' := Option.some.inj e
      rw [← e']
      exact Nat.le_trans (h m rfl).2 (Nat.le_add_right _ _)
  | join b n =>
    cases s with
    | none => cases e
    | some m =>
      rw [step_join] at e
      by_cases z : Kp240.isBobbin m b = false
      · rw [if_pos z] at e; exact same e
      rw [if_neg z] at e
      by_cases z2 : n = 0 ∨ Kp240.LONG < (Kp240.bobbinAt m b).left + n
      · rw [if_pos z2] at e; exact same e
      rw [if_neg z2] at e
      by_cases z3 : Kp240.JOINTS ≤ (Kp240.bobbinAt m b).joints.length ∧ (Kp240.bobbinAt m b).left ≠ 0
      · rw [if_pos z3] at e; exact same e
      rw [if_neg z3] at e
      have e' := Option.some.inj e
      rw [← e']
      exact Nat.le_trans (h m rfl).2 (Nat.le_add_right _ _)
  | cut b n =>
    cases s with
    | none => cases e
    | some m =>
      rw [step_cut] at e
      by_cases z : Kp240.isBobbin m b = false
      · rw [if_pos z] at e; exact same e
      rw [if_neg z] at e
      by_cases z2 : (Kp240.bobbinAt m b).left < n
      · rw [if_pos z2] at e; exact same e
      rw [if_neg z2] at e
      have e' := Option.some.inj e
      rw [← e']
      exact Nat.le_trans (h m rfl).2 (Nat.le_add_right _ _)
  | cutLeast =>
    cases s with
    | none => cases e
    | some m =>
      rw [step_cutLeast] at e
      cases el : Kp240.least m with
      | none => rw [el] at e; exact same e
      | some v =>
        rw [el] at e
        have e' := Option.some.inj e
        rw [← e']
        exact Nat.le_trans (h m rfl).2 (Nat.le_add_right _ _)
  | run n =>
    cases s with
    | none => cases e
    | some m =>
      obtain ⟨ok, hG⟩ := h m rfl
      rw [step_run] at e
      by_cases z : n = 0 ∨ Kp240.LONG < n
      · rw [if_pos z] at e; exact same e
      rw [if_neg z] at e
      by_cases z2 : Kp240.lasts m < n
      · rw [if_pos z2] at e; exact same e
      rw [if_neg z2] at e
      by_cases z3 : Kp240.fine m m.bobbins = false
      · rw [if_pos z3] at e; exact same e
      rw [if_neg z3] at e
      have e' := Option.some.inj e
      rw [← e', ← runTo_all]
      have := runTo_gone ok n m.bobbins.length
      show (runTo m n m.bobbins.length).gone.length ≤ _
      omega
  | could b n => cases s with | none => cases e | some m => exact same e
  | least => cases s with | none => cases e | some m => exact same e
  | fine => cases s with | none => cases e | some m => exact same e
  | bad => cases s with | none => cases e | some m => exact same e
  | nearest => cases s with | none => cases e | some m => exact same e
  | may n => cases s with | none => cases e | some m => exact same e
  | lasts => cases s with | none => cases e | some m => exact same e
  | places b => cases s with | none => cases e | some m => exact same e
  | next => cases s with | none => cases e | some m => exact same e
  | gone => cases s with | none => cases e | some m => exact same e
  | wire b n => cases s with | none => cases e | some m => exact same e
  | look b => cases s with | none => cases e | some m => exact same e
  | sums => cases s with | none => cases e | some m => exact same e

/-! ### the calls of a list -/
def argN : List Nat := [1, 2, 2, 2, 2, 2, 0, 0, 0, 0, 0, 1, 1, 0, 1, 0, 0, 2, 1, 0]
theorem shape_of {p : Int} {n k : Nat} (h : PyKp240.shape p = some (n, k)) : ∃ q : Nat, p = (q : Int) ∧ q < 20 ∧ k = 0 ∧ argN[q]? = some n := by
  unfold PyKp240.shape at h
  by_cases h0 : p = 0
  · rw [if_pos h0] at h; cases h; exact ⟨0, by omega, by decide, rfl, rfl⟩
  rw [if_neg h0] at h
  by_cases h1 : p = 1
  · rw [if_pos h1] at h; cases h; exact ⟨1, by omega, by decide, rfl, rfl⟩
  rw [if_neg h1] at h
  by_cases h2 : p = 2
  · rw [if_pos h2] at h; cases h; exact ⟨2, by omega, by decide, rfl, rfl⟩
  rw [if_neg h2] at h
  by_cases h3 : p = 3
  · rw [if_pos h3] at h; cases h; exact ⟨3, by omega, by decide, rfl, rfl⟩
  rw [if_neg h3] at h
  by_cases h4 : p = 4
  · rw [if_pos h4] at h; cases h; exact ⟨4, by omega, by decide, rfl, rfl⟩
  rw [if_neg h4] at h
  by_cases h5 : p = 5
  · rw [if_pos h5] at h; cases h; exact ⟨5, by omega, by decide, rfl, rfl⟩
  rw [if_neg h5] at h
  by_cases h6 : p = 6
  · rw [if_pos h6] at h; cases h; exact ⟨6, by omega, by decide, rfl, rfl⟩
  rw [if_neg h6] at h
  by_cases h7 : p = 7
  · rw [if_pos h7] at h; cases h; exact ⟨7, by omega, by decide, rfl, rfl⟩
  rw [if_neg h7] at h
  by_cases h8 : p = 8
  · rw [if_pos h8] at h; cases h; exact ⟨8, by omega, by decide, rfl, rfl⟩
  rw [if_neg h8] at h
  by_cases h9 : p = 9
  · rw [if_pos h9] at h; cases h; exact ⟨9, by omega, by decide, rfl, rfl⟩
  rw [if_neg h9] at h
  by_cases h10 : p = 10
  · rw [if_pos h10] at h; cases h; exact ⟨10, by omega, by decide, rfl, rfl⟩
  rw [if_neg h10] at h
  by_cases h11 : p = 11
  · rw [if_pos h11] at h; cases h; exact ⟨11, by omega, by decide, rfl, rfl⟩
  rw [if_neg h11] at h
  by_cases h12 : p = 12
  · rw [if_pos h12] at h; cases h; exact ⟨12, by omega, by decide, rfl, rfl⟩
  rw [if_neg h12] at h
  by_cases h13 : p = 13
  · rw [if_pos h13] at h; cases h; exact ⟨13, by omega, by decide, rfl, rfl⟩
  rw [if_neg h13] at h
  by_cases h14 : p = 14
  · rw [if_pos h14] at h; cases h; exact ⟨14, by omega, by decide, rfl, rfl⟩
  rw [if_neg h14] at h
  by_cases h15 : p = 15
  · rw [if_pos h15] at h; cases h; exact ⟨15, by omega, by decide, rfl, rfl⟩
  rw [if_neg h15] at h
  by_cases h16 : p = 16
  · rw [if_pos h16] at h; cases h; exact ⟨16, by omega, by decide, rfl, rfl⟩
  rw [if_neg h16] at h
  by_cases h17 : p = 17
  · rw [if_pos h17] at h; cases h; exact ⟨17, by omega, by decide, rfl, rfl⟩
  rw [if_neg h17] at h
  by_cases h18 : p = 18
  · rw [if_pos h18] at h; cases h; exact ⟨18, by omega, by decide, rfl, rfl⟩
  rw [if_neg h18] at h
  by_cases h19 : p = 19
  · rw [if_pos h19] at h; cases h; exact ⟨19, by omega, by decide, rfl, rfl⟩
  rw [if_neg h19] at h
  cases h
theorem dec_of {q n : Nat} {l : List Int} (hq : argN[q]? = some n) (hl : l.length = n) : ∃ c, Dec q (l.map Int.toNat) c ∧ Kp240Neutral.callOf [(q : Int) :: l] = some c := by
  match q, n, hq, l, hl with
  | 0, _, rfl, [a], _ => exact ⟨_, .begin_ _, rfl⟩
  | 1, _, rfl, [a, b], _ => exact ⟨_, .bobbin _ _, rfl⟩
  | 2, _, rfl, [a, b], _ => exact ⟨_, .joint _ _, rfl⟩
  | 3, _, rfl, [a, b], _ => exact ⟨_, .join _ _, rfl⟩
  | 4, _, rfl, [a, b], _ => exact ⟨_, .could _ _, rfl⟩
  | 5, _, rfl, [a, b], _ => exact ⟨_, .cut _ _, rfl⟩
  | 6, _, rfl, [], _ => exact ⟨_, .least, rfl⟩
  | 7, _, rfl, [], _ => exact ⟨_, .cutLeast, rfl⟩
  | 8, _, rfl, [], _ => exact ⟨_, .fine, rfl⟩
  | 9, _, rfl, [], _ => exact ⟨_, .bad, rfl⟩
  | 10, _, rfl, [], _ => exact ⟨_, .nearest, rfl⟩
  | 11, _, rfl, [a], _ => exact ⟨_, .run _, rfl⟩
  | 12, _, rfl, [a], _ => exact ⟨_, .may _, rfl⟩
  | 13, _, rfl, [], _ => exact ⟨_, .lasts, rfl⟩
  | 14, _, rfl, [a], _ => exact ⟨_, .places _, rfl⟩
  | 15, _, rfl, [], _ => exact ⟨_, .next, rfl⟩
  | 16, _, rfl, [], _ => exact ⟨_, .gone, rfl⟩
  | 17, _, rfl, [a, b], _ => exact ⟨_, .wire _ _, rfl⟩
  | 18, _, rfl, [a], _ => exact ⟨_, .look _, rfl⟩
  | 19, _, rfl, [], _ => exact ⟨_, .sums, rfl⟩
/-- one more call -/
theorem calls_turn {fuel : Nat} {p : Int} {r : List Int} {cs : List (List (List Int))} (h : PyFlat.calls PyKp240.shape fuel (p :: r) = some cs) :
    ∃ (q n fuel' : Nat) (cs' : List (List (List Int))) (c : Kp240.Call), p = (q : Int) ∧ q < 20 ∧ argN[q]? = some n ∧ n ≤ r.length ∧ cs = [p :: r.take n] :: cs' ∧ PyFlat.calls PyKp240.shape fuel' (r.drop n) = some cs' ∧ Dec q ((r.take n).map Int.toNat) c ∧ Kp240Neutral.callOf [p :: r.take n] = some c := by
  cases fuel with
  | zero => cases h
  | succ fuel =>
    rw [PyFlat.calls, PyFlat.call] at h
    cases hs : PyKp240.shape p with
    | none => rw [hs] at h; cases h
    | some nk =>
      obtain ⟨n, k⟩ := nk
      rw [hs] at h
      obtain ⟨q, rfl, hq, rfl, hn⟩ := shape_of hs
      dsimp only at h
      by_cases hl : r.length < n
      · rw [if_pos hl] at h; cases h
      rw [if_neg hl, PyFlat.rows] at h
      dsimp only at h
      cases hc : PyFlat.calls PyKp240.shape fuel (r.drop n) with
      | none => rw [hc] at h; cases h
      | some cs' =>
        rw [hc] at h
        have e := Option.some.inj h
        obtain ⟨c, d, hcall⟩ := dec_of (l := r.take n) hn (by rw [List.length_take]; omega)
        exact ⟨q, n, fuel, cs', c, rfl, hq, hn, by omega, e.symm, hc, d, hcall⟩
theorem whole_id (c : List (List Int)) : PyKp240.whole c = c := by
  unfold PyKp240.whole
  split <;> rfl
theorem answers_eq {ns : List Int} {cs : List (List (List Int))} (h : PyFlat.calls PyKp240.shape ns.length ns = some cs) : PyKp240.answers ns = PyFlat.told (PyFlat.played Kp240Neutral.step Kp240Neutral.start cs) := by
  unfold PyKp240.answers PyKp240.calls
  rw [h]
  dsimp only
  rw [show cs.map PyKp240.whole = cs from by rw [show PyKp240.whole = id from funext whole_id]; exact List.map_id _]
theorem told_turn {s : Kp240.State} {x : List (List Int)} {cs : List (List (List Int))} {c : Kp240.Call} (h : Kp240Neutral.callOf x = some c) :
    PyFlat.told (PyFlat.played Kp240Neutral.step s (x :: cs)) = ((ansL (Kp240.step s c).2).length : Int) :: (ansL (Kp240.step s c).2 ++ PyFlat.told (PyFlat.played Kp240Neutral.step (Kp240.step s c).1 cs)) := by
  have e : Kp240Neutral.step s x = ((Kp240.step s c).1, ansL (Kp240.step s c).2) := by
    unfold Kp240Neutral.step
    rw [h]
    rfl
  rw [PyFlat.played, e]
  rfl
end LS

namespace LS
open PySem PySem.Spec PyProof.Rows L2
open Kp240 (Bobbin Machine)

theorem line10 {n : Nat} (h : n ≤ 10000000) : n ≤ sizeLine := Nat.le_trans h (by decide)
theorem line10' {n : Nat} (h : n ≤ 10000000) : n < sizeLine := Nat.lt_of_le_of_lt h (by decide)
theorem toNat_vl {l : List Int} (h : ∀ x ∈ l, 0 ≤ x) : l.map V.int = vl (l.map Int.toNat) := by
  show _ = (l.map Int.toNat).map vi
  rw [List.map_map]
  refine List.map_congr_left fun x hx => ?_
  show V.int x = V.int ((x.toNat : Nat) : Int)
  rw [Int.toNat_of_nonneg (h x hx)]
theorem cut_eq {ns : List Int} {at_ n : Nat} (h : at_ + 1 + n ≤ ns.length) (lo hi : Int) (e1 : lo = ((at_ + 1 : Nat) : Int)) (e2 : hi = ((at_ + 1 + n : Nat) : Int)) : cutV (ns.map V.int) (some lo) (some hi) = ((ns.drop (at_ + 1)).take n).map V.int := by
  subst e1 e2
  unfold cutV
  rw [HT.sIx_nat, HT.sIx_nat, List.length_map, Nat.min_eq_left (by omega), Nat.min_eq_left (by omega), List.map_take, List.map_drop]
  congr 1
  omega
def argV : List V := [.int 1, .int 2, .int 2, .int 2, .int 2, .int 2, .int 0, .int 0, .int 0, .int 0, .int 0, .int 1, .int 1, .int 0, .int 1, .int 0, .int 0, .int 2, .int 1, .int 0]
theorem argV_get {q n : Nat} (h : argN[q]? = some n) : argV[q]? = some (vi n) := by
  have e : argV = vl argN := rfl
  rw [e, List.getElem?_map, h]
  rfl
structure TxtM (K : PySem.W.Frag) (mg : Str → Option Value) (CS CB : Addr) : Prop extends TxtA K mg CS CB where
  t_ARGUMENTS : ∃ a, mg "ARGUMENTS" = some (.ref a) ∧ ∀ H : Hp, SqT K H a argV
section
variable {P : Program} {w : World} {K : PySem.W.Frag} {mg : Str → Option Value} {base : Heap} {CB CS : Addr}
abbrev sAnswers : Stmt := top 64
theorem scAnswers : FnScope ["calls", "strand", "given", "at", "behind", "answer"] ["calls"] (defScope sAnswers) := ⟨rfl, rfl, rfl, by decide +kernel, rfl, by decide +kernel, by decide +kernel⟩
def spAns (K : PySem.W.Frag) : Sp := fun vs H Q _ => ∃ (a : Addr) (ns : List Int), vs = [.ref a] ∧ SqL K H a (ns.map V.int) ∧ ns.length ≤ 30000 ∧ (∀ x ∈ ns, 0 ≤ x ∧ x ≤ 4294967295) ∧ PyKp240.answers_asked ns = true ∧ ∀ (H' : Hp) (p : Addr), H' p = some (.lst ((PyKp240.answers ns).map V.int)) → Q (.ref p) H'
theorem asked_of {ns : List Int} (h : PyKp240.answers_asked ns = true) : (∃ cs, PyFlat.calls PyKp240.shape ns.length ns = some cs) ∧ (PyKp240.answers ns).length ≤ 10000000 := by
  unfold PyKp240.answers_asked at h
  cases e : PyFlat.calls PyKp240.shape ns.length ns with
  | none => rw [e] at h; cases h
  | some cs =>
    rw [e] at h
    dsimp only at h
    rw [Bool.and_eq_true] at h
    exact ⟨⟨cs, rfl⟩, of_decide_eq_true h.2⟩
theorem fr_same {H0 H1 H2 : Hp} {o o' : List Addr} (s : Same H0 H1) (h : ∀ a ∈ o, H0 a = none) (f : Fr H1 H2 o o') : Same H0 H2 ∧ ∀ a ∈ o', H0 a = none := by
  refine ⟨fun a u e => f.keep a u (s a u e) fun z => (by rw [h a z] at e; cases e), fun a ha => ?_⟩
  rcases f.sub a ha with z | z
  · exact h a z
  · exact s.free z
theorem ok_answers {fA : Addr} {fdA : FuncData} (hN : ∀ q, q < 20 → q < nCalls) (F : Fun K "answers" "answers" sAnswers fA fdA) (T : TxtM K mg CS CB) (G_answer_call : Cal P w K mg base 11 "answer_call" ["strand", "call", "numbers"] (spAC CS CB)) (G_Strand : Mkc P w K mg base 2 CS "Strand" ["self"] (spSInit CS CB)) :
    FnOk P w K mg base CX0 12 fA fdA ["calls"] (spAns K) := by
  refine F.ok scAnswers (fun vs H Q E h => ?_) (fun cdv A outer s H vs Q E hr h => ?_)
  · obtain ⟨a, ns, rfl, _⟩ := h
    rfl
  · obtain ⟨ca, ns, rfl, hS, hlen, hbd, hask, k⟩ := h
    have nd := scAnswers.nd
    obtain ⟨⟨cs0, hcs0⟩, hshort⟩ := asked_of hask
    obtain ⟨aA, g_ARGUMENTS, tA⟩ := T.t_ARGUMENTS
    refine ⟨_, (pss_cons (ps_set (i := 1) nd rfl (Or.inl rfl) (pmk0 G_Strand hr rfl ))
      (pss_cons (ps_set (i := 2) nd rfl (Or.inl rfl) (pe_lst pa_nil))
      (pss_cons (ps_set (i := 3) nd rfl (Or.inl rfl) pe_int)
      (pss_cons (ps_while PassesOwn.never (pt_cmpR op_lt (pv 3) (pe_callB (call_len_seqK (K := K) rfl) (by rfl) T.b_len bo_len (pa_cons (pv 0) pa_nil)) (nomark _)) (pss_cons (ps_set (i := 4) nd rfl (Or.inl rfl) (pe_op op_add (pe_op op_add (pv 3) pe_int) (pe_ix (ix_tupK (K := K) rfl) (pgr g_ARGUMENTS) (pe_ix (ix_listK (K := K) rfl) (pv 0) (pv 3) (fun _ _ => rfl)) (fun _ _ => rfl))))
      (pss_cons (ps_set (i := 5) nd rfl (Or.inl rfl) (pcall G_answer_call hr rfl (pa_cons (pv 1) (pa_cons (pe_ix (ix_listK (K := K) rfl) (pv 0) (pv 3) (fun _ _ => rfl)) (pa_cons (pe_slice (sl_listK (K := K) rfl) (pv 0) (po_some (pe_op op_add (pv 3) pe_int)) (po_some (pv 4))) pa_nil)))))
      (pss_cons (ps_expr (pe_bmK (K := K) rfl PySem.F.plainAttrs_list PySem.F.slot_list_append PySem.F.type_list_append mt_append (pv 2) (pa_cons (pe_callB (call_len_seqK (K := K) rfl) (by rfl) T.b_len bo_len (pa_cons (pv 5) pa_nil)) pa_nil)))
      (pss_cons (ps_expr (pe_bmK (K := K) rfl PySem.F.plainAttrs_list PySem.F.slot_list_extend PySem.F.type_list_extend mt_extend (pv 2) (pa_cons (pv 5) pa_nil)))
      (pss_one (ps_set (i := 3) nd rfl (Or.inl rfl) (pv 4))))))))
      (pss_one (ps_ret (pv 2))))))), ?_⟩
    -- strand = Strand()
    intro st dS nS ndS hne
    refine ⟨st, dS, rfl, upd_same, fun H1 l p S1 hl hp fr => ⟨rfl, ?_⟩⟩
    have s1 : Same H H1 := Same.made nS ndS fr
    have hl0 : H l = none := by
      have n1 : l ≠ st := fun z => by rw [z, upd_same] at hl; cases hl
      rw [upd_ne n1] at hl
      have n2 : l ≠ dS := fun z => by rw [z, upd_same] at hl; cases hl
      rw [upd_ne n2] at hl
      exact hl
    have hp0 : H p = none := by
      have n1 : p ≠ st := fun z => by rw [z, upd_same] at hp; cases hp
      rw [upd_ne n1] at hp
      have n2 : p ≠ dS := fun z => by rw [z, upd_same] at hp; cases hp
      rw [upd_ne n2] at hp
      exact hp
    -- given = []; at = 0
    refine ⟨Nat.zero_le _, fun gv hgv => ?_⟩
    have own0 : ∀ a ∈ own st l p [] [], H a = none := fun a ha => by
      unfold own at ha
      simp only [List.mem_cons, List.append_nil, List.not_mem_nil, or_false] at ha
      rcases ha with z | z | z
      · rw [z]; exact nS
      · rw [z]; exact hl0
      · rw [z]; exact hp0
    -- while at < len(calls)
    refine ⟨fun μ σ H' => ∃ (at_ : Nat) (v4 v5 : Option V) (G : List Int) (l p : Addr) (as js : List Addr) (b : Bool) (m : Machine) (fuel : Nat) (cs : List (List (List Int))), σ = [some (.ref ca), some (.ref st), some (.ref gv), some (vi at_), v4, v5] ∧ at_ ≤ ns.length ∧ μ = ns.length - at_ ∧
        StAt CS CB H' st b m l p as js ∧ (b = true → MOk m) ∧ (b = true → m.gone.length ≤ 16 * at_) ∧ H' gv = some (.lst (G.map V.int)) ∧ gv ∉ own st l p as js ∧ Same H H' ∧ (∀ a ∈ own st l p as js, H a = none) ∧ H gv = none ∧ PyFlat.calls PyKp240.shape fuel (ns.drop at_) = some cs ∧ PyKp240.answers ns = G ++ PyFlat.told (PyFlat.played Kp240Neutral.step (stOf b m) cs),
      ⟨ns.length, 0, none, none, [], l, p, [], [], false, m0 0, ns.length, cs0, rfl, Nat.zero_le _, rfl, S1.mono (Same.new hgv), fun z => (by cases z), fun z => (by cases z), upd_same, S1.new hgv, s1.add hgv, own0, s1.free hgv, hcs0, answers_eq hcs0⟩, ?_⟩
    rintro μ σ H2 ⟨at_, v4, v5, G, l, p, as, js, b, m, fuel, cs, rfl, hat, rfl, S, ok, hgo, hG, ngv, s2, ow, gn, hcs, hans⟩
    have sq := s2.seq hS
    refine ⟨_, rfl, _, rfl, ca, _, rfl, .inl sq, _, _, rfl, rfl, _, rfl, ?_⟩
    show if decide ((at_ : Int) < (((ns.map V.int).length : Nat) : Int)) = true then _ else _
    by_cases hlt : at_ < ns.length
    · rw [decide_eq_true (show (at_ : Int) < (((ns.map V.int).length : Nat) : Int) by rw [List.length_map]; omega)]
      refine iteT ⟨_, fun σ' H' h => h, ?_⟩
      -- one turn
      obtain ⟨pc, hpc⟩ : ∃ x, ns[at_]? = some x := ⟨_, List.getElem?_eq_getElem hlt⟩
      rw [drop_get hpc] at hcs
      obtain ⟨q, n, fuel', cs', c, rfl, hq, hn, hnl, rfl, hcs', d, hcall⟩ := calls_turn hcs
      have hnl' : at_ + 1 + n ≤ ns.length := by rw [List.length_drop] at hnl; omega
      have hix : (ns.map V.int)[at_]? = some (vi q) := by rw [List.getElem?_map, hpc]; rfl
      refine ⟨_, rfl, _, _, rfl, rfl, _, rfl, _, rfl, ca, _, _, vi q, rfl, rfl, sq, atI_nat hix, aA, _, _, vi n, rfl, rfl, tA H2, atI_nat (argV_get hn), _, _, rfl, rfl, ?_⟩
      refine ⟨_, rfl, _, rfl, _, rfl, ca, _, _, vi q, rfl, rfl, sq, atI_nat hix, _, rfl, _, rfl, _, _, rfl, rfl, _, rfl, _, rfl, _, rfl, ca, _, rfl, sq, fun nu hnu => ?_⟩
      have hpos : ∀ x ∈ (ns.drop (at_ + 1)).take n, 0 ≤ x := fun x hx => (hbd x (List.mem_of_mem_drop (List.mem_of_mem_take hx))).1
      have ecut : cutV (ns.map V.int) (some ((at_ : Int) + 1)) (some ((at_ : Int) + 1 + (n : Int))) = vl (((ns.drop (at_ + 1)).take n).map Int.toNat) := by
        rw [cut_eq hnl' _ _ (by omega) (by omega), toNat_vl hpos]
      have sn : ∀ o, Same H2 (upd H2 nu o) := fun o => Same.new hnu
      refine ⟨st, nu, l, p, as, js, b, m, ((ns.drop (at_ + 1)).take n).map Int.toNat, c, q, rfl, S.mono (sn _), ok, (fun z => by have := hgo z; omega), upd_same.trans (congrArg (fun z => some (HO.lst z)) ecut), S.new hnu, d, hN q hq, fun H3 r l' p' as' js' b' m' e1 S3 f3 hr nr hR => ?_⟩
      -- behind the call
      have s2n := fun o => s2.add (o := o) hnu
      obtain ⟨s3, ow3⟩ := fr_same (s2n _) ow f3
      have hG3 : H3 gv = some (.lst (G.map V.int)) := f3.keep gv _ (sn _ _ _ hG) ngv
      have ngv3 : gv ∉ own st l' p' as' js' := fun z => by
        rcases f3.sub gv z with y | y
        · exact ngv y
        · rw [sn _ _ _ hG] at y; cases y
      have nrg : r ≠ gv := fun z => by rw [z, sn _ _ _ hG] at hr; cases hr
      have etold := told_turn (s := stOf b m) (cs := cs') hcall
      rw [etold] at hans
      have ok3 : ∀ m'', stOf b' m' = some m'' → MOk m'' := fun m'' e => step_ok (s := stOf b m) (c := c) (fun m1 e => by
        cases b with
        | true => cases e; exact ok rfl
        | false => cases e) m'' (by rw [e1]; exact e)
      have hlenA : (G.length + 1 + (ansL (Kp240.step (stOf b m) c).2).length) ≤ 10000000 := by
        have : (PyKp240.answers ns).length = G.length + (1 + ((ansL (Kp240.step (stOf b m) c).2).length + (PyFlat.told (PyFlat.played Kp240Neutral.step (Kp240.step (stOf b m) c).1 cs')).length)) := by
          rw [hans, List.length_append, List.length_cons, List.length_append]
          omega
        omega
      -- given.append(len(answer))
      refine ⟨_, rfl, .inl ⟨rfl, _, SqL.of hG3⟩, _, rfl, r, _, rfl, .inl (SqL.of hR), gv, _, _, rfl, rfl, hG3, (by rw [List.length_map]; exact line10' (by omega)), ?_⟩
      -- given.extend(answer)
      have hR4 : upd H3 gv (.lst (G.map V.int ++ [V.int (((ansL (Kp240.step (stOf b m) c).2).map V.int).length : Nat)])) r = some (.lst ((ansL (Kp240.step (stOf b m) c).2).map V.int)) := by rw [upd_ne nrg]; exact hR
      refine ⟨_, rfl, .inl ⟨rfl, _, SqL.of upd_same⟩, _, rfl, gv, r, _, _, rfl, rfl, upd_same, hR4, (by rw [List.length_append, List.length_map, List.length_map]; exact line10 (by show G.length + 1 + _ ≤ _; omega)), ?_⟩
      -- at = behind
      refine ⟨_, rfl, ?_⟩
      refine ⟨ns.length - (at_ + 1 + n), by omega, at_ + 1 + n, some (V.int ((at_ : Int) + 1 + (n : Int))), some (.ref r), G ++ (((ansL (Kp240.step (stOf b m) c).2).length : Int) :: ansL (Kp240.step (stOf b m) c).2), l', p', as', js', b', m', fuel', cs', ?_, hnl', rfl, (S3.other ngv3).other ngv3, ?_, ?_, ?_, ngv3, ?_, ow3, gn, ?_, ?_⟩
      · have e : ((at_ : Int) + 1 + (n : Int)) = ((at_ + 1 + n : Nat) : Int) := by omega
        show [some (V.ref ca), some (V.ref st), some (V.ref gv), some (V.int ((at_ : Int) + 1 + (n : Int))), some (V.int ((at_ : Int) + 1 + (n : Int))), some (.ref r)] = _
        rw [show vi (at_ + 1 + n) = V.int ((at_ : Int) + 1 + (n : Int)) from congrArg V.int e.symm]
      · intro z
        rw [z] at ok3
        exact ok3 m' rfl
      · intro z
        have h16 := step_gone_le (s := stOf b m) (c := c) (G := 16 * at_) (fun m1 e => by
          cases b with
          | true => cases e; exact ⟨ok rfl, hgo rfl⟩
          | false => cases e) m' (by rw [e1, z]; rfl)
        omega
      · rw [upd_same, List.map_append, List.map_cons, List.length_map]
        simp
      · exact (s3.put gn).put gn
      · rw [show ns.drop (at_ + 1 + n) = (ns.drop (at_ + 1)).drop n from by rw [List.drop_drop]]
        exact hcs'
      · rw [hans, e1]
        simp
    · rw [decide_eq_false (show ¬ (at_ : Int) < (((ns.map V.int).length : Nat) : Int) by rw [List.length_map]; omega)]
      refine iteF ⟨_, rfl, ?_⟩
      have e0 : ns.drop at_ = [] := List.drop_eq_nil_of_le (by omega)
      rw [e0] at hcs
      have ecs : cs = [] := by
        cases fuel <;> exact (Option.some.inj hcs).symm
      rw [ecs] at hans
      refine k H2 gv ?_
      rw [hans]
      show H2 gv = some (.lst ((G ++ []).map V.int))
      rw [List.append_nil]
      exact hG
end
end LS

namespace LS
open PySem PySem.Spec PyProof.Rows L2
theorem all_calls : ∀ q, q < 20 → q < nCalls := fun _ h => h
theorem txtM {K : PySem.W.Frag} {mg : Str → Option Value} {CB CS : Addr} (A : All K mg CB CS) : TxtM K mg CS CB where
  cB := A.c_Bobbin
  n_lay := A.n_Bobbin_lay
  n_left := A.n_Bobbin_left
  n_joints := A.n_Bobbin_joints
  g_METRE := A.g_METRE
  b_sorted := A.b_sorted
  b_abs := A.b_abs
  b_len := A.b_len
  b_range := A.b_range
  b_enumerate := A.b_enumerate
  b_min := A.b_min
  g_MOST_CUT := A.g_MOST_CUT
  cS := A.c_Strand
  n_begun := A.n_Strand_begun
  n_gap := A.n_Strand_gap
  n_bobbins := A.n_Strand_bobbins
  n_laid := A.n_Strand_laid
  n_passed := A.n_Strand_passed
  n_cut_off := A.n_Strand_cut_off
  b_sum := A.b_sum
  g_NO_SUCH_BOBBIN := A.g_NO_SUCH_BOBBIN
  g_NOT_BEGUN := A.g_NOT_BEGUN
  g_TOO_LITTLE_LEFT := A.g_TOO_LITTLE_LEFT
  g_THERE_ALREADY := A.g_THERE_ALREADY
  g_OUT_OF_BOUNDS := A.g_OUT_OF_BOUNDS
  g_FULL := A.g_FULL
  g_NO_WAY := A.g_NO_WAY
  g_MOST_GAP := A.g_MOST_GAP
  g_LEAST_LAY := A.g_LEAST_LAY
  g_MOST_LAY := A.g_MOST_LAY
  g_MOST_LEFT := A.g_MOST_LEFT
  g_MOST_BOBBINS := A.g_MOST_BOBBINS
  g_MOST_JOINTS := A.g_MOST_JOINTS
  g_NOT_FINE := A.g_NOT_FINE
  g_TOO_FEW_JOINTS := A.g_TOO_FEW_JOINTS
  g_MOST_RUN := A.g_MOST_RUN
  b_list := A.b_list
  g_BEGIN := A.g_BEGIN
  t_OF_A_BOBBIN := A.t_OF_A_BOBBIN
  t_HANDLERS := A.t_HANDLERS
  t_ARGUMENTS := A.t_ARGUMENTS
theorem main {P : Program} {w : World} {K : PySem.W.Frag} {mg : Str → Option Value} {fa : Addr} {CB CS : Addr} (A : All K mg CB CS) (hfa : mg "answers" = some (.ref fa)) :
    ∃ fd : FuncData, (∀ (s : Shared) (us : List Value), us.length = (["calls"] : List Str).length → BindsTo s fd ⟨us, []⟩ ((["calls"] : List Str).zip us)) ∧ ∀ base : Heap, K.In base → base.Ns mainGlobals mg → FnOk P w K mg base CX0 12 fa fd ["calls"] (spAns K) := by
  obtain ⟨f, fd, hm, F⟩ := A.f_answers
  rw [hfa] at hm
  cases hm
  have TM := txtM A
  have TA : TxtA K mg CS CB := TM.toTxtA
  have TC : TxtC K mg CS CB := TA.toTxtC
  have TS : TxtS K mg CS CB := TC.toTxtS
  have TW : TxtW K mg CB := TS.toTxtW
  have TB : TxtB K mg CB := TW.toTxtB
  have TN : TxtN mg := ⟨A.b_abs, A.b_len, A.b_sorted, A.b_range, A.b_enumerate, A.b_min⟩
  refine ⟨fd, fun s us hu => ?_, fun base _ _ => ?_⟩
  · obtain ⟨oc, od, kV, doc, pm, an, cdv, ct, osl, rfl, lk, hcd⟩ := F.ex
    match us, hu with
    | [_], _ => exact .of_eq rfl
  have G_place := ok_place (P := P) (w := w) (base := base) A.m_Bobbin_place TB
  have G_pb := ok_places_behind (P := P) (w := w) (base := base) A.m_Bobbin_places_behind TB G_place
  have G_bi := ok_binit (mgC := A.g_Bobbin) (P := P) (w := w) (base := base) A.m_Bobbin___init__ A.mk_Bobbin A.kp_Bobbin TB
  have G_aj := ok_add_joint (P := P) (w := w) (base := base) A.m_Bobbin_add_joint TB
  have G_le := ok_lengthen (P := P) (w := w) (base := base) A.m_Bobbin_lengthen TB G_aj
  have G_sh := ok_shorten (P := P) (w := w) (base := base) A.m_Bobbin_shorten TB
  have G_ap := ok_apart (P := P) (w := w) (base := base) A.f_apart TN
  have G_st := ok_steps (P := P) (w := w) (base := base) A.f_steps TN
  have G_aw := ok_apart_within (P := P) (w := w) (base := base) A.f_apart_within TN G_st
  have G_fa := ok_fine_alone (P := P) (w := w) (base := base) A.f_fine_alone G_ap G_aw
  have G_be := ok_beside (P := P) (w := w) (base := base) A.f_fine_beside_others TN G_ap
  have G_ba := ok_bad (P := P) (w := w) (base := base) A.f_bad_bobbins TN G_fa G_be
  have G_af := ok_all_fine (P := P) (w := w) (base := base) A.f_all_fine TN G_ba
  have G_op := ok_options_of (P := P) (w := w) (base := base) A.f_options_of TW G_pb
  have G_cf := ok_cuts_fine_alone (P := P) (w := w) (base := base) A.f_cuts_fine_alone TW G_fa
  have G_ac := ok_agreeing_cuts (P := P) (w := w) (base := base) A.f_agreeing_cuts TW G_ap
  have G_ag := ok_agrees (P := P) (w := w) (base := base) A.f_agrees TW
  have G_wo := ok_way_of_total (P := P) (w := w) (base := base) A.f_way_of_total TW G_ag
  have G_lw := ok_least_way (P := P) (w := w) (base := base) A.f_least_way TW G_cf G_ac G_wo
  have G_gr := ok_groups (P := P) (w := w) (base := base) A.m_Strand_groups TS G_pb
  have G_if := ok_is_fine (P := P) (w := w) (base := base) A.m_Strand_is_fine TS G_af
  have G_bw := ok_best_way (P := P) (w := w) (base := base) A.m_Strand_best_way TS G_op G_lw
  have G_cb := ok_cut_bobbin (P := P) (w := w) (base := base) A.m_Strand_cut_bobbin TS G_sh
  have G_re := ok_restart (P := P) (w := w) (base := base) (CB := CB) A.m_Strand_restart TS
  have G_si := ok_sinit (mgC := A.g_Strand) (P := P) (w := w) (base := base) (CB := CB) A.m_Strand___init__ A.mk_Strand A.kp_Strand TS G_re
  have G_pw := ok_places_within (P := P) (w := w) (base := base) A.m_Bobbin_places_within TB G_place
  have G_wf := ok_wire_for (P := P) (w := w) (base := base) A.m_Bobbin_wire_for TB
  have G_bl := ok_blasts (P := P) (w := w) (base := base) A.m_Bobbin_lasts_for TB
  have G_sl := ok_slasts (P := P) (w := w) (base := base) A.m_Strand_lasts_for TS G_bl
  have G_ly := ok_lay (P := P) (w := w) (base := base) A.m_Strand_lay_strand TS G_wf G_pw G_sh
  have G_rr := ok_refusal (P := P) (w := w) (base := base) A.f_refusal_of_run TC G_sl G_gr G_if
  have G_jo := ok_jout (P := P) (w := w) (base := base) (CS := CS) (CB := CB) A.f_joins_out_of_bounds TC
  have H : Handlers P w K mg base CS CB 10 := by
    intro i x hx
    match i, hx with
    | 0, hx => cases hx; exact (ok_call_begin A.f_call_begin TC G_re).mono (by decide)
    | 1, hx => cases hx; exact (ok_call_bobbin A.f_call_bobbin TC G_bi).mono (by decide)
    | 2, hx => cases hx; exact (ok_call_joint A.f_call_joint TC G_aj G_place).mono (by decide)
    | 3, hx => cases hx; exact (ok_call_join A.f_call_join TC G_jo G_le).mono (by decide)
    | 4, hx => cases hx; exact (ok_call_could A.f_call_could TC G_jo G_gr G_place G_if).mono (by decide)
    | 5, hx => cases hx; exact (ok_call_cut A.f_call_cut TC G_cb).mono (by decide)
    | 6, hx => cases hx; exact (ok_call_least A.f_call_least TC G_bw).mono (by decide)
    | 7, hx => cases hx; exact (ok_call_cutleast A.f_call_cutleast TC G_bw G_cb).mono (by decide)
    | 8, hx => cases hx; exact (ok_call_fine A.f_call_fine TC G_gr G_if).mono (by decide)
    | 9, hx => cases hx; exact (ok_call_bad A.f_call_bad TC G_gr G_ba).mono (by decide)
    | 10, hx => cases hx; exact (ok_call_nearest A.f_call_nearest TC G_gr G_st).mono (by decide)
    | 11, hx => cases hx; exact (ok_call_run A.f_call_run TC G_rr G_ly).mono (by decide)
    | 12, hx => cases hx; exact (ok_call_may A.f_call_may TC G_rr).mono (by decide)
    | 13, hx => cases hx; exact (ok_call_lasts A.f_call_lasts TC G_sl).mono (by decide)
    | 14, hx => cases hx; exact (ok_call_places A.f_call_places TC G_gr).mono (by decide)
    | 15, hx => cases hx; exact (ok_call_next A.f_call_next TC G_gr).mono (by decide)
    | 16, hx => cases hx; exact (ok_call_gone A.f_call_gone TC).mono (by decide)
    | 17, hx => cases hx; exact (ok_call_wire A.f_call_wire TC G_wf).mono (by decide)
    | 18, hx => cases hx; exact (ok_call_look A.f_call_look TC).mono (by decide)
    | 19, hx => cases hx; exact (ok_call_sums A.f_call_sums TC).mono (by decide)
    | i + 20, hx => cases hx
  have G_an := ok_answer_call (P := P) (w := w) (base := base) A.f_answer_call TA H
  exact ok_answers all_calls F TM G_an G_si
end LS

open PySem PySem.W PyProof.Rows
open PySem.W (Codec)
set_option maxRecDepth 100000 in
set_option maxHeartbeats 0 in
theorem PySem.Challenge.cw_laidstrands_s01_answers_holds : PySem.Challenge.rw_laidstrands_s01_answers.Holds := by
  w_on
  refine holds_os (q := LS.view) (loose := LS.loose) (XP := XL LS.view []) (Xt := fun s => xlAt LS.view [] s && recOk [] s) (N := 5000)
    (Yf := (kHook LS.kept LS.keptAt LS.kept_at).obs) (Ya := (kHook LS.kept LS.keptAt LS.kept_at).val) (YP := (kHook LS.kept LS.keptAt LS.kept_at).says)
    (hY := (kHook LS.kept LS.keptAt LS.kept_at).of) (hYk := (kHook LS.kept LS.keptAt LS.kept_at).keeps)
    (hX := fun s e => xl_of s (Bool.and_eq_true_iff.mp e).1) (hXk := XL.keeps) (hRf := fun s e => recFacts_of (Bool.and_eq_true_iff.mp e).2) (hsh := os_shapes)
    (left := LS.left_whole) (hdef := by rfl) (hp := by rfl) (hk := by rfl) (k1 := by decide +kernel) (ok := by decide +kernel) (hb := ⟨rfl, rfl, rfl, rfl, rfl, by decide +kernel⟩)
    (hw := ⟨[.list [.int 6]], by decide +kernel, by decide +kernel⟩) (call := ?_)
  k_fillS
  refine L2.walk_specK (r := PySem.Challenge.rw_laidstrands_s01_answers) (k := 12) (CX := L2.CX0) (ps := ["calls"]) (sp := LS.spAns) (by decide +kernel) rfl rfl ⟨rfl, by decide, by decide⟩ (fun w h Y => PySem.W.kIn_of Y) ?F ?S (fun _ _ _ _ z => z)
  case F =>
    intro w mg fa h Y KX G hmg
    have A : ∃ (CB CS : Addr), LS.All (L2.KOf KX) mg CB CS := by
      dsimp only [L2.KOf]
      refine' LS.all_mk KX G ?h1 ?h2 ?h3 ?h4 ?h5 ?h6 ?h7 ?h8 ?h9 ?h10 ?h11 ?h12 ?h13 ?h14 ?h15 ?h16 ?h17 ?h18 ?h19 ?h20 ?h21 ?h22 ?h23 ?h24 ?h25 ?h26 ?h27 ?h28 ?h29 ?h30 ?h31 ?h32 ?h33 ?h34 ?h35 ?h36 ?h37 ?h38 ?h39 ?h40 ?h41 ?h42 ?h43 ?h44 ?h45 ?h46 ?h47 ?h48 ?h49 ?h50 ?h51 ?h52 ?h53 ?h54 ?h55 ?h56 ?h57 ?h58 ?h59 ?h60 ?h61 ?h62 ?h63 ?h64 ?h65 ?h66 ?h67 ?h68 ?h69 ?h70 ?h71 ?h72 ?h73 ?h74 ?h75 ?h76 ?h77 ?h78 ?h79 ?h80 ?h81 ?h82 ?h83 ?h84 ?h85 ?h86 ?h87 ?h88 ?h89 ?h90 ?h91 ?h92 ?h93 ?h94 ?h95 ?h96 ?h97 ?h98 ?h99 ?h100 ?h101 ?h102 ?h103 ?h104 ?h105 ?h106 ?h107 ?h108 ?h109 ?h110 ?h111 ?h112 ?h113 ?h114 ?h115 ?h116 ?h117 ?h118 ?h119 ?h120 ?h121 ?h122 ?h123 ?h124 ?h125 ?h126 ?h127 ?h128 ?h129 ?h130 ?h131 ?h132 ?h133 ?h134 ?h135 ?h136 ?h137 ?h138 ?h139 ?h140 ?h141 ?h142 ?h143 ?h144 ?h145 ?h146 ?h147 ?h148 ?h149 ?h150 ?h151 ?h152 ?h153 ?h154 ?h155 ?h156 ?h157 ?h158 ?h159 ?h160 ?h161 ?h162 ?h163 ?h164 ?h165 ?h166 ?h167 ?h168 ?h169 ?h170 ?h171 ?h172 ?h173 ?h174 ?h175 ?h176 ?h177 ?h178 ?h179 ?h180 ?h181 ?h182 ?h183 ?h184 ?h185 ?h186 ?h187 ?h188 ?h189 ?h190 ?h191 ?h192 ?h193 ?h194 ?h195 ?h196 ?h197 ?h198 ?h199 ?h200 ?h201 ?h202 ?h203 ?h204 ?h205 ?h206 ?h207 ?h208 ?h209 ?h210 ?h211 ?h212 ?h213 ?h214 ?h215 ?h216 ?h217 ?h218 ?h219 ?h220 ?h221 ?h222 ?h223 ?h224 ?h225 ?h226 ?h227 ?h228 ?h229 ?h230 ?h231 ?h232 ?h233 ?h234 ?h235 ?h236 ?h237 ?h238 ?h239 ?h240 ?h241 ?h242 ?h243 ?h244 ?h245 ?h246 ?h247 ?h248 ?h249 ?h250 ?h251 ?h252 ?h253 ?h254 ?h255 ?h256 ?h257 ?h258 ?h259 ?h260 ?h261 ?h262 ?h263 ?h264 ?h265 ?h266 ?h267 ?h268 ?h269 ?h270 ?h271 ?h272 ?h273 ?h274 ?h275 ?h276 ?h277 ?h278 ?h279 ?h280 ?h281 ?h282 ?h283 ?h284 ?h285 ?h286 ?h287 ?h288 ?h289
      (case h1 => k_is)
      (case h2 => k_is)
      (case h3 => k_is)
      (case h4 => k_is)
      (case h5 => k_is)
      (case h6 => k_is)
      (case h7 => k_is)
      (case h8 => k_is)
      (case h9 => k_is)
      (case h10 => k_is)
      (case h11 => k_is)
      (case h12 => k_is)
      (case h13 => k_is)
      (case h14 => k_is)
      (case h15 => k_is)
      (case h16 => k_is)
      (case h17 => k_is)
      (case h18 => k_is)
      (case h19 => k_is)
      (case h20 => k_is)
      (case h21 => k_is)
      (case h22 => k_is)
      (case h23 => k_is)
      (case h24 => k_is)
      (case h25 => k_is)
      (case h26 => k_is)
      (case h27 => k_is)
      (case h28 => k_is)
      (case h29 => k_is)
      (case h30 => k_is)
      (case h31 => k_is)
      (case h32 => k_is)
      (case h33 => k_is)
      (case h34 => k_is)
      (case h35 => k_is)
      (case h36 => k_is)
      (case h37 => k_is)
      (case h38 => k_is)
      (case h39 => k_is)
      (case h40 => k_is)
      (case h41 => k_is)
      (case h42 => k_is)
      (case h43 => k_is)
      (case h44 => k_is)
      (case h45 => k_is)
      (case h46 => k_is)
      (case h47 => k_is)
      (case h48 => k_is)
      (case h49 => k_is)
      (case h50 => k_is)
      (case h51 => k_is)
      (case h52 => k_is)
      (case h53 => k_is)
      (case h54 => k_is)
      (case h55 => k_is)
      (case h56 => k_is)
      (case h57 => k_is)
      (case h58 => k_is)
      (case h59 => k_is)
      (case h60 => k_is)
      (case h61 => k_is)
      (case h62 => k_is)
      (case h63 => k_is)
      (case h64 => k_is)
      (case h65 => k_is)
      (case h66 => k_is)
      (case h67 => k_is)
      (case h68 => k_is)
      (case h69 => k_is)
      (case h70 => k_is)
      (case h71 => k_is)
      (case h72 => k_is)
      (case h73 => k_is)
      (case h74 => k_is)
      (case h75 => k_is)
      (case h76 => k_is)
      (case h77 => k_is)
      (case h78 => k_is)
      (case h79 => k_is)
      (case h80 => k_is)
      (case h81 => k_is)
      (case h82 => k_is)
      (case h83 => k_is)
      (case h84 => k_is)
      (case h85 => k_is)
      (case h86 => k_is)
      (case h87 => k_is)
      (case h88 => k_is)
      (case h89 => k_is)
      (case h90 => k_is)
      (case h91 => k_is)
      (case h92 => k_is)
      (case h93 => k_is)
      (case h94 => k_is)
      (case h95 => k_is)
      (case h96 => k_is)
      (case h97 => k_is)
      (case h98 => k_is)
      (case h99 => k_is)
      (case h100 => k_is)
      (case h101 => k_is)
      (case h102 => k_is)
      (case h103 => k_is)
      (case h104 => k_is)
      (case h105 => k_is)
      (case h106 => k_is)
      (case h107 => k_is)
      (case h108 => k_is)
      (case h109 => k_is)
      (case h110 => k_is)
      (case h111 => k_is)
      (case h112 => k_is)
      (case h113 => k_is)
      (case h114 => k_is)
      (case h115 => k_is)
      (case h116 => k_is)
      (case h117 => k_is)
      (case h118 => k_is)
      (case h119 => k_is)
      (case h120 => k_is)
      (case h121 => k_is)
      (case h122 => k_is)
      (case h123 => k_is)
      (case h124 => k_is)
      (case h125 => k_is)
      (case h126 => k_is)
      (case h127 => k_is)
      (case h128 => k_is)
      (case h129 => k_is)
      (case h130 => k_is)
      (case h131 => k_is)
      (case h132 => k_is)
      (case h133 => k_is)
      (case h134 => k_is)
      (case h135 => k_is)
      (case h136 => k_is)
      (case h137 => k_is)
      (case h138 => k_is)
      (case h139 => k_is)
      (case h140 => k_is)
      (case h141 => k_is)
      (case h142 => k_is)
      (case h143 => k_is)
      (case h144 => k_is)
      (case h145 => k_is)
      (case h146 => k_is)
      (case h147 => k_is)
      (case h148 => k_is)
      (case h149 => k_is)
      (case h150 => k_is)
      (case h151 => k_is)
      (case h152 => k_is)
      (case h153 => k_is)
      (case h154 => k_is)
      (case h155 => k_is)
      (case h156 => k_is)
      (case h157 => k_is)
      (case h158 => k_is)
      (case h159 => k_is)
      (case h160 => k_is)
      (case h161 => k_is)
      (case h162 => k_is)
      (case h163 => k_is)
      (case h164 => k_is)
      (case h165 => k_is)
      (case h166 => k_is)
      (case h167 => k_is)
      (case h168 => k_is)
      (case h169 => k_is)
      (case h170 => k_is)
      (case h171 => k_is)
      (case h172 => k_is)
      (case h173 => k_is)
      (case h174 => k_is)
      (case h175 => k_is)
      (case h176 => k_is)
      (case h177 => k_is)
      (case h178 => k_is)
      (case h179 => k_is)
      (case h180 => k_is)
      (case h181 => k_is)
      (case h182 => k_is)
      (case h183 => k_is)
      (case h184 => k_is)
      (case h185 => k_is)
      (case h186 => k_is)
      (case h187 => k_is)
      (case h188 => k_is)
      (case h189 => k_is)
      (case h190 => k_is)
      (case h191 => k_is)
      (case h192 => k_is)
      (case h193 => k_is)
      (case h194 => k_is)
      (case h195 => k_is)
      (case h196 => k_is)
      (case h197 => k_is)
      (case h198 => k_is)
      (case h199 => k_is)
      (case h200 => k_is)
      (case h201 => k_is)
      (case h202 => k_is)
      (case h203 => k_is)
      (case h204 => k_is)
      (case h205 => k_is)
      (case h206 => k_is)
      (case h207 => k_is)
      (case h208 => k_is)
      (case h209 => k_is)
      (case h210 => k_is)
      (case h211 => k_is)
      (case h212 => k_is)
      (case h213 => k_is)
      (case h214 => k_is)
      (case h215 => k_is)
      (case h216 => k_is)
      (case h217 => k_is)
      (case h218 => k_is)
      (case h219 => k_is)
      (case h220 => k_is)
      (case h221 => k_is)
      (case h222 => k_is)
      (case h223 => k_is)
      (case h224 => k_is)
      (case h225 => k_is)
      (case h226 => k_is)
      (case h227 => k_is)
      (case h228 => k_is)
      (case h229 => k_is)
      (case h230 => k_is)
      (case h231 => k_is)
      (case h232 => k_is)
      (case h233 => k_is)
      (case h234 => k_is)
      (case h235 => k_is)
      (case h236 => k_is)
      (case h237 => k_is)
      (case h238 => k_is)
      (case h239 => k_is)
      (case h240 => k_is)
      (case h241 => k_is)
      (case h242 => k_is)
      (case h243 => k_is)
      (case h244 => k_is)
      (case h245 => k_is)
      (case h246 => k_is)
      (case h247 => k_is)
      (case h248 => k_is)
      (case h249 => k_is)
      (case h250 => k_is)
      (case h251 => k_is)
      (case h252 => k_is)
      (case h253 => k_is)
      (case h254 => k_is)
      (case h255 => k_is)
      (case h256 => k_is)
      (case h257 => k_is)
      (case h258 => k_is)
      (case h259 => k_is)
      (case h260 => k_is)
      (case h261 => k_is)
      (case h262 => k_is)
      (case h263 => k_is)
      (case h264 => k_is)
      (case h265 => k_is)
      (case h266 => k_is)
      (case h267 => k_is)
      (case h268 => k_is)
      (case h269 => k_is)
      (case h270 => k_is)
      (case h271 => k_is)
      (case h272 => k_is)
      (case h273 => k_is)
      (case h274 => k_is)
      (case h275 => k_is)
      (case h276 => k_is)
      (case h277 => k_is)
      (case h278 => k_is)
      (case h279 => k_is)
      (case h280 => k_is)
      (case h281 => k_is)
      (case h282 => k_is)
      (case h283 => k_is)
      (case h284 => k_is)
      (case h285 => k_is)
      (case h286 => k_is)
      (case h287 => k_is)
      (case h288 => k_is)
      (case h289 => k_is)
    obtain ⟨CB, CS, A⟩ := A
    exact LS.main A hmg
  case S =>
    intro K H xs a hO hwi hask hx
    cases hx with
    | cons h1 h2 =>
      cases h2
      cases h1 with
      | lst hs ha =>
        have e := L2.ints_dw a.1 _ ha
        subst e
        have q : ((Codec.inLen 0 30000 a.1 && a.1.all (Codec.inInt 0 4294967295)) && true) = true := hwi
        rw [Bool.and_eq_true, Bool.and_eq_true] at q
        refine ⟨_, a.1, rfl, hs, (Codec.inNat_iff.mp q.1.1).2, ?_, hask, fun H' p hp => .lst (L2.SqL.of hp) (L2.dw_ints _)⟩
        intro x hx
        have := List.all_eq_true.mp q.1.2 x hx
        simpa [Codec.inInt] using this
#print axioms PySem.Challenge.cw_laidstrands_s01_answers_holds
