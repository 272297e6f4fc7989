import PyProof.Rows.All
import KE.OsHead
import Open.Boot
import OpenK.KLine
import KE.BitLaws
import Open.SpecLaws
import KE.KItem
import KE.SpHead
import OpenK.KMore
import OpenK.KMake
import OpenK.KList
import OpenK.KDescr
import PySem.Challenge.RW_wordrunnerdesk_s01_answers
set_option Elab.async false
set_option linter.all false
namespace WrA
open PySem PySem.W PyProof.Rows
def top (i : Nat) : Stmt := PySem.Challenge.pw_wordrunnerdesk_s01_answers.main.body.getD i (.Pass ⟨0, 0, 0, 0⟩)
noncomputable def qV : PySem.Program := { PySem.Challenge.pw_wordrunnerdesk_s01_answers with main := { PySem.Challenge.pw_wordrunnerdesk_s01_answers.main with body := [top 1, top 2, top 3, top 4, top 5, top 6, top 7, top 8, top 9, top 10, top 11, top 12, top 14, top 16, top 17, top 18, top 19, top 20, top 21, top 22, top 23, top 24, top 26, top 27, top 28, top 29, top 31, top 32, top 33, top 34, top 35, top 36, top 37, top 38, top 39, top 40, top 41, top 42, top 43, top 44, top 46, top 47, top 48, top 49, top 50, top 51, top 52, top 53, top 54, top 55, top 56, top 57, top 58, top 59, top 60, top 61, top 62, top 64, top 65, top 66, top 67, top 68, top 69, top 70, top 71, top 72, top 73, top 74, top 75, top 76, top 77, top 78, top 79, top 80, top 82, top 83, top 84, top 85, top 86, top 87, top 88, top 89, top 90, top 91, top 92, top 93, top 94, top 95, top 97, top 98, top 99, top 100, top 101, top 102, top 103, top 104, top 105, top 106] } }
noncomputable def s0 (w : World) (os : OsState) : Shared := ⟨boot_heap w.params, #[], boot_drawn, boot_toks, os⟩
noncomputable def R (w : World) (os : OsState) : Option Shared := topFrom treeTable PySem.Challenge.pw_wordrunnerdesk_s01_answers w 5936 (s0 w os)
noncomputable def Xt : Shared → Bool := fun s => xlAt qV [] s && recOk [] s
/-! row0 serves one end: k_head writes down, as cap.heap_1, the objects that the proof reads; nothing is claimed of row0 itself -/
def row0 : OpenRow := ⟨⟨PySem.Challenge.pw_wordrunnerdesk_s01_answers, PySem.Challenge.nm_wordrunnerdesk_s01_answers, [], [], .none, .res, .res, [], [], [], true, none, PySem.Spec.Kinds.mk false false false, PySem.Spec.Kinds.mk false false false, true, [], []⟩, true, true, []⟩
local macro_rules
  | `(tactic| o_head $H) => `(tactic| exact (by assumption : Hook → row0.Holds) $H)
theorem cap (f : Hook → row0.Holds) : row0.Holds := by
  k_head
def keptAt : List Addr := [2, 3, 15, 16, 18, 19, 21, 22, 23, 25, 26, 28, 29, 37, 39, 40, 42, 43, 44, 46, 47, 49, 50, 51, 53, 54, 56, 57, 58, 60, 61, 63, 64, 65, 67, 68, 70, 71, 72, 74, 75, 77, 78, 79, 81, 82, 84, 85, 86, 88, 89, 91, 92, 93, 95, 96, 98, 99, 100, 102, 103, 105, 106, 107, 109, 110, 112, 113, 114, 116, 117, 119, 120, 121, 122, 123, 124, 125, 135, 137, 138, 140, 141, 142, 144, 145, 147, 148, 149, 151, 152, 154, 155, 156, 158, 159, 161, 162, 163, 164, 165, 166, 167, 170, 172, 173, 175, 176, 177, 179, 180, 182, 183, 184, 186, 187, 189, 190, 191, 193, 194, 196, 197, 198, 200, 201, 203, 204, 205, 207, 208, 210, 211, 212, 214, 215, 217, 218, 219, 221, 222, 224, 225, 226, 228, 229, 231, 232, 233, 235, 236, 238, 239, 240, 242, 243, 245, 246, 247, 249, 250, 252, 253, 254, 256, 257, 259, 260, 261, 263, 264, 266, 267, 268, 270, 271, 273, 274, 275, 277, 278, 280, 281, 282, 284, 285, 287, 288, 289, 291, 292, 294, 295, 296, 298, 299, 301, 302, 303, 305, 306, 308, 309, 310, 312, 313, 315, 316, 317, 319, 320, 322, 323, 324, 326, 327, 329, 330, 331, 333, 334, 336, 337, 338, 340, 341, 343, 344, 345, 347, 348, 350, 351, 352, 354, 355, 357, 358, 359, 361, 362, 364, 365, 366, 368, 369, 371, 372, 373, 375, 376, 378, 379, 380, 382, 383, 385, 386, 387, 389, 390, 392, 393, 394, 396, 397, 399, 400, 401, 403, 404, 406, 407, 408, 415, 416, 417, 418, 421, 423, 424, 426, 427, 428, 430, 431, 433, 434]
theorem kept_ok (P : Params) : keptAt = (cap.heap_1 P).map (fun x => x.fst) := by kernel_rfl
/-! the heap behind the top, object by object: those that are kept, empty tables, the defs' records, and the others -/
def kh (P : Params) (x : Str) : Int := PyData.keyHash P x
def bareTab : Obj := { cls := Value.none, data := Data.fields #[] }
def recordOf (o : Obj) : Obj :=
  match o.data with
  | .func f => { cls := Value.none, data := Data.func { name := f.name, qualname := f.qualname, params := f.params, body := f.body, scope := f.scope, globals := 0, closure := [], defaults := .none, kwdefaults := .none } }
  | _ => o
noncomputable def others (P : Params) : List Obj := [boot_o_0 P,
  boot_o_1 P,
  boot_o_4 P,
  boot_o_5 P,
  boot_o_6 P,
  boot_o_7 P,
  boot_o_9 P,
  boot_o_10 P,
  { cls := Value.type "tuple", data := Data.seq #[] },
  { cls := Value.none, data := Data.fields #[.int 11 0, .int 0 0, .ref 21, .int 13 0, .int 0 0, .ref 28, .int 15 0, .int 0 0, .ref 35, .int 74 0, .int 0 0, .ref 133, .int 101 0, .int 0 0, .ref 175, .int 103 0, .int 0 0, .ref 182, .int 115 0, .int 0 0, .ref 189, .int 117 0, .int 0 0, .ref 196, .int 133 0, .int 0 0, .ref 203, .int 136 0, .int 0 0, .ref 210, .int 146 0, .int 0 0, .ref 217, .int 148 0, .int 0 0, .ref 224, .int 156 0, .int 0 0, .ref 231, .int 159 0, .int 0 0, .ref 238, .int 161 0, .int 0 0, .ref 245, .int 173 0, .int 0 0, .ref 252, .int 177 0, .int 0 0, .ref 259, .int 185 0, .int 0 0, .ref 266, .int 202 0, .int 0 0, .ref 273, .int 204 0, .int 0 0, .ref 280, .int 211 0, .int 0 0, .ref 287, .int 214 0, .int 0 0, .ref 294, .int 219 0, .int 0 0, .ref 301, .int 227 0, .int 0 0, .ref 308, .int 230 0, .int 0 0, .ref 315, .int 233 0, .int 0 0, .ref 322, .int 260 0, .int 0 0, .ref 329, .int 266 0, .int 0 0, .ref 336, .int 275 0, .int 0 0, .ref 343, .int 288 0, .int 0 0, .ref 350, .int 291 0, .int 0 0, .ref 357, .int 295 0, .int 0 0, .ref 364, .int 309 0, .int 0 0, .ref 371, .int 330 0, .int 0 0, .ref 378, .int 334 0, .int 0 0, .ref 385, .int 343 0, .int 0 0, .ref 392, .int 353 0, .int 0 0, .ref 399, .int 360 0, .int 0 0, .ref 406, .int 378 0, .int 0 0, .ref 413, .int 380 0, .int 0 0, .ref 426, .int 400 0, .int 0 0, .ref 433] },
  { cls := Value.type "code", data := Data.fields #[.str (.ofString "<module>") 182, .str (.ofString "<module>") 183, .str (.ofString "/claim/cut.py") 184, .int 1 0, .int 0 0, .int 0 0, .int 0 0, .int 0 0, .ref 11, .bool false, .int 181 0, .ref 12, .none, .none, .none, .none, .int 185 0, .int 1 0, .str (.ofString "/claim/cut.py") 186] },
  { cls := Value.type "frame", slots := #[some (.ref 13), some (.ref 3), some (.ref 3), none, some (.str (.ofString "__main__") 164), none, some (.ref 0)] },
  { cls := Value.type "tuple", data := Data.seq #[] },
  { cls := Value.type "builtin_function_or_method", data := Data.fields #[.builtin "type.__prepare__", .type "type"] },
  { cls := Value.type "dict", data := Data.dict #[{ hash := kh P (.ofString "__module__"), key := .str (.ofString "__module__") 245, val := .str (.ofString "wordrunnerdesk.processor") 187 }, { hash := kh P (.ofString "__qualname__"), key := .str (.ofString "__qualname__") 247, val := .str (.ofString "Processor") 246 }, { hash := kh P (.ofString "__firstlineno__"), key := .str (.ofString "__firstlineno__") 249, val := .int 15 248 }, { hash := kh P (.ofString "__init__"), key := .str (.ofString "__init__") 256, val := .ref 43 }, { hash := kh P (.ofString "wipe"), key := .str (.ofString "wipe") 263, val := .ref 50 }, { hash := kh P (.ofString "load"), key := .str (.ofString "load") 274, val := .ref 57 }, { hash := kh P (.ofString "look"), key := .str (.ofString "look") 283, val := .ref 64 }, { hash := kh P (.ofString "keep"), key := .str (.ofString "keep") 292, val := .ref 71 }, { hash := kh P (.ofString "put"), key := .str (.ofString "put") 301, val := .ref 78 }, { hash := kh P (.ofString "held"), key := .str (.ofString "held") 309, val := .ref 85 }, { hash := kh P (.ofString "word_at"), key := .str (.ofString "word_at") 318, val := .ref 92 }, { hash := kh P (.ofString "keep_word"), key := .str (.ofString "keep_word") 328, val := .ref 99 }, { hash := kh P (.ofString "next_word"), key := .str (.ofString "next_word") 336, val := .ref 106 }, { hash := kh P (.ofString "push"), key := .str (.ofString "push") 344, val := .ref 113 }, { hash := kh P (.ofString "pull"), key := .str (.ofString "pull") 352, val := .ref 120 }, { hash := kh P (.ofString "__static_attributes__"), key := .str (.ofString "__static_attributes__") 355, val := .ref 121 }] 16 },
  { cls := Value.type "tuple", data := Data.seq #[] },
  { cls := Value.none, data := Data.fields #[.int 17 0, .int 4 0, .ref 42, .int 20 0, .int 4 0, .ref 49, .int 25 0, .int 4 0, .ref 56, .int 32 0, .int 4 0, .ref 63, .int 37 0, .int 4 0, .ref 70, .int 40 0, .int 4 0, .ref 77, .int 46 0, .int 4 0, .ref 84, .int 51 0, .int 4 0, .ref 91, .int 55 0, .int 4 0, .ref 98, .int 60 0, .int 4 0, .ref 105, .int 65 0, .int 4 0, .ref 112, .int 69 0, .int 4 0, .ref 119] },
  { cls := Value.type "code", data := Data.fields #[.str (.ofString "Processor") 240, .str (.ofString "Processor") 241, .str (.ofString "/claim/cut.py") 242, .int 15 0, .int 0 0, .int 0 0, .int 0 0, .int 0 0, .ref 33, .bool false, .int 181 0, .ref 34, .none, .none, .none, .none, .int 243 0, .int 15 0, .str (.ofString "/claim/cut.py") 244] },
  { cls := Value.type "frame", slots := #[some (.ref 35), some (.ref 3), some (.ref 32), none, some (.str (.ofString "wordrunnerdesk.processor") 187), none, some (.ref 0)] },
  { cls := Value.type "super", data := Data.fields #[.ref 123, .ref 123, .ref 123] },
  { cls := Value.type "builtin_function_or_method", data := Data.fields #[.builtin "object.__init_subclass__", .ref 123] },
  { cls := Value.type "tuple", data := Data.seq #[] },
  { cls := Value.type "builtin_function_or_method", data := Data.fields #[.builtin "type.__prepare__", .type "type"] },
  { cls := Value.type "dict", data := Data.dict #[{ hash := kh P (.ofString "__module__"), key := .str (.ofString "__module__") 372, val := .str (.ofString "wordrunnerdesk.reader") 363 }, { hash := kh P (.ofString "__qualname__"), key := .str (.ofString "__qualname__") 374, val := .str (.ofString "CallReader") 373 }, { hash := kh P (.ofString "__firstlineno__"), key := .str (.ofString "__firstlineno__") 376, val := .int 74 375 }, { hash := kh P (.ofString "__init__"), key := .str (.ofString "__init__") 384, val := .ref 141 }, { hash := kh P (.ofString "has_more"), key := .str (.ofString "has_more") 391, val := .ref 148 }, { hash := kh P (.ofString "take"), key := .str (.ofString "take") 399, val := .ref 155 }, { hash := kh P (.ofString "take_row"), key := .str (.ofString "take_row") 408, val := .ref 162 }, { hash := kh P (.ofString "__static_attributes__"), key := .str (.ofString "__static_attributes__") 411, val := .ref 163 }] 8 },
  { cls := Value.type "tuple", data := Data.seq #[] },
  { cls := Value.none, data := Data.fields #[.int 76 0, .int 4 0, .ref 140, .int 80 0, .int 4 0, .ref 147, .int 83 0, .int 4 0, .ref 154, .int 88 0, .int 4 0, .ref 161] },
  { cls := Value.type "code", data := Data.fields #[.str (.ofString "CallReader") 367, .str (.ofString "CallReader") 368, .str (.ofString "/claim/cut.py") 369, .int 74 0, .int 0 0, .int 0 0, .int 0 0, .int 0 0, .ref 131, .bool false, .int 181 0, .ref 132, .none, .none, .none, .none, .int 370 0, .int 74 0, .str (.ofString "/claim/cut.py") 371] },
  { cls := Value.type "frame", slots := #[some (.ref 133), some (.ref 3), some (.ref 130), none, some (.str (.ofString "wordrunnerdesk.reader") 363), none, some (.ref 0)] },
  { cls := Value.type "super", data := Data.fields #[.ref 165, .ref 165, .ref 165] },
  { cls := Value.type "builtin_function_or_method", data := Data.fields #[.builtin "object.__init_subclass__", .ref 165] },
  { cls := Value.type "builtin_function_or_method", data := Data.fields #[.builtin "type.__prepare__", .type "type"] },
  { cls := Value.type "dict", data := Data.dict #[{ hash := kh P (.ofString "__module__"), key := .str (.ofString "__module__") 865, val := .str (.ofString "wordrunnerdesk.machine") 842 }, { hash := kh P (.ofString "__qualname__"), key := .str (.ofString "__qualname__") 867, val := .str (.ofString "UnknownCall") 866 }, { hash := kh P (.ofString "__firstlineno__"), key := .str (.ofString "__firstlineno__") 869, val := .int 378 868 }, { hash := kh P (.ofString "__static_attributes__"), key := .str (.ofString "__static_attributes__") 870, val := .ref 415 }] 4 },
  { cls := Value.type "tuple", data := Data.seq #[] },
  { cls := Value.type "code", data := Data.fields #[.str (.ofString "UnknownCall") 860, .str (.ofString "UnknownCall") 861, .str (.ofString "/claim/cut.py") 862, .int 378 0, .int 0 0, .int 0 0, .int 0 0, .int 0 0, .ref 411, .bool false, .int 181 0, .ref 412, .none, .none, .none, .none, .int 863 0, .int 378 0, .str (.ofString "/claim/cut.py") 864] },
  { cls := Value.type "frame", slots := #[some (.ref 413), some (.ref 3), some (.ref 410), none, some (.str (.ofString "wordrunnerdesk.machine") 842), none, some (.ref 0)] },
  { cls := Value.type "super", data := Data.fields #[.ref 417, .ref 417, .ref 417] },
  { cls := Value.type "builtin_function_or_method", data := Data.fields #[.builtin "object.__init_subclass__", .ref 417] }]
def order : List Nat := [3, 3, 0, 0, 3, 3, 3, 3, 1, 3, 3, 3, 3, 3, 3, 0, 0, 1, 0, 0, 2, 0, 0, 0, 1, 0, 0, 2, 0, 0, 3, 3, 3, 3, 3, 3, 3, 0, 1, 0, 0, 2, 0, 0, 0, 1, 0, 0, 2, 0, 0, 0, 1, 0, 0, 2, 0, 0, 0, 1, 0, 0, 2, 0, 0, 0, 1, 0, 0, 2, 0, 0, 0, 1, 0, 0, 2, 0, 0, 0, 1, 0, 0, 2, 0, 0, 0, 1, 0, 0, 2, 0, 0, 0, 1, 0, 0, 2, 0, 0, 0, 1, 0, 0, 2, 0, 0, 0, 1, 0, 0, 2, 0, 0, 0, 1, 0, 0, 2, 0, 0, 0, 0, 0, 0, 0, 3, 3, 3, 3, 3, 3, 3, 3, 3, 0, 1, 0, 0, 2, 0, 0, 0, 1, 0, 0, 2, 0, 0, 0, 1, 0, 0, 2, 0, 0, 0, 1, 0, 0, 2, 0, 0, 0, 0, 0, 0, 0, 3, 3, 0, 1, 0, 0, 2, 0, 0, 0, 1, 0, 0, 2, 0, 0, 0, 1, 0, 0, 2, 0, 0, 0, 1, 0, 0, 2, 0, 0, 0, 1, 0, 0, 2, 0, 0, 0, 1, 0, 0, 2, 0, 0, 0, 1, 0, 0, 2, 0, 0, 0, 1, 0, 0, 2, 0, 0, 0, 1, 0, 0, 2, 0, 0, 0, 1, 0, 0, 2, 0, 0, 0, 1, 0, 0, 2, 0, 0, 0, 1, 0, 0, 2, 0, 0, 0, 1, 0, 0, 2, 0, 0, 0, 1, 0, 0, 2, 0, 0, 0, 1, 0, 0, 2, 0, 0, 0, 1, 0, 0, 2, 0, 0, 0, 1, 0, 0, 2, 0, 0, 0, 1, 0, 0, 2, 0, 0, 0, 1, 0, 0, 2, 0, 0, 0, 1, 0, 0, 2, 0, 0, 0, 1, 0, 0, 2, 0, 0, 0, 1, 0, 0, 2, 0, 0, 0, 1, 0, 0, 2, 0, 0, 0, 1, 0, 0, 2, 0, 0, 0, 1, 0, 0, 2, 0, 0, 0, 1, 0, 0, 2, 0, 0, 0, 1, 0, 0, 2, 0, 0, 0, 1, 0, 0, 2, 0, 0, 0, 1, 0, 0, 2, 0, 0, 0, 1, 0, 0, 2, 0, 0, 0, 1, 0, 0, 2, 0, 0, 0, 1, 0, 0, 2, 0, 0, 0, 1, 0, 0, 2, 0, 0, 0, 1, 0, 0, 2, 0, 0, 0, 3, 3, 3, 1, 3, 3, 0, 0, 0, 0, 3, 3, 0, 1, 0, 0, 2, 0, 0, 0, 1, 0, 0, 2, 0, 0]
def mixed : List Nat → Frag → List Obj → List Obj
  | [], _, _ => []
  | 0 :: r, p :: ks, os => p.snd :: mixed r ks os
  | 0 :: _, [], _ => []
  | 1 :: r, ks, os => bareTab :: mixed r ks os
  | 2 :: r, k :: f :: ks, os => recordOf f.snd :: mixed r (k :: f :: ks) os
  | 2 :: _, _, _ => []
  | _ :: r, ks, o :: os => o :: mixed r ks os
  | _ :: _, _, [] => []
noncomputable def allObjs (P : Params) : Array Obj := ⟨mixed order (cap.heap_1 P) (others P)⟩
noncomputable def atEnd (P : Params) (l : Life) (d : Drawn) (t : Nat) (o : OsState) (g : Array GenState) : Shared := ⟨⟨allObjs P, l⟩, g, d, t, o⟩
set_option maxRecDepth 100000 in
set_option maxHeartbeats 0 in
theorem h_run (w : World) (os : OsState) : (R w os).map (fun s => (s.heap.objs, s.gens.size == 0)) = some (allObjs w.params, true) := by kernel_rfl
set_option maxRecDepth 100000 in
set_option maxHeartbeats 0 in
theorem l_seen (P : Params) (l : Life) (d : Drawn) (t : Nat) (o : OsState) (g : Array GenState) : seen ((recsOf qV).map (fun x => x.name)) (ownsOf qV) [] { heap := (atEnd P l d t o g).heap, drawn := (atEnd P l d t o g).drawn, toks := (atEnd P l d t o g).toks, os := (atEnd P l d t o g).os } = expectedOf qV := by kernel_rfl
set_option maxRecDepth 100000 in
set_option maxHeartbeats 0 in
theorem l_blt (P : Params) (l : Life) (d : Drawn) (t : Nat) (o : OsState) (g : Array GenState) : (atEnd P l d t o g).heap.bltView = bltViewBooted := by kernel_rfl
set_option maxRecDepth 100000 in
set_option maxHeartbeats 0 in
theorem l_keys (P : Params) (l : Life) (d : Drawn) (t : Nat) (o : OsState) (g : Array GenState) : (atEnd P l d t o g).heap.keysOk (looseW qV []) ((recsOf qV).map (fun x => x.name)) ((litsOf qV).map (fun x => x.fst)) ((clssOf qV (looseW qV [])).map (fun x => x.name)) = true := by kernel_rfl
set_option maxRecDepth 100000 in
set_option maxHeartbeats 0 in
theorem l_acc (P : Params) (l : Life) (d : Drawn) (t : Nat) (o : OsState) (g : Array GenState) : (atEnd P l d t o g).heap.accountedOkI (importedModules PySem.Challenge.pw_wordrunnerdesk_s01_answers.main.body) = true := by kernel_rfl
set_option maxRecDepth 100000 in
set_option maxHeartbeats 0 in
theorem l_isg (P : Params) (l : Life) (d : Drawn) (t : Nat) (o : OsState) (g : Array GenState) : (atEnd P l d t o g).heap.isNs mainGlobals = true := by kernel_rfl
set_option maxRecDepth 100000 in
set_option maxHeartbeats 0 in
theorem l_isb (P : Params) (l : Life) (d : Drawn) (t : Nat) (o : OsState) (g : Array GenState) : (atEnd P l d t o g).heap.isNs builtinsNs = true := by kernel_rfl
set_option maxRecDepth 100000 in
set_option maxHeartbeats 0 in
theorem l_tables (P : Params) (l : Life) (d : Drawn) (t : Nat) (o : OsState) (g : Array GenState) : tablesOk qV (atEnd P l d t o g).heap = true := by kernel_rfl
set_option maxRecDepth 100000 in
set_option maxHeartbeats 0 in
theorem l_xt (P : Params) (l : Life) (d : Drawn) (t : Nat) (o : OsState) (g : Array GenState) : Xt (atEnd P l d t o g) = true := by kernel_rfl
set_option maxRecDepth 100000 in
set_option maxHeartbeats 0 in
theorem l_tabs (P : Params) (l : Life) (d : Drawn) (t : Nat) (o : OsState) (g : Array GenState) : tabsOk qV (atEnd P l d t o g) = true := by kernel_rfl
set_option maxRecDepth 100000 in
set_option maxHeartbeats 0 in
theorem l_pin (P : Params) (l : Life) (d : Drawn) (t : Nat) (o : OsState) (g : Array GenState) : pinSeenD qV (drecsOf qV) (atEnd P l d t o g) = pinGoodD (drecsOf qV) := by kernel_rfl
set_option maxRecDepth 100000 in
set_option maxHeartbeats 0 in
theorem l_plE (P : Params) (l : Life) (d : Drawn) (t : Nat) (o : OsState) (g : Array GenState) : plainSeenE qV (looseW qV []) (atEnd P l d t o g) = plainGoodE qV (looseW qV []) := by kernel_rfl
set_option maxRecDepth 100000 in
set_option maxHeartbeats 0 in
theorem l_plD (P : Params) (l : Life) (d : Drawn) (t : Nat) (o : OsState) (g : Array GenState) : plainSeenD qV [] (atEnd P l d t o g) = plainGoodD qV [] := by kernel_rfl
set_option maxRecDepth 100000 in
set_option maxHeartbeats 0 in
theorem l_wide (P : Params) (l : Life) (d : Drawn) (t : Nat) (o : OsState) (g : Array GenState) : wideSeen qV (atEnd P l d t o g) = wideGood qV := by kernel_rfl
set_option maxRecDepth 100000 in
set_option maxHeartbeats 0 in
theorem l_cls (P : Params) (l : Life) (d : Drawn) (t : Nat) (o : OsState) (g : Array GenState) : clsSeenW qV [] (atEnd P l d t o g) = clsGoodW qV [] := by kernel_rfl
set_option maxRecDepth 100000 in
set_option maxHeartbeats 0 in
theorem l_obs (P : Params) (l : Life) (d : Drawn) (t : Nat) (o : OsState) (g : Array GenState) : keptAt.map (atEnd P l d t o g).heap.get? = (cap.heap_1 P).map (fun p => some p.snd) := by kernel_rfl
theorem boots (w : World) : ∃ os, fencedOpening treeTable PySem.Challenge.pw_wordrunnerdesk_s01_answers w 5936 = some (s0 w os) := by
  have h := boot_open (p := PySem.Challenge.pw_wordrunnerdesk_s01_answers) (N := 5936) (by kernel_rfl) (by decide) (fun s => by kernel_rfl) w
  obtain ⟨s, hs, e⟩ := Option.map_eq_some_iff.mp h
  refine ⟨s.os, ?_⟩
  rw [hs]
  obtain ⟨hp, g, d, t, os⟩ := s
  simp only [Prod.mk.injEq] at e
  obtain ⟨rfl, rfl, rfl, rfl⟩ := e
  rfl
theorem ends (w : World) : ∃ l d t o g, openEnds treeTable PySem.Challenge.pw_wordrunnerdesk_s01_answers w 5936 = some (atEnd w.params l d t o g) ∧ (g.size == 0) = true := by
  obtain ⟨os, hb⟩ := boots w
  unfold openEnds
  rw [hb]
  have a1 := h_run w os
  rw [Option.bind_some]
  change ∃ l d t o g, R w os = _ ∧ _
  generalize R w os = r at *
  cases r with
  | none => cases a1
  | some s =>
    simp only [Option.map_some, Option.some.injEq, Prod.mk.injEq] at a1
    obtain ⟨b1, b2⟩ := a1
    obtain ⟨⟨ob, l⟩, g, d, t, o⟩ := s
    cases b1
    exact ⟨l, d, t, o, g, rfl, b2⟩
theorem left_all : LeftO PySem.Challenge.pw_wordrunnerdesk_s01_answers qV [] Xt (kHook cap.heap_1 keptAt kept_ok).obs (kHook cap.heap_1 keptAt kept_ok).val 5936 := by
  intro w
  obtain ⟨l, d, t, o, g, e, hg⟩ := ends w
  rw [e, Option.map_some]
  have z : openSeen qV [] (importedModules PySem.Challenge.pw_wordrunnerdesk_s01_answers.main.body) Xt true (atEnd w.params l d t o g) = openGood qV [] := by
    unfold openSeen openGood
    rw [l_seen, l_blt, l_keys, l_acc, l_isg, l_isb, l_tables, l_xt, l_tabs, l_pin, l_plE, l_plD, l_wide, l_cls, if_pos rfl]
    rw [show (atEnd w.params l d t o g).gens = g from rfl, hg]
    rfl
  rw [z]
  exact congrArg (fun z => some (openGood qV [], z)) (l_obs w.params l d t o g)
end WrA

-- CHANGE: your row's module here, as the last of these rows
set_option Elab.async false
set_option linter.all false
set_option maxRecDepth 100000
/-! THE HAND LAYER, for ints, bools, texts, own classes, lists, tuples, dicts, comprehensions, walks over dicts, enumerate, zip, reversed, texts, calls, loops. Paste it whole ahead of your own text; what your proof does not reach may be deleted. -/
namespace L2
open PySem PySem.Spec PyProof.Rows

/-- a key: an int or a str -/
abbrev Key := Sum Int Str
def keyIs : Key → Value → Bool
  | .inl k, v => Value.isInt k v
  | .inr x, v => Value.isStrOf x v
def keyH (w : World) : Key → Int
  | .inl k => hashInt k
  | .inr x => hashStr w x
theorem keyIs_shape : ∀ {k : Key} {v : Value}, keyIs k v = true → (∃ i t, k = Sum.inl i ∧ v = Value.int i t) ∨ (∃ x t, k = Sum.inr x ∧ v = Value.str x t)
  | .inl i, v, h => by
    obtain ⟨t, e⟩ := Value.isInt_shape (k := i) (v := v) h
    exact .inl ⟨i, t, rfl, e⟩
  | .inr x, v, h => by
    obtain ⟨t, e⟩ := Value.isStrOf_shape (x := x) (v := v) h
    exact .inr ⟨x, t, rfl, e⟩
theorem key_ll (a b : Int) : decide ((Sum.inl a : Key) = Sum.inl b) = (a == b) := by
  by_cases e : a = b
  · subst e; simp
  · have h : ¬ (Sum.inl a : Key) = Sum.inl b := fun q => e (Sum.inl.inj q)
    rw [decide_eq_false h]
    exact (beq_eq_false_iff_ne.mpr e).symm
theorem key_rr (a b : Str) : decide ((Sum.inr a : Key) = Sum.inr b) = decide (a = b) := by
  by_cases e : a = b
  · subst e; simp
  · have h : ¬ (Sum.inr a : Key) = Sum.inr b := fun q => e (Sum.inr.inj q)
    rw [decide_eq_false h, decide_eq_false e]
theorem key_lr (a : Int) (b : Str) : decide ((Sum.inl a : Key) = Sum.inr b) = false := decide_eq_false (fun q => nomatch q)
theorem key_rl (a : Str) (b : Int) : decide ((Sum.inr a : Key) = Sum.inl b) = false := decide_eq_false (fun q => nomatch q)

def mixKind (prog : Program) (w : World) : PySem.KeyKind prog w Key where
  is := keyIs
  hash := keyH w
  inj := fun v a b ha hb => by
    rcases keyIs_shape ha with ⟨i, t, rfl, rfl⟩ | ⟨x, t, rfl, rfl⟩
    · rcases keyIs_shape hb with ⟨j, u, rfl, e⟩ | ⟨y, u, rfl, e⟩
      · injection e with e1 _; rw [e1]
      · exact nomatch e
    · rcases keyIs_shape hb with ⟨j, u, rfl, e⟩ | ⟨y, u, rfl, e⟩
      · exact nomatch e
      · injection e with e1 _; rw [e1]
  byValue := fun k v h => by
    rcases keyIs_shape h with ⟨i, t, rfl, rfl⟩ | ⟨x, t, rfl, rfl⟩ <;> rfl
  pyHash := fun hv h => by
    rcases keyIs_shape hv with ⟨i, t, rfl, rfl⟩ | ⟨x, t, rfl, rfl⟩
    · exact wpAny_pyHash_int h
    · exact wpAny_pyHash_str h
  eqBool := fun hu hv h => by
    rcases keyIs_shape hu with ⟨i, t, rfl, rfl⟩ | ⟨x, t, rfl, rfl⟩
    · rcases keyIs_shape hv with ⟨j, u, rfl, rfl⟩ | ⟨y, u, rfl, rfl⟩
      · rw [key_ll] at h; exact wpAny_eqBool_int h
      · rw [key_lr] at h; exact SeqAt.EqAt.int_str i t y u _ _ _ _ h
    · rcases keyIs_shape hv with ⟨j, u, rfl, rfl⟩ | ⟨y, u, rfl, rfl⟩
      · rw [key_rl] at h; exact SeqAt.EqAt.str_int x t j u _ _ _ _ h
      · rw [key_rr] at h; exact wpAny_eqBool_str h
  «strs» := fun k x t v h => by
    rcases keyIs_shape h with ⟨i, u, rfl, e⟩ | ⟨y, u, rfl, e⟩
    · exact nomatch e
    · injection e with e1 _
      subst e1
      cases v <;> rfl

end L2

namespace L2
open PySem PySem.Spec PyProof.Rows

/-- a value, without the heap -/
inductive V where
  | non | bl (b : Bool) | int (i : Int) | str (x : Str) | byt (b : Array UInt8) | flt (b : UInt64) | ref (a : Addr) | ty (n : String)
  deriving DecidableEq

def RelV : V → Value → Prop
  | .non, u => u = Value.none
  | .bl b, u => u = Value.bool b
  | .int i, u => ∃ t, u = Value.int i t
  | .str x, u => ∃ t, u = Value.str x t
  | .byt b, u => ∃ t, u = Value.bytes b t
  | .flt b, u => ∃ t, u = Value.float b t
  | .ref a, u => u = Value.ref a
  | .ty n, u => u = Value.type n

abbrev Vals : List V → List Value → Prop := Paired RelV
theorem Vals.length {xs : List V} {us : List Value} (r : Vals xs us) : xs.length = us.length := Paired.length r
theorem Vals.get : ∀ {xs : List V} {us : List Value} {i : Nat} {x : V}, Vals xs us → xs[i]? = some x → ∃ u, us[i]? = some u ∧ RelV x u
  | _, _, _, _, .nil, e => by simp at e
  | _, _, 0, _, .cons r _, e => by simp at e; subst e; exact ⟨_, rfl, r⟩
  | _, _, i + 1, x, .cons _ t, e => by
    obtain ⟨u, h1, h2⟩ := Vals.get (i := i) (x := x) t (by simpa using e)
    exact ⟨u, by simpa using h1, h2⟩
theorem Vals.set {x : V} {u : Value} (r : RelV x u) : ∀ {xs : List V} {us : List Value} (i : Nat), Vals xs us → Vals (xs.set i x) (us.set i u)
  | _, _, _, .nil => .nil
  | _, _, 0, .cons _ t => .cons r t
  | _, _, i + 1, .cons q t => .cons q (Vals.set r i t)
theorem Vals.append : ∀ {xs ys : List V} {us ws : List Value}, Vals xs us → Vals ys ws → Vals (xs ++ ys) (us ++ ws)
  | _, _, _, _, .nil, s => s
  | _, _, _, _, .cons r t, s => .cons r (Vals.append t s)
theorem Vals.take : ∀ {xs : List V} {us : List Value} (n : Nat), Vals xs us → Vals (xs.take n) (us.take n)
  | _, _, 0, _ => .nil
  | _, _, _ + 1, .nil => .nil
  | _, _, n + 1, .cons r t => .cons r (Vals.take n t)
theorem Vals.drop : ∀ {xs : List V} {us : List Value} (n : Nat), Vals xs us → Vals (xs.drop n) (us.drop n)
  | _, _, 0, r => r
  | _, _, _ + 1, .nil => .nil
  | _, _, n + 1, .cons _ t => Vals.drop n t

def RelO : Option V → Option Value → Prop
  | some v, some u => RelV v u
  | none, none => True
  | _, _ => False
def KV {κ : Type} : List (κ × V) → List (κ × Value) → Prop := Paired fun (p : κ × V) (q : κ × Value) => p.1 = q.1 ∧ RelV p.2 q.2

/-- a key of a dict (00_mix): an int or a text -/
def kV : Key → V
  | .inl i => .int i
  | .inr x => .str x

/-- what stands at a tracked address -/
inductive HO where
  /-- a list -/
  | lst (xs : List V)
  /-- a tuple (never changes) -/
  | tup (xs : List V)
  /-- a dict whose keys are ints and texts; one whose keys are tuples of ints and texts (the empty one is both) -/
  | dK (kvs : List (Key × V)) | dT (kvs : List (List Key × V))
  /-- a set of ints: its members, its size -/
  | set (S : Int → Bool) (n : Nat)
  /-- an instance of the class at C, its dict at dx, its attributes -/
  | ins (C dx : Addr) (fs : List (Str × V))
  /-- the dict of the instance at x -/
  | own (x : Addr)
  /-- the dict of an exception -/
  | xd (fs : List (Str × V))
  /-- a bound method, f of x -/
  | met (f x : Addr)
  /-- a range object lo, lo + 1, .. below hi -/
  | rng (lo hi : Int)
  /-- a thing that is known to the object (the script; a dict while a loop walks it): read, never written while it is so -/
  | frz (o : Obj) (u : HO)
  /-- a code object's table -/
  | tbl (ps : Array Value)
  /-- any other thing, by what is true of its one object (a def of one's own: SetO a S n := HO.ext fun h => ..) -/
  | ext (φ : Heap → Prop)

abbrev Hp := Addr → Option HO
def upd (H : Hp) (a : Addr) (o : HO) : Hp := fun b => if b = a then some o else H b
theorem upd_same {H : Hp} {a : Addr} {o : HO} : upd H a o a = some o := by unfold upd; rw [if_pos rfl]
theorem upd_ne {H : Hp} {a b : Addr} {o : HO} (h : b ≠ a) : upd H a o b = H b := by unfold upd; rw [if_neg h]
/-- two objects of different content stand apart -/
theorem ne_of {H : Hp} {a b : Addr} {o u : HO} (h : H a = some o) (h' : H b = some u) (d : o ≠ u) : a ≠ b := by
  intro e; subst e; rw [h] at h'; exact d (Option.some.inj h')
theorem ne_of_none {H : Hp} {a b : Addr} {o : HO} (h : H a = some o) (h' : H b = none) : a ≠ b := by
  intro e; subst e; rw [h] at h'; cases h'

section
variable (P : Program) (w : World)
def ObjOk (H : Hp) (h : Heap) (a : Addr) : HO → Prop
  | .lst xs => xs.length ≤ sizeLine ∧ ∃ (its : List Value) (n : Nat), Vals xs its ∧ h.get? a = some { cls := .type "list", data := .seq its.toArray n }
  | .tup xs => xs.length ≤ sizeLine ∧ ∃ its : List Value, Vals xs its ∧ IsTup h a its.toArray
  | .dK kvs => kvs.length ≤ sizeLine ∧ (a == sysModules) = false ∧ ∃ vs, KV kvs vs ∧ h.DictOf (mixKind P w) a vs
  | .dT kvs => kvs.length ≤ sizeLine ∧ (a == sysModules) = false ∧ ∃ xs : List (List Key × Addr × Value),
      Paired (fun (p : List Key × V) (q : List Key × Addr × Value) => p.1 = q.1 ∧ H q.2.1 = some (.tup (p.1.map kV)) ∧ RelV p.2 q.2.2) kvs xs ∧
      ∃ o es ep, h.get? a = some o ∧ o.ExactDict ∧ o.data = .dict es ep ∧ es.toList = xs.map (entryOfKey (tupleKind (mixKind P w))) ∧ (xs.map (·.1)).Nodup
  | .set S n => h.SetOf (intKind P w) a S n
  | .ins C dx fs => H dx = some (.own a) ∧ fs.length ≤ 1000 ∧ dx ≠ a ∧ h.get? a = some (PySem.W.instObj C dx) ∧
      ∃ mA, h.Ns1 dx mA ∧ (∀ f, RelO (fs.lookup f) (mA f)) ∧ PySem.Within mA (fs.map (·.1))
  | .own _ => ∃ o, h.get? a = some o
  | .xd fs => ∃ mA, h.Ns1 a mA ∧ ∀ f, RelO (fs.lookup f) (mA f)
  | .rng lo hi => ∃ t u v, h.get? a = some { cls := .type "range", data := .fields #[.int lo t, .int hi u, .int 1 v] }
  | .frz o u => h.get? a = some o ∧ ObjOk H h a u
  | .tbl ps => h.get? a = some { cls := .none, data := .fields ps }
  | .met f x => h.get? a = some (PySem.W.methodObj (.ref f) (.ref x))
  | .ext φ => φ h ∧ (∃ o, h.get? a = some o) ∧ ∀ h1 h2 : Heap, φ h1 → (∀ o, h1.get? a = some o → h2.get? a = some o) → φ h2
/-- the abstract heap is held -/
def HOk (H : Hp) (h : Heap) : Prop := ∀ a o, H a = some o → ObjOk P w H h a o
end

section
variable {P : Program} {w : World} {H H' : Hp} {h h' : Heap} {a : Addr} {o : HO}
theorem ObjOk.lt (x : ObjOk P w H h a o) : a < h.objs.size := by
  cases o with
  | lst xs => obtain ⟨_, _, _, _, e⟩ := x; exact Heap.lt_size e
  | tup xs => obtain ⟨_, _, _, p⟩ := x; exact p.lt
  | dK kvs => obtain ⟨_, _, _, _, o, _, _, e, _⟩ := x; exact Heap.lt_size e
  | dT kvs => obtain ⟨_, _, _, _, o, _, _, e, _⟩ := x; exact Heap.lt_size e
  | set S n => obtain ⟨o, _, _, _, e, _⟩ := x; exact Heap.lt_size e
  | ins C dx fs => obtain ⟨_, _, _, e, _⟩ := x; exact Heap.lt_size e
  | own y => obtain ⟨_, e⟩ := x; exact Heap.lt_size e
  | xd fs => obtain ⟨_, ⟨_, _, _, e, _⟩, _⟩ := x; exact Heap.lt_size e
  | rng lo hi => obtain ⟨_, _, _, e⟩ := x; exact Heap.lt_size e
  | frz ob u => obtain ⟨e, _⟩ := x; exact Heap.lt_size e
  | tbl ps => exact Heap.lt_size (show h.get? a = some _ from x)
  | met f y => exact Heap.lt_size (show h.get? a = some _ from x)
  | ext φ => obtain ⟨_, ⟨_, e⟩, _⟩ := x; exact Heap.lt_size e
theorem Paired.mapP {α β : Type} {F G : α → β → Prop} : ∀ {l₁ : List α} {l₂ : List β}, Paired F l₁ l₂ → (∀ a b, F a b → G a b) → Paired G l₁ l₂
  | _, _, .nil, _ => .nil
  | _, _, .cons r t, f => .cons (f _ _ r) (Paired.mapP t f)
/-- what an object's description leans on: its own object, its own dict, the tuples -/
theorem ObjOk.stay (x : ObjOk P w H h a o) (k : ∀ b u, (b = a ∨ H b = some (.own a)) → h.get? b = some u → h'.get? b = some u)
    (ho : ∀ b, H b = some (.own a) → H' b = some (.own a)) (ht : ∀ b xs, H b = some (.tup xs) → H' b = some (.tup xs)) : ObjOk P w H' h' a o := by
  induction o with
  | lst xs => obtain ⟨z, its, n, r, e⟩ := x; exact ⟨z, its, n, r, k _ _ (.inl rfl) e⟩
  | tup xs => obtain ⟨z, its, r, ob, e, c⟩ := x; exact ⟨z, its, r, ob, k _ _ (.inl rfl) e, c⟩
  | dK kvs => obtain ⟨z, y, vs, r, ob, es, ep, e, c⟩ := x; exact ⟨z, y, vs, r, ob, es, ep, k _ _ (.inl rfl) e, c⟩
  | dT kvs =>
    obtain ⟨z, y, xs, r, ob, es, ep, e, c⟩ := x
    exact ⟨z, y, xs, Paired.mapP r fun p q z => ⟨z.1, ht _ _ z.2.1, z.2.2⟩, ob, es, ep, k _ _ (.inl rfl) e, c⟩
  | set S n => obtain ⟨ob, es, ep, t, e, c⟩ := x; exact ⟨ob, es, ep, t, k _ _ (.inl rfl) e, c⟩
  | ins C dx fs =>
    obtain ⟨d, z, ne, e, mA, ⟨od, es, ep, e2, c⟩, r⟩ := x
    exact ⟨ho _ d, z, ne, k _ _ (.inl rfl) e, mA, ⟨od, es, ep, k _ _ (.inr d) e2, c⟩, r⟩
  | own y => obtain ⟨ob, e⟩ := x; exact ⟨ob, k _ _ (.inl rfl) e⟩
  | xd fs => obtain ⟨mA, ⟨od, es, ep, e, c⟩, r⟩ := x; exact ⟨mA, ⟨od, es, ep, k _ _ (.inl rfl) e, c⟩, r⟩
  | rng lo hi => obtain ⟨t, u, v, e⟩ := x; exact ⟨t, u, v, k _ _ (.inl rfl) e⟩
  | frz ob u ih => obtain ⟨e, q⟩ := x; exact ⟨k _ _ (.inl rfl) e, ih q⟩
  | tbl ps =>
    have e : h.get? a = some { cls := .none, data := .fields ps } := x
    show h'.get? a = some { cls := .none, data := .fields ps }
    exact k a _ (.inl rfl) e
  | met f y =>
    have e : h.get? a = some (PySem.W.methodObj (.ref f) (.ref y)) := x
    show h'.get? a = some (PySem.W.methodObj (.ref f) (.ref y))
    exact k a _ (.inl rfl) e
  | ext φ => obtain ⟨p, ⟨o, e⟩, st⟩ := x; exact ⟨st _ _ p fun o q => k _ _ (.inl rfl) q, ⟨o, k _ _ (.inl rfl) e⟩, st⟩
theorem HOk.lt (x : HOk P w H h) (e : H a = some o) : a < h.objs.size := (x a o e).lt
theorem HOk.fresh (x : HOk P w H h) (e : h.objs.size ≤ a) : H a = none := by
  cases q : H a with
  | none => rfl
  | some u => exact absurd (Nat.lt_of_lt_of_le (x.lt q) e) (Nat.lt_irrefl _)
/-- every object of the heap is kept -/
theorem HOk.kept (x : HOk P w H h) (k : ∀ b u, h.get? b = some u → h'.get? b = some u) : HOk P w H h' := fun a o e =>
  (x a o e).stay (fun b u _ q => k b u q) (fun _ q => q) fun _ _ q => q
/-- a new object is laid and tracked -/
theorem HOk.laid (x : HOk P w H h) (k : ∀ b u, h.get? b = some u → h'.get? b = some u) (hp : h.objs.size ≤ a) (new : ObjOk P w (upd H a o) h' a o) : HOk P w (upd H a o) h' := fun b u e => by
  have hn := x.fresh hp
  by_cases hb : b = a
  · subst hb; rw [upd_same] at e; cases e; exact new
  · rw [upd_ne hb] at e
    exact (x b u e).stay (fun c v _ q => k c v q) (fun c q => by rw [upd_ne (ne_of_none q hn)]; exact q) fun c xs q => by rw [upd_ne (ne_of_none q hn)]; exact q
end

/-- what may be read as u: it is u, or a known u -/
def Rd (H : Hp) (a : Addr) (u : HO) : Prop := H a = some u ∨ ∃ o, H a = some (.frz o u)
theorem Rd.ok {P : Program} {w : World} {H : Hp} {h : Heap} {a : Addr} {u : HO} (r : Rd H a u) (x : HOk P w H h) : ObjOk P w H h a u := by
  rcases r with r | ⟨o, r⟩
  · exact x a u r
  · obtain ⟨_, q⟩ := x a _ r
    exact q
/-- what may be written -/
def Mut : Option HO → Prop
  | some (.lst _) => True
  | some (.dK _) => True
  | some (.dT _) => True
  | some (.set _ _) => True
  | some (.ins _ _ _) => True
  | some (.ext _) => True
  | _ => False
section
variable {P : Program} {w : World} {H : Hp} {h h' : Heap} {x e : Addr} {o' : HO}
/-- the object at e is changed: x itself, or the dict of the instance x -/
theorem HOk.write (ok : HOk P w H h) (mu : Mut (H x)) (he : e = x ∨ H e = some (.own x)) (k : ∀ b u, b ≠ e → h.get? b = some u → h'.get? b = some u) (heo : ∃ u, h'.get? e = some u)
    (new : ObjOk P w (upd H x o') h' x o') : HOk P w (upd H x o') h' := fun b u q => by
  have nown : ∀ c y, H c = some (.own y) → c ≠ x := fun c y r z => by subst z; rw [r] at mu; exact mu
  have ntup : ∀ c xs, H c = some (.tup xs) → c ≠ x := fun c xs r z => by subst z; rw [r] at mu; exact mu
  by_cases hb : b = x
  · subst hb; rw [upd_same] at q; cases q; exact new
  · rw [upd_ne hb] at q
    by_cases hbe : b = e
    · have q' : H b = some (.own x) := by
        rcases he with z | z
        · exact absurd (hbe.trans z) hb
        · rw [hbe]; exact z
      rw [q] at q'; cases q'
      obtain ⟨v, hv⟩ := heo
      exact ⟨v, by rw [hbe]; exact hv⟩
    · refine (ok b u q).stay (fun c v hc r => k c v ?_ r) (fun c r => by rw [upd_ne (nown c b r)]; exact r) fun c xs r => by rw [upd_ne (ntup c xs r)]; exact r
      rcases hc with rfl | hc
      · exact hbe
      · rintro rfl
        rcases he with z | z
        · exact nown c b hc z
        · rw [hc] at z; cases z; exact hb rfl
end

/-! ### kept unless tracked; of the frames at fs (the callers') the slots may change (an exception that passes writes there); of the records at ex (iterators) nothing is said -/
structure Un (fs ex : List Addr) (H H' : Hp) (h h' : Heap) : Prop where
  keep : ∀ b o, h.get? b = some o → H b = none → b ∉ fs → b ∉ ex → h'.get? b = some o
  slot : ∀ b o, h.get? b = some o → H b = none → b ∈ fs → b ∉ ex → ∃ sl, h'.get? b = some { o with slots := sl }
  free : ∀ b o, h.get? b = some o → H b = none → b ∉ ex → H' b = none
  there : ∀ b o, h.get? b = some o → b ∉ ex → ∃ o', h'.get? b = some o'
  tups : ∀ b xs, H b = some (.tup xs) → H' b = some (.tup xs)
  frzs : ∀ b o u, H b = some (.frz o u) → H' b = some (.frz o u)
  tbls : ∀ b ps, H b = some (.tbl ps) → ∃ more, H' b = some (.tbl (ps ++ more))
section
variable {fs fs' ex ex' : List Addr} {H H1 H2 : Hp} {h h1 h2 h' : Heap} {a x e : Addr} {o : HO}
theorem Un.any (u : Un fs ex H H1 h h1) {b : Addr} {ob : Obj} (q : h.get? b = some ob) (n : H b = none) (hx : b ∉ ex) : ∃ sl, h1.get? b = some { ob with slots := sl } := by
  by_cases hb : b ∈ fs
  · exact u.slot b ob q n hb hx
  · exact ⟨ob.slots, u.keep b ob q n hb hx⟩
theorem Un.kept (k : ∀ b u, h.get? b = some u → h'.get? b = some u) : Un fs ex H H h h' :=
  ⟨fun b ob q _ _ _ => k b ob q, fun b ob q _ _ _ => ⟨ob.slots, k b ob q⟩, fun _ _ _ n _ => n, fun b ob q _ => ⟨ob, k b ob q⟩, fun _ _ q => q, fun _ _ _ q => q, fun _ ps q => ⟨#[], by rw [q]; simp⟩⟩
theorem Un.refl : Un fs ex H H h h := Un.kept fun _ _ q => q
theorem Un.laid (k : ∀ b u, h.get? b = some u → h'.get? b = some u) (hp : h.objs.size ≤ a) (hn : H a = none) : Un fs ex H (upd H a o) h h' where
  keep := fun b u q _ _ _ => k b u q
  slot := fun b u q _ _ _ => ⟨u.slots, k b u q⟩
  free := fun b u q n _ => by rw [upd_ne (Nat.ne_of_lt (Nat.lt_of_lt_of_le (Heap.lt_size q) hp))]; exact n
  there := fun b u q _ => ⟨u, k b u q⟩
  tups := fun b xs q => by rw [upd_ne (ne_of_none q hn)]; exact q
  frzs := fun b u xs q => by rw [upd_ne (ne_of_none q hn)]; exact q
  tbls := fun b ps q => ⟨#[], by rw [upd_ne (ne_of_none q hn), q]; simp⟩
theorem Un.write (mu : Mut (H x)) (he : e = x ∨ H e = some (.own x)) (k : ∀ b u, b ≠ e → h.get? b = some u → h'.get? b = some u) (heo : ∃ u, h'.get? e = some u) : Un fs ex H (upd H x o) h h' := by
  have hx : ∀ b, H b = none → b ≠ x := fun b n z => by subst z; rw [n] at mu; exact mu
  have hb : ∀ b, H b = none → b ≠ e := fun b n z => by
    subst z
    rcases he with r | r
    · exact hx b n r
    · rw [n] at r; cases r
  have hm : ∀ b u, H b = some u → ¬ Mut (some u) → b ≠ x := fun b u q nm z => by subst z; rw [q] at mu; exact nm mu
  refine ⟨fun b u q n _ _ => k b u (hb b n) q, fun b u q n _ _ => ⟨u.slots, k b u (hb b n) q⟩, fun b u q n _ => by rw [upd_ne (hx b n)]; exact n, fun b u q _ => ?_,
    fun b xs q => by rw [upd_ne (hm b _ q fun z => z)]; exact q, fun b u xs q => by rw [upd_ne (hm b _ q fun z => z)]; exact q, fun b ps q => ⟨#[], by rw [upd_ne (hm b _ q fun z => z), q]; simp⟩⟩
  by_cases hbe : b = e
  · subst hbe; exact heo
  · exact ⟨u, k b u hbe q⟩
end

/-! ### the heap without what is tracked -/
def trk (h : Heap) (H : Hp) : List Addr := (List.range h.objs.size).filter fun a => (H a).isSome
def hidT (h : Heap) (H : Hp) : Heap := PySem.W.hideAll h (trk h H)
theorem hidT_size (h : Heap) (H : Hp) : (hidT h H).objs.size = h.objs.size := PySem.W.hideAll_size _ _
theorem hidT_get {h : Heap} {H : Hp} {b : Addr} {o : Obj} (e : h.get? b = some o) (n : H b = none) : (hidT h H).get? b = some o :=
  PySem.W.hideAll_get _ e fun hm => by
    have q : (H b).isSome = true := (List.mem_filter.mp hm).2
    rw [n] at q; simp at q
theorem of_hidT {h : Heap} {H : Hp} {b : Addr} {o : Obj} (e : (hidT h H).get? b = some o) : h.get? b = some o ∧ H b = none := by
  have e' : h.get? b = some o := PySem.W.of_hideAll (trk h H) e
  refine ⟨e', ?_⟩
  cases q : H b with
  | none => rfl
  | some x =>
    have hm : b ∈ trk h H := List.mem_filter.mpr ⟨List.mem_range.mpr (Heap.lt_size e'), by simp [q]⟩
    have z : (hidT h H).get? b = none := PySem.W.hideAll_none (trk h H) hm
    rw [z] at e; cases e

/-! ### OpenK's ledger, filled with every new object but one -/
end L2

namespace L2
open PySem PySem.Spec PyProof.Rows

/-- the module's facts, over the base: the heap at the law's entry without what is tracked there -/
structure Mod (K : PySem.W.Frag) (mg : Str → Option Value) (base : Heap) : Prop where
  kin : K.In base
  glob : base.Ns mainGlobals mg
  blt : ∃ mb, base.Ns builtinsNs mb ∧ ∀ x : Str, x ≠ "__name__" → mb x = bootBuiltins x
  nolimit : base.NoLimit

/-- the context: a def's body (or a comprehension's block) running. base: fixed through the whole law; s₀, H₀: the entry; outer: the frames whose slots others may change (a def's callers); stack: all frames that run;
   ex: iterators that were made ahead of the entry and are walked here (a comprehension's); fn: the names whose cells were made at the entry (a def: all; a comprehension's block: its own); calm: not within an except suite; pn: pins that every state bears; xe: what is wanted of an exception that leaves the code -/
structure Cx where
  prog : Program
  w : World
  K : PySem.W.Frag
  mg : Str → Option Value
  base : Heap
  A : Around
  N : List Str
  s_0 : Shared
  H_0 : Hp
  env : Env
  outer : List Env
  stack : List Env
  ex : List Addr
  fn : Str → Bool
  calm : Bool
  pn : List (Addr × Obj)
  xe : Value → Shared → Prop
/-- the callers' frames -/
def frs (l : List Env) : List Addr := l.filterMap (·.frame)
abbrev Cx.fs (X : Cx) : List Addr := frs X.outer

def Vis (sc : Scope) (x : Str) : Prop := sc.names.lookup x = some .local ∨ sc.names.lookup x = some .cell ∨ sc.names.lookup x = some .free
def Loc (sc : Scope) (x : Str) : Prop := sc.names.lookup x = some .local ∨ sc.names.lookup x = some .cell
def Look (env : Env) (h : Heap) (m : Str → Option Value) (x : Str) (u : Value) : Prop :=
  (env.kindOf x = some .local ∧ m x = some u) ∨ ((env.kindOf x = some .cell ∨ env.kindOf x = some .free) ∧ ∃ c, env.cells.lookup x = some c ∧ h.IsCell c (some u))

structure Cx.Ok (X : Cx) : Prop where
  mod : Mod X.K X.mg X.base
  kind : X.env.scope.kind = .function
  glob : X.env.globals = mainGlobals
  blt : X.env.builtins = builtinsNs
  above : X.s_0.heap.objs.size ≤ X.env.locals
  inj : ∀ x y c, X.env.cells.lookup x = some c → X.env.cells.lookup y = some c → x = y
  has : ∀ x, (X.env.kindOf x = some .cell ∨ X.env.kindOf x = some .free) → ∃ c, X.env.cells.lookup x = some c
  cab : ∀ x c, X.fn x = true → X.env.cells.lookup x = some c → X.s_0.heap.objs.size ≤ c
  hd : X.calm = true → X.A.handled = none
  frames : X.A.frames = some X.stack
  stk : X.stack = X.outer ∨ (X.stack = X.env :: X.outer ∧ X.env.frame = some X.env.locals)
  exf : ∀ b ∈ X.ex, b ≠ X.env.locals ∧ ∀ x c, X.env.cells.lookup x = some c → c ≠ b
  bs : ∀ b o, X.base.get? b = some o → X.s_0.heap.get? b = some o ∧ X.H_0 b = none
  bsz : X.base.objs.size ≤ X.s_0.heap.objs.size
  noex : ∀ b o, X.base.get? b = some o → b ∉ X.ex
  exfs : ∀ b ∈ X.ex, b ∉ X.fs
  funs : X.s_0.heap.FunFrames X.base X.outer
  frf : ∀ b ∈ X.fs, X.H_0 b = none

structure Inv (X : Cx) (pins : List (Addr × Obj)) (σ : List (Option V)) (H : Hp) (s : Shared) : Prop where
  ok : X.Ok
  os : s.os = X.s_0.os
  bare : AllBare s.gens
  base : Un X.fs X.ex X.H_0 H X.s_0.heap s.heap
  loc : ∃ m, s.heap.Ns X.env.locals m ∧ ∀ (i : Nat) (x : Str) (v : V), X.N[i]? = some x → σ[i]? = some (some v) → Vis X.env.scope x → ∃ u, RelV v u ∧ Look X.env s.heap m x u
  cell : ∀ x c, X.env.cells.lookup x = some c → ∃ v, s.heap.IsCell c v
  free : H X.env.locals = none
  freeC : ∀ x c, X.env.cells.lookup x = some c → H c = none
  pin : ∀ p ∈ X.pn ++ pins, s.heap.get? p.1 = some p.2 ∧ H p.1 = none ∧ p.1 ≠ X.env.locals ∧ p.1 ∉ X.fs ∧ ∀ v, p.2.data ≠ .cell v
  hok : HOk X.prog X.w H s.heap
  len : σ.length = X.N.length

section
variable {X : Cx} {pins : List (Addr × Obj)} {σ : List (Option V)} {H H' : Hp} {s : Shared} {h' : Heap}

theorem Cx.Ok.nofr (ok : X.Ok) {b : Addr} {o : Obj} (e : X.base.get? b = some o) : b ∉ X.fs := fun hb => by
  have := (ok.funs.mem hb).1
  rw [e] at this; cases this
theorem Inv.bs (I : Inv X pins σ H s) : ∀ b o, X.base.get? b = some o → s.heap.get? b = some o ∧ H b = none := fun b o e =>
  ⟨I.base.keep b o (I.ok.bs b o e).1 (I.ok.bs b o e).2 (I.ok.nofr e) (I.ok.noex b o e), I.base.free b o (I.ok.bs b o e).1 (I.ok.bs b o e).2 (I.ok.noex b o e)⟩
theorem Inv.bk (I : Inv X pins σ H s) : ∀ b o, X.base.get? b = some o → s.heap.get? b = some o := fun b o e => (I.bs b o e).1
theorem Inv.mod (I : Inv X pins σ H s) : Mod X.K X.mg X.base := I.ok.mod
theorem Inv.kIn (I : Inv X pins σ H s) : X.K.In s.heap := I.ok.mod.kin.keeps I.bk
theorem Inv.lt (I : Inv X pins σ H s) : X.env.locals < s.heap.objs.size := let ⟨_, hn, _⟩ := I.loc; hn.lt
theorem Inv.sz (I : Inv X pins σ H s) : X.s_0.heap.objs.size ≤ s.heap.objs.size := Nat.le_trans I.ok.above (Nat.le_of_lt I.lt)
theorem Inv.nofs (I : Inv X pins σ H s) {a : Addr} (h : s.heap.objs.size ≤ a) : a ∉ X.fs := fun hb => by
  obtain ⟨_, o, ho, _⟩ := I.ok.funs.mem hb
  exact absurd (Nat.lt_of_lt_of_le (Heap.lt_size ho) (Nat.le_trans I.sz h)) (Nat.lt_irrefl _)
theorem Inv.cne (I : Inv X pins σ H s) : ∀ x c, X.env.cells.lookup x = some c → c ≠ X.env.locals := fun x c e z => by
  obtain ⟨v, o, ho, hd⟩ := I.cell x c e
  obtain ⟨m, ⟨o', es, ep, ho', hd', _⟩, _⟩ := I.loc
  rw [z, ho'] at ho; cases ho; rw [hd'] at hd; cases hd
theorem Inv.funs (I : Inv X pins σ H s) : s.heap.FunFrames X.base X.outer := by
  have all : ∀ (l : List Env), (∀ b ∈ frs l, b ∈ X.fs) → X.s_0.heap.FunFrames X.base l → s.heap.FunFrames X.base l := by
    intro l
    induction l with
    | nil => intro _ _; trivial
    | cons env r ih =>
      intro hs hl
      obtain ⟨hk, ⟨L, o, hf, hn, ho, hd⟩, hr⟩ := hl
      have hL : L ∈ X.fs := hs L (by unfold frs; rw [List.filterMap_cons, hf]; exact List.mem_cons_self)
      obtain ⟨sl, e⟩ := I.base.slot L o ho (I.ok.frf L hL) hL fun z => I.ok.exfs L z hL
      exact ⟨hk, ⟨L, _, hf, hn, e, hd⟩, ih (fun b hb => hs b (by unfold frs; rw [List.filterMap_cons, hf]; exact List.mem_cons_of_mem _ hb)) hr⟩
  exact all X.outer (fun _ hb => hb) I.ok.funs

/-- the frames that run, for a call -/
theorem Inv.stack (I : Inv X pins σ H s) : s.heap.FunFrames X.base X.stack := by
  rcases I.ok.stk with e | ⟨e, hf⟩
  · rw [e]; exact I.funs
  · rw [e]
    obtain ⟨m, hn, _⟩ := I.loc
    refine .cons (by rw [I.ok.kind]; decide) hf hn ?_ I.funs
    exact Heap.get?_none_of_le (Nat.le_trans I.ok.bsz I.ok.above)
theorem Inv.stkSub (I : Inv X pins σ H s) : ∀ b ∈ frs X.stack, b ∈ X.env.locals :: X.fs := fun b hb => by
  rcases I.ok.stk with e | ⟨e, hf⟩
  · rw [e] at hb; exact List.mem_cons_of_mem _ hb
  · rw [e] at hb
    unfold frs at hb
    rw [List.filterMap_cons, hf] at hb
    exact hb
theorem Inv.stkFree (I : Inv X pins σ H s) : ∀ b ∈ frs X.stack, H b = none := fun b hb => by
  rcases List.mem_cons.mp (I.stkSub b hb) with e | hb
  · rw [e]; exact I.free
  · obtain ⟨_, o, ho, _⟩ := I.ok.funs.mem hb
    exact I.base.free b o ho (I.ok.frf b hb) fun z => I.ok.exfs b z hb

/-- THE STEP: the untracked objects but the frame and the records at ch are kept (the callers' frames up to slots), the frame's map is kept, the new abstract heap is held -/
theorem Inv.step {g' : Array GenState} {t' : Nat} {d' : Drawn} {ch : List Addr} (I : Inv X pins σ H s)
    (hch : ∀ b ∈ ch, (b ∈ X.ex ∨ X.s_0.heap.objs.size ≤ b) ∧ b ≠ X.env.locals ∧ (∀ x c, X.env.cells.lookup x = some c → c ≠ b) ∧ ∀ p ∈ X.pn ++ pins, p.1 ≠ b)
    (keep : ∀ b o, b ≠ X.env.locals → b ∉ X.fs → b ∉ ch → s.heap.get? b = some o → H b = none → h'.get? b = some o)
    (slot : ∀ b o, b ≠ X.env.locals → b ∈ X.fs → b ∉ ch → s.heap.get? b = some o → H b = none → ∃ sl, h'.get? b = some { o with slots := sl }) (free : ∀ b o, b ∉ ch → s.heap.get? b = some o → H b = none → H' b = none)
    (there : ∀ b o, b ∉ ch → s.heap.get? b = some o → ∃ o', h'.get? b = some o')
    (tups : ∀ b xs, H b = some (.tup xs) → H' b = some (.tup xs)) (frzs : ∀ b o u, H b = some (.frz o u) → H' b = some (.frz o u)) (tbls : ∀ b ps, H b = some (.tbl ps) → ∃ more, H' b = some (.tbl (ps ++ more)))
    (ns : ∀ m, s.heap.Ns X.env.locals m → h'.Ns X.env.locals m) (hok : HOk X.prog X.w H' h') (hg : AllBare g') :
    Inv X pins σ H' { s with heap := h', gens := g', drawn := d', toks := t' } := by
  have neL : ∀ b o, X.s_0.heap.get? b = some o → b ≠ X.env.locals := fun b o e => Nat.ne_of_lt (Nat.lt_of_lt_of_le (Heap.lt_size e) I.ok.above)
  have neC : ∀ b o, X.s_0.heap.get? b = some o → b ∉ X.ex → b ∉ ch := fun b o e hx hb => by
    rcases (hch b hb).1 with z | z
    · exact hx z
    · exact absurd (Nat.lt_of_lt_of_le (Heap.lt_size e) z) (Nat.lt_irrefl _)
  have cellK : ∀ x c, X.env.cells.lookup x = some c → ∀ v, s.heap.IsCell c v → h'.IsCell c v := fun x c e v ⟨o, ho, hd⟩ => by
    have nch : c ∉ ch := fun z => (hch c z).2.2.1 x c e rfl
    by_cases hc : c ∈ X.fs
    · obtain ⟨sl, q⟩ := slot c o (I.cne x c e) hc nch ho (I.freeC x c e)
      exact ⟨_, q, hd⟩
    · exact ⟨o, keep c o (I.cne x c e) hc nch ho (I.freeC x c e), hd⟩
  refine ⟨I.ok, I.os, hg, ⟨fun b o e n hb hx => ?_, fun b o e n hb hx => ?_, fun b o e n hx => ?_, fun b o e hx => ?_, fun b xs e => tups b xs (I.base.tups b xs e), fun b o xs e => frzs b o xs (I.base.frzs b o xs e), fun b ps e => ?_⟩, ?_, fun x c e => ?_, ?_, fun x c e => ?_, fun p hp => ?_, hok, I.len⟩
  · exact keep b o (neL b o e) hb (neC b o e hx) (I.base.keep b o e n hb hx) (I.base.free b o e n hx)
  · obtain ⟨sl, e1⟩ := I.base.slot b o e n hb hx
    obtain ⟨sl', e2⟩ := slot b _ (neL b o e) hb (neC b o e hx) e1 (I.base.free b o e n hx)
    exact ⟨sl', e2⟩
  · obtain ⟨o', e1⟩ := I.base.there b o e hx
    exact free b o' (neC b o e hx) e1 (I.base.free b o e n hx)
  · obtain ⟨o', e1⟩ := I.base.there b o e hx
    exact there b o' (neC b o e hx) e1
  · obtain ⟨m1, e1⟩ := I.base.tbls b ps e
    obtain ⟨m2, e2⟩ := tbls b _ e1
    exact ⟨m1 ++ m2, by rw [e2, Array.append_assoc]⟩
  · obtain ⟨m, hn, hl⟩ := I.loc
    refine ⟨m, ns m hn, fun i x v e1 e2 e3 => ?_⟩
    obtain ⟨u, r, l⟩ := hl i x v e1 e2 e3
    refine ⟨u, r, ?_⟩
    rcases l with l | ⟨k, c, e, z⟩
    · exact .inl l
    · exact .inr ⟨k, c, e, cellK x c e _ z⟩
  · obtain ⟨v, z⟩ := I.cell x c e
    exact ⟨v, cellK x c e v z⟩
  · obtain ⟨m, ⟨o, _, _, ho, _⟩, _⟩ := I.loc
    exact free _ o (fun z => (hch _ z).2.1 rfl) ho I.free
  · obtain ⟨v, o, ho, hd⟩ := I.cell x c e
    exact free c o (fun z => (hch c z).2.2.1 x c e rfl) ho (I.freeC x c e)
  · obtain ⟨e, n, ne, nf, d⟩ := I.pin p hp
    have nch : p.1 ∉ ch := fun z => (hch p.1 z).2.2.2 p hp rfl
    exact ⟨keep p.1 p.2 ne nf nch e n, free p.1 p.2 nch e n, ne, nf, d⟩
/-- .. where the frame's own object is kept too -/
theorem Inv.un {t' : Nat} (I : Inv X pins σ H s) (u : Un X.fs [] H H' s.heap h') (hok : HOk X.prog X.w H' h') : Inv X pins σ H' { s with heap := h', toks := t' } := by
  obtain ⟨m, ⟨o, es, ep, ho, r⟩, _⟩ := id I.loc
  obtain ⟨sl, hL⟩ := u.any ho I.free (by simp)
  exact I.step (g' := s.gens) (d' := s.drawn) (ch := []) (fun _ z => nomatch z) (fun b o _ hb _ e n => u.keep b o e n hb (by simp)) (fun b o _ hb _ e n => u.slot b o e n hb (by simp)) (fun b o _ e n => u.free b o e n (by simp)) (fun b o _ e => u.there b o e (by simp)) u.tups u.frzs u.tbls (fun m' hm => by
    obtain ⟨o', es', ep', ho', r'⟩ := hm
    rw [ho] at ho'; cases ho'
    exact ⟨_, es', ep', hL, r'⟩) hok I.bare
/-- behind a call (or a comprehension's block): the slots of this frame may have changed too, the records at ch may have turned -/
theorem Inv.call {g' : Array GenState} {t' : Nat} {d' : Drawn} {ch : List Addr} (I : Inv X pins σ H s) (u : Un (frs X.stack) ch H H' s.heap h') (hok : HOk X.prog X.w H' h') (hg : AllBare g')
    (hch : ∀ b ∈ ch, (b ∈ X.ex ∨ X.s_0.heap.objs.size ≤ b) ∧ b ≠ X.env.locals ∧ (∀ x c, X.env.cells.lookup x = some c → c ≠ b) ∧ ∀ p ∈ X.pn ++ pins, p.1 ≠ b) :
    Inv X pins σ H' { s with heap := h', gens := g', drawn := d', toks := t' } := by
  obtain ⟨m, ⟨o, es, ep, ho, r⟩, _⟩ := id I.loc
  obtain ⟨sl, hL⟩ := u.any ho I.free fun z => (hch _ z).2.1 rfl
  exact I.step (ch := ch) hch (fun b o hL hb hc e n => u.keep b o e n (fun z => (List.mem_cons.mp (I.stkSub b z)).elim hL hb) hc) (fun b o _ _ hc e n => u.any e n hc) (fun b o hc e n => u.free b o e n hc) (fun b o hc e => u.there b o e hc) u.tups u.frzs u.tbls (fun m' hm => by
    obtain ⟨o', es', ep', ho', r'⟩ := hm
    rw [ho] at ho'; cases ho'
    exact ⟨_, es', ep', hL, r'⟩) hok hg
/-- an untracked record of ours (an iterator) has turned -/
theorem Inv.turned {t' : Nat} {it : Addr} (I : Inv X pins σ H s) (k : ∀ b o, b ≠ it → s.heap.get? b = some o → h'.get? b = some o) (hn : H it = none) (hL : it ≠ X.env.locals)
    (h1 : it ∈ X.ex ∨ X.s_0.heap.objs.size ≤ it) (h2 : ∀ x c, X.env.cells.lookup x = some c → c ≠ it) (h3 : ∀ p ∈ X.pn ++ pins, p.1 ≠ it) : Inv X pins σ H { s with heap := h', toks := t' } := by
  have nit : ∀ b u, H b = some u → b ≠ it := fun b u e z => by rw [z, hn] at e; cases e
  refine I.step (g' := s.gens) (d' := s.drawn) (ch := [it]) (fun b hb => ?_) (fun b o _ _ hc e _ => k b o (fun z => hc (by simp [z])) e) (fun b o _ _ hc e _ => ⟨o.slots, k b o (fun z => hc (by simp [z])) e⟩) (fun _ _ _ _ n => n)
    (fun b o hc e => ⟨o, k b o (fun z => hc (by simp [z])) e⟩) (fun _ _ e => e) (fun _ _ _ e => e) (fun b ps e => ⟨#[], by rw [e]; simp⟩) (fun m hm => ?_) (fun b u e => ?_) I.bare
  · have e : b = it := by simpa using hb
    subst e
    exact ⟨h1, hL, h2, h3⟩
  · obtain ⟨o, es, ep, ho, r⟩ := hm
    exact ⟨o, es, ep, k _ o (Ne.symm hL) ho, r⟩
  · refine (I.hok b u e).stay (fun c v hc q => k c v ?_ q) (fun _ q => q) fun _ _ q => q
    rcases hc with z | z
    · rw [z]; exact nit b u e
    · exact nit c _ z
theorem Inv.tok (I : Inv X pins σ H s) (t : Nat) : Inv X pins σ H { s with toks := t } := I.un (h' := s.heap) (t' := t) Un.refl I.hok
/-- all objects kept -/
theorem Inv.kept {t' : Nat} (I : Inv X pins σ H s) (k : ∀ b u, s.heap.get? b = some u → h'.get? b = some u) : Inv X pins σ H { s with heap := h', toks := t' } := I.un (Un.kept k) (I.hok.kept k)
/-- a new object laid and tracked -/
theorem Inv.laid {a : Addr} {o : HO} {t' : Nat} (I : Inv X pins σ H s) (k : ∀ b u, s.heap.get? b = some u → h'.get? b = some u) (hp : s.heap.objs.size ≤ a) (new : ObjOk X.prog X.w (upd H a o) h' a o) :
    Inv X pins σ (upd H a o) { s with heap := h', toks := t' } := I.un (Un.laid k hp (I.hok.fresh hp)) (I.hok.laid k hp new)
/-- an object written -/
theorem Inv.write {x e : Addr} {o : HO} {t' : Nat} (I : Inv X pins σ H s) (mu : Mut (H x)) (he : e = x ∨ H e = some (.own x)) (k : ∀ b u, b ≠ e → s.heap.get? b = some u → h'.get? b = some u) (heo : ∃ u, h'.get? e = some u)
    (new : ObjOk X.prog X.w (upd H x o) h' x o) : Inv X pins σ (upd H x o) { s with heap := h', toks := t' } := I.un (Un.write mu he k heo) (I.hok.write mu he k heo new)
theorem Inv.pins_of {pins' : List (Addr × Obj)} (I : Inv X pins σ H s) (h : ∀ p ∈ pins', s.heap.get? p.1 = some p.2 ∧ H p.1 = none ∧ p.1 ≠ X.env.locals ∧ p.1 ∉ X.fs ∧ ∀ v, p.2.data ≠ .cell v) : Inv X pins' σ H s :=
  ⟨I.ok, I.os, I.bare, I.base, I.loc, I.cell, I.free, I.freeC, fun p hp => (List.mem_append.mp hp).elim (fun z => I.pin p (List.mem_append_left _ z)) (h p), I.hok, I.len⟩

theorem nodup_ix {N : List Str} (hN : N.Nodup) {i j : Nat} {x : Str} (a : N[i]? = some x) (b : N[j]? = some x) : i = j := by
  obtain ⟨h1, e1⟩ := List.getElem?_eq_some_iff.mp a
  obtain ⟨h2, e2⟩ := List.getElem?_eq_some_iff.mp b
  exact (List.getElem_inj hN).mp (e1.trans e2.symm)

/-- a name is stored; what changed -/
theorem store_ok2 {M : Model} {A : Around} {E : Value → Shared → Prop} {i : Nat} {x : Str} {v : V} {u : Value} {Q : Unit → Shared → Prop} (I : Inv X pins σ H s) (hN : X.N.Nodup) (hi : X.N[i]? = some x) (hx : Loc X.env.scope x) (r : RelV v u)
    (h : ∀ s', Inv X pins (σ.set i (some v)) H s' → (∃ a, Heap.SameBut a s.heap s'.heap ∧ (a = X.env.locals ∨ X.env.cells.lookup x = some a)) → Q () s') (hf : X.fn x = true ∨ X.env.scope.names.lookup x = some .local := by first | exact .inl rfl | exact .inr rfl | assumption) : wpAny M A (storeName X.env x u) Q E s := by
  obtain ⟨m, hn, hl⟩ := id I.loc
  have hcls : (X.env.scope.kind == .class || (X.env.scope.kind == .module && X.env.locals != X.env.globals)) = false := by rw [I.ok.kind]; rfl
  have hiσ : i < σ.length := by rw [I.len]; exact (List.getElem?_eq_some_iff.mp hi).1
  have cne := I.cne
  have tracked : ∀ {a : Addr} {h' : Heap}, (∃ o, s.heap.get? a = some o ∧ H a = none) → Heap.SameBut a s.heap h' → HOk X.prog X.w H h' := fun {a h'} ha hs b ob e => by
    obtain ⟨_, _, hfree⟩ := ha
    refine (I.hok b ob e).stay (fun c w' hc q => (hs.2 c ?_).trans q) (fun _ q => q) fun _ _ q => q
    rintro rfl
    rcases hc with rfl | hc
    · rw [hfree] at e; cases e
    · rw [hfree] at hc; cases hc
  rcases hx with hk | hk
  · refine wpAny_storeName_local hk hn (fun h' hn' hs => ?_) hcls
    obtain ⟨oL, _, _, hoL, _⟩ := id hn
    refine h _ ⟨I.ok, I.os, I.bare, ⟨fun b o e n hb hx => ?_, fun b o e n hb hx => ?_, I.base.free, fun b o e hx => ?_, I.base.tups, I.base.frzs, I.base.tbls⟩, ⟨_, hn', fun j y v' e1 e2 e3 => ?_⟩, fun y c e => ?_, I.free, I.freeC, fun p hp => ?_, tracked ⟨oL, hoL, I.free⟩ hs, by simpa using I.len⟩ ⟨_, hs, .inl rfl⟩
    · exact (hs.2 b (Nat.ne_of_lt (Nat.lt_of_lt_of_le (Heap.lt_size e) I.ok.above))).trans (I.base.keep b o e n hb hx)
    · obtain ⟨sl, e1⟩ := I.base.slot b o e n hb hx
      exact ⟨sl, (hs.2 b (Nat.ne_of_lt (Nat.lt_of_lt_of_le (Heap.lt_size e) I.ok.above))).trans e1⟩
    · obtain ⟨o', e1⟩ := I.base.there b o e hx
      exact ⟨o', (hs.2 b (Nat.ne_of_lt (Nat.lt_of_lt_of_le (Heap.lt_size e) I.ok.above))).trans e1⟩
    · by_cases hj : j = i
      · subst hj
        rw [hi] at e1; cases e1
        rw [List.getElem?_set_self hiσ] at e2
        cases e2
        exact ⟨u, r, .inl ⟨hk, by simp⟩⟩
      · rw [List.getElem?_set_ne (Ne.symm hj)] at e2
        obtain ⟨u', r', q⟩ := hl j y v' e1 e2 e3
        refine ⟨u', r', ?_⟩
        rcases q with ⟨k, e⟩ | ⟨k, c, e, z⟩
        · refine .inl ⟨k, ?_⟩
          have : y ≠ x := fun e => hj (nodup_ix hN e1 (e ▸ hi))
          simp [this, e]
        · exact .inr ⟨k, c, e, z.sameBut hs (cne y c e)⟩
    · obtain ⟨w', z⟩ := I.cell y c e
      exact ⟨w', z.sameBut hs (cne y c e)⟩
    · obtain ⟨e, n, ne, nf, d⟩ := I.pin p hp
      exact ⟨(hs.2 p.1 ne).trans e, n, ne, nf, d⟩
  · have hfn : X.fn x = true := by
      rcases hf with z | z
      · exact z
      · rw [z] at hk; cases hk
    obtain ⟨c, hc⟩ := I.ok.has x (.inl hk)
    obtain ⟨w', z⟩ := I.cell x c hc
    refine wpAny_storeName_cell I.ok.kind hk hc z (fun h' hc' hs => ?_)
    obtain ⟨oc, hoc, hocd⟩ := id z
    refine h { s with heap := h' } ⟨I.ok, I.os, I.bare, ⟨fun b o e n hb hx => ?_, fun b o e n hb hx => ?_, I.base.free, fun b o e hx => ?_, I.base.tups, I.base.frzs, I.base.tbls⟩, ⟨m, hn.sameBut hs (Ne.symm (cne x c hc)), fun j y v' e1 e2 e3 => ?_⟩, fun y c' e => ?_, I.free, I.freeC, fun p hp => ?_, tracked ⟨oc, hoc, I.freeC x c hc⟩ hs, by simpa using I.len⟩ ⟨c, hs, .inr hc⟩
    · exact (hs.2 b (Nat.ne_of_lt (Nat.lt_of_lt_of_le (Heap.lt_size e) (I.ok.cab x c hfn hc)))).trans (I.base.keep b o e n hb hx)
    · obtain ⟨sl, e1⟩ := I.base.slot b o e n hb hx
      exact ⟨sl, (hs.2 b (Nat.ne_of_lt (Nat.lt_of_lt_of_le (Heap.lt_size e) (I.ok.cab x c hfn hc)))).trans e1⟩
    · obtain ⟨o', e1⟩ := I.base.there b o e hx
      exact ⟨o', (hs.2 b (Nat.ne_of_lt (Nat.lt_of_lt_of_le (Heap.lt_size e) (I.ok.cab x c hfn hc)))).trans e1⟩
    · by_cases hj : j = i
      · subst hj
        rw [hi] at e1; cases e1
        rw [List.getElem?_set_self hiσ] at e2
        cases e2
        exact ⟨u, r, .inr ⟨.inl hk, c, hc, hc'⟩⟩
      · rw [List.getElem?_set_ne (Ne.symm hj)] at e2
        obtain ⟨u', r', q⟩ := hl j y v' e1 e2 e3
        refine ⟨u', r', ?_⟩
        rcases q with q | ⟨k, c', e, z'⟩
        · exact .inl q
        · refine .inr ⟨k, c', e, z'.sameBut hs ?_⟩
          rintro rfl
          exact hj (nodup_ix hN e1 (I.ok.inj _ _ _ e hc ▸ hi))
    · by_cases hcc : c' = c
      · subst hcc; exact ⟨_, hc'⟩
      · obtain ⟨w2, z2⟩ := I.cell y c' e
        exact ⟨w2, z2.sameBut hs hcc⟩
    · obtain ⟨e, n, ne, nf, d⟩ := I.pin p hp
      refine ⟨(hs.2 p.1 ?_).trans e, n, ne, nf, d⟩
      intro q
      rw [q, hoc] at e
      have q' : oc = p.2 := Option.some.inj e
      exact d w' (by rw [← q']; exact hocd)
theorem store_ok {M : Model} {A : Around} {E : Value → Shared → Prop} {i : Nat} {x : Str} {v : V} {u : Value} {Q : Unit → Shared → Prop} (I : Inv X pins σ H s) (hN : X.N.Nodup) (hi : X.N[i]? = some x) (hx : Loc X.env.scope x) (r : RelV v u)
    (h : ∀ s', Inv X pins (σ.set i (some v)) H s' → Q () s') (hf : X.fn x = true ∨ X.env.scope.names.lookup x = some .local := by first | exact .inl rfl | exact .inr rfl | assumption) : wpAny M A (storeName X.env x u) Q E s :=
  store_ok2 I hN hi hx r (fun s' I' _ => h s' I') hf
end

/-! ### the judgements -/
/-- an exception: its class, its own dict's address (where it has one), the abstract heap behind it -/
abbrev XK := Value → Option Addr → Hp → Prop
abbrev St := List (Option V)
abbrev VK := V → Hp → Prop
/-- an expression's reading; a test's; an argument list's -/
abbrev TE := St → Hp → VK → Prop
abbrev TT := St → Hp → (Bool → Hp → Prop) → Prop
abbrev TA := St → Hp → (List V → Hp → Prop) → Prop
/-- what is wanted behind a statement -/
structure Ends where
  nx : St → Hp → Prop
  rt : VK
  bk : St → Hp → Prop := fun _ _ => False
  ct : St → Hp → Prop := fun _ _ => False
abbrev TS := Ends → St → Hp → Prop

def EP (X : Cx) (pins : List (Addr × Obj)) (σ : St) (Q : VK) (u : Value) (s' : Shared) : Prop := ∃ v H', Inv X pins σ H' s' ∧ RelV v u ∧ Q v H'
def TP (X : Cx) (pins : List (Addr × Obj)) (σ : St) (Q : Bool → Hp → Prop) (b : Bool) (s' : Shared) : Prop := ∃ H', Inv X pins σ H' s' ∧ Q b H'
def AP (X : Cx) (pins : List (Addr × Obj)) (σ : St) (Q : List V → Hp → Prop) (us : List Value) (s' : Shared) : Prop := ∃ vs H', Inv X pins σ H' s' ∧ Vals vs us ∧ Q vs H'
def SP (X : Cx) (pins : List (Addr × Obj)) (D : Ends) (f : Flow) (s' : Shared) : Prop :=
  match f with
  | .next => ∃ σ' H', Inv X pins σ' H' s' ∧ D.nx σ' H'
  | .brk => ∃ σ' H', Inv X pins σ' H' s' ∧ D.bk σ' H'
  | .cont => ∃ σ' H', Inv X pins σ' H' s' ∧ D.ct σ' H'
  | .ret u => ∃ v σ' H', Inv X pins σ' H' s' ∧ RelV v u ∧ D.rt v H'

def PE (X : Cx) (e : Expr) (t : TE) : Prop :=
  ∀ (pins : List (Addr × Obj)) (s : Shared) (σ : St) (H : Hp) (Q : VK), Inv X pins σ H s → t σ H Q → wpAny (model X.prog X.w) X.A (eval e X.env) (EP X pins σ Q) X.xe s
def PT (X : Cx) (e : Expr) (t : TT) : Prop :=
  ∀ (pins : List (Addr × Obj)) (s : Shared) (σ : St) (H : Hp) (Q : Bool → Hp → Prop), Inv X pins σ H s → t σ H Q → wpAny (model X.prog X.w) X.A (isTrue e X.env (eval e X.env)) (TP X pins σ Q) X.xe s
/-- a test whatever its 'whole' is (and, or) -/
def PW (X : Cx) (e : Expr) (t : TT) : Prop :=
  ∀ (whole : Sem Value) (pins : List (Addr × Obj)) (s : Shared) (σ : St) (H : Hp) (Q : Bool → Hp → Prop), Inv X pins σ H s → t σ H Q → wpAny (model X.prog X.w) X.A (isTrue e X.env whole) (TP X pins σ Q) X.xe s
theorem PW.pt {X : Cx} {e : Expr} {t : TT} (h : PW X e t) : PT X e t := h _
/-- an argument list (no star), from the left -/
def PA (X : Cx) (es : List Expr) (t : TA) : Prop :=
  ∀ (pos : Pos) (pins : List (Addr × Obj)) (s : Shared) (σ : St) (H : Hp) (Q : List V → Hp → Prop), Inv X pins σ H s → t σ H Q → wpAny (model X.prog X.w) X.A (spliced (backTo pos (starEach es X.env))) (AP X pins σ Q) X.xe s
def PS (X : Cx) (st : Stmt) (t : TS) : Prop :=
  ∀ (pins : List (Addr × Obj)) (s : Shared) (σ : St) (H : Hp) (D : Ends), Inv X pins σ H s → t D σ H → wpAny (model X.prog X.w) X.A (exec st X.env) (SP X pins D) X.xe s
def PSs (X : Cx) (st : List Stmt) (t : TS) : Prop :=
  ∀ (pins : List (Addr × Obj)) (s : Shared) (σ : St) (H : Hp) (D : Ends), Inv X pins σ H s → t D σ H → wpAny (model X.prog X.w) X.A (execs st X.env) (SP X pins D) X.xe s
/-- weaken the end -/
theorem thn {α : Type} {t : Sem α} {Q Q' : α → Shared → Prop} {M : Model} {A : Around} {E : Value → Shared → Prop} {s : Shared} (h : wpAny M A t Q E s) (hQ : ∀ a s, Q a s → Q' a s) : wpAny M A t Q' E s := wpAny_mono h hQ fun _ _ x => x
end L2

namespace L2
open PySem PySem.Spec PyProof.Rows
section
variable {X : Cx}

/-! ### names and constants -/
def tVar (i : Nat) : TE := fun σ H Q => ∃ v, σ[i]? = some (some v) ∧ Q v H
def tC (v : V) : TE := fun _ H Q => Q v H
theorem pe_var {i : Nat} {x : Str} {pos : Pos} (hN : X.N[i]? = some x) (hv : Vis X.env.scope x) (hd : (x == ("__debug__" : Str)) = false := by decide) (hcd : (x == ("__classdict__" : Str)) = false := by decide) : PE X (.Name x pos) (tVar i) := by
  intro pins s σ H Q I h
  obtain ⟨v, e, h⟩ := h
  obtain ⟨m, hn, hl⟩ := I.loc
  obtain ⟨u, r, l⟩ := hl i x v hN e hv
  have fin : EP X pins σ Q u s := ⟨v, H, I, r, h⟩
  rcases l with ⟨hk, hm⟩ | ⟨hk, c, hc, hcell⟩
  · exact wpAny_Name (wpAny_loadName_local I.ok.kind hk hn hm fin) hd
  · rcases hk with hk | hk
    · exact wpAny_Name (wpAny_loadName_cell I.ok.kind hk hc hcell fin) hd
    · exact wpAny_Name (wpAny_loadName_free I.ok.kind hk hc hcell fin hcd) hd
theorem pe_int {i j pos} : PE X (.Constant (.int i) j pos) (tC (.int i)) := fun _ _ _ H _ I h => wpAny_Constant_int ⟨.int i, H, I.tok _, ⟨_, rfl⟩, h⟩
theorem pe_bl {b j pos} : PE X (.Constant (.bool b) j pos) (tC (.bl b)) := fun _ _ _ H _ I h => Constant_bool ⟨.bl b, H, I, rfl, h⟩
theorem pe_non {j pos} : PE X (.Constant .none j pos) (tC .non) := fun _ _ _ H _ I h => Constant_none ⟨.non, H, I, rfl, h⟩

/-- a global name of the def -/
def Gl (X : Cx) (x : Str) : Prop := X.env.kindOf x = some .globalImplicit
theorem ld_glob {E : Value → Shared → Prop} {pins : List (Addr × Obj)} {s : Shared} {σ : St} {H : Hp} {x : Str} {u : Value} {pos : Pos} {Q : Value → Shared → Prop} (I : Inv X pins σ H s) (hg : Gl X x) (hm : X.mg x = some u) (h : Q u s)
    (hd : (x == ("__debug__" : Str)) = false := by decide) : wpAny (model X.prog X.w) X.A (eval (.Name x pos) X.env) Q E s :=
  Calls.Name_function_global I.ok.kind hg (Calls.loadGlobal_global (by rw [I.ok.glob]; exact I.mod.glob.keeps I.bk) hm h) hd
theorem ld_blt {E : Value → Shared → Prop} {pins : List (Addr × Obj)} {s : Shared} {σ : St} {H : Hp} {x : Str} {u : Value} {pos : Pos} {Q : Value → Shared → Prop} (I : Inv X pins σ H s) (hg : Gl X x) (hm : X.mg x = none) (hv : bootBuiltins x = some u) (h : Q u s)
    (hn : x ≠ "__name__" := by decide) (hd : (x == ("__debug__" : Str)) = false := by decide) : wpAny (model X.prog X.w) X.A (eval (.Name x pos) X.env) Q E s := by
  obtain ⟨mb, h1, h2⟩ := I.mod.blt
  exact Calls.Name_function_global I.ok.kind hg (Calls.loadGlobal_builtin (by rw [I.ok.glob]; exact I.mod.glob.keeps I.bk) hm (by rw [I.ok.blt]; exact h1.keeps I.bk) ((h2 x hn).trans hv) h) hd
/-- a module's constant, a class, a function, as a value -/
theorem pe_glob {x : Str} {v : V} {u : Value} {pos : Pos} (hg : Gl X x) (hm : X.mg x = some u) (r : RelV v u) (hd : (x == ("__debug__" : Str)) = false := by decide) : PE X (.Name x pos) (tC v) :=
  fun _ _ _ H _ I h => ld_glob I hg hm ⟨v, H, I, r, h⟩ hd

/-! ### arithmetic -/
variable {a b : Expr} {ta tb : TE} {pos : Pos}

/-! ### comparisons -/

/-! ### and, or, not -/
variable {tA tB' : TT} {rest : List Expr}
def tAnd (t u : TT) : TT := fun σ H Q => t σ H fun c H1 => if c = true then u σ H1 Q else Q false H1
def tOr (t u : TT) : TT := fun σ H Q => t σ H fun c H1 => if c = true then Q true H1 else u σ H1 Q
def tNot (t : TT) : TT := fun σ H Q => t σ H fun c H1 => Q (!c) H1
theorem pw_and1 (ha : PT X a tA) : PW X (.BoolOp .And [a] pos) tA := by
  intro wh pins s σ H Q I h
  refine isTrue_and (thn (ha pins s σ H Q I h) fun c s1 e => ?_)
  cases c with
  | true => exact isTrue_and_nil e
  | false => exact e
theorem pw_or1 (ha : PT X a tA) : PW X (.BoolOp .Or [a] pos) tA := by
  intro wh pins s σ H Q I h
  refine isTrue_or (thn (ha pins s σ H Q I h) fun c s1 e => ?_)
  cases c with
  | false => exact isTrue_or_nil e
  | true => exact e
theorem pw_and (ha : PT X a tA) (hb : PW X (.BoolOp .And (b :: rest) pos) tB') : PW X (.BoolOp .And (a :: b :: rest) pos) (tAnd tA tB') := by
  intro wh pins s σ H Q I h
  refine isTrue_and (thn (ha pins s σ H _ I h) fun c s1 ⟨H1, I1, q1⟩ => ?_)
  cases c with
  | true => exact hb wh pins s1 σ H1 Q I1 q1
  | false => exact ⟨H1, I1, q1⟩
theorem pw_or (ha : PT X a tA) (hb : PW X (.BoolOp .Or (b :: rest) pos) tB') : PW X (.BoolOp .Or (a :: b :: rest) pos) (tOr tA tB') := by
  intro wh pins s σ H Q I h
  refine isTrue_or (thn (ha pins s σ H _ I h) fun c s1 ⟨H1, I1, q1⟩ => ?_)
  cases c with
  | true => exact ⟨H1, I1, q1⟩
  | false => exact hb wh pins s1 σ H1 Q I1 q1
theorem pt_not (ha : PT X a tA) : PT X (.UnaryOp .Not a pos) (tNot tA) := by
  intro pins s σ H Q I h
  exact isTrue_not (ha pins s σ H (fun c H1 => Q (!c) H1) I h)
/-- .. as values (bools) -/
def tAndV (ta tb : TE) : TE := fun σ H Q => ta σ H fun x H1 => ∃ c, x = .bl c ∧ if c = true then tb σ H1 Q else Q (.bl false) H1
def tNotV (ta : TE) : TE := fun σ H Q => ta σ H fun x H1 => ∃ c, x = .bl c ∧ Q (.bl (!c)) H1
theorem pe_one {op} {t : TE} (h : PE X a t) : PE X (.BoolOp op [a] pos) t := fun pins s σ H Q I hw => BoolOp_one (h pins s σ H Q I hw)
theorem pe_and (ha : PE X a ta) (hb : PE X (.BoolOp .And (b :: rest) pos) tb) : PE X (.BoolOp .And (a :: b :: rest) pos) (tAndV ta tb) := by
  intro pins s σ H Q I h
  refine BoolOp_and (thn (ha pins s σ H _ I h) fun v s1 ⟨x, H1, I1, r1, q1⟩ => ?_)
  obtain ⟨c, rfl, q1⟩ := q1
  cases r1
  refine wpAny_truthy_bool ?_
  cases c with
  | true => exact hb pins s1 σ H1 Q I1 q1
  | false => exact ⟨.bl false, H1, I1, rfl, q1⟩
theorem pe_not (ha : PE X a ta) : PE X (.UnaryOp .Not a pos) (tNotV ta) := by
  intro pins s σ H Q I h
  refine UnaryOp_ (thn (ha pins s σ H _ I h) fun v s1 ⟨x, H1, I1, r1, q1⟩ => ?_)
  obtain ⟨c, rfl, q1⟩ := q1
  cases r1
  exact not_of (wpAny_truthy_bool ⟨.bl (!c), H1, I1, rfl, q1⟩)
/-- a if t else b -/
def tIf (t : TT) (ta tb : TE) : TE := fun σ H Q => t σ H fun c H1 => if c = true then ta σ H1 Q else tb σ H1 Q
theorem pe_ifExp {c : Expr} (hc : PT X c tA) (ha : PE X a ta) (hb : PE X b tb) : PE X (.IfExp c a b pos) (tIf tA ta tb) := by
  intro pins s σ H Q I h
  refine wpAny_IfExp (thn (hc pins s σ H _ I h) fun d s1 ⟨H1, I1, q1⟩ => ?_)
  cases d with
  | true => exact ha pins s1 σ H1 Q I1 q1
  | false => exact hb pins s1 σ H1 Q I1 q1
end
end L2

namespace L2
open PySem PySem.Spec PyProof.Rows

/-! ### a list, a tuple that is read: tracked, frozen, or an object of the module -/
def SqL (K : PySem.W.Frag) (H : Hp) (a : Addr) (xs : List V) : Prop :=
  Rd H a (.lst xs) ∨
    ∃ (o : Obj) (its : Array Value) (n : Nat), K.lookup a = some o ∧ o.cls = .type "list" ∧ o.dict = none ∧ o.data = .seq its n ∧ its.size ≤ sizeLine ∧ Vals xs its.toList
def SqT (K : PySem.W.Frag) (H : Hp) (a : Addr) (xs : List V) : Prop :=
  Rd H a (.tup xs) ∨
    ∃ (o : Obj) (its : Array Value) (n : Nat), K.lookup a = some o ∧ o.cls = .type "tuple" ∧ o.data = .seq its n ∧ its.size ≤ sizeLine ∧ Vals xs its.toList
def absV : Value → Option V
  | .none => some .non
  | .bool b => some (.bl b)
  | .int i _ => some (.int i)
  | .str x _ => some (.str x)
  | .bytes b _ => some (.byt b)
  | .float b _ => some (.flt b)
  | .ref a => some (.ref a)
  | .type n => some (.ty n)
  | _ => none
theorem RelV.abs {x : V} {u : Value} (r : RelV x u) : absV u = some x := by
  cases x with
  | non => cases r; rfl
  | bl _ => cases r; rfl
  | int _ => obtain ⟨t, rfl⟩ := r; rfl
  | str _ => obtain ⟨t, rfl⟩ := r; rfl
  | byt _ => obtain ⟨t, rfl⟩ := r; rfl
  | flt _ => obtain ⟨t, rfl⟩ := r; rfl
  | ref _ => cases r; rfl
  | ty _ => cases r; rfl
theorem RelV.inj {x y : V} {u : Value} (r : RelV x u) (q : RelV y u) : x = y := Option.some.inj (r.abs.symm.trans q.abs)
theorem Vals.inj : ∀ {xs ys : List V} {us : List Value}, Vals xs us → Vals ys us → xs = ys
  | _, _, _, .nil, .nil => rfl
  | _, _, _, .cons r t, .cons r' t' => by rw [r.inj r', Vals.inj t t']
section
variable {X : Cx} {pins : List (Addr × Obj)} {σ : St} {H : Hp} {s : Shared} {a : Addr} {xs ys : List V}
theorem SqL.of {K : PySem.W.Frag} (h : H a = some (.lst xs)) : SqL K H a xs := .inl (.inl h)
theorem SqT.of {K : PySem.W.Frag} (h : H a = some (.tup xs)) : SqT K H a xs := .inl (.inl h)
theorem Inv.list (I : Inv X pins σ H s) (h : SqL X.K H a xs) : ∃ its : List Value, Vals xs its ∧ PlainL s.heap a its.toArray ∧ xs.length ≤ sizeLine := by
  rcases h with h | ⟨o, its, n, hk, hc, hd, hs, hz, r⟩
  · obtain ⟨z, its, n, r, e⟩ := h.ok I.hok
    exact ⟨its, r, ⟨_, n, e, rfl, rfl, rfl⟩, z⟩
  · refine ⟨its.toList, r, ⟨o, n, I.kIn a o hk, hc, hd, by simpa using hs⟩, ?_⟩
    have e := r.length
    simp only [Array.length_toList] at e
    omega
theorem Inv.tuple (I : Inv X pins σ H s) (h : SqT X.K H a xs) : ∃ its : List Value, Vals xs its ∧ IsTup s.heap a its.toArray ∧ xs.length ≤ sizeLine := by
  rcases h with h | ⟨o, its, n, hk, hc, hs, hz, r⟩
  · obtain ⟨z, its, r, p⟩ := h.ok I.hok
    exact ⟨its, r, p, z⟩
  · refine ⟨its.toList, r, ⟨o, I.kIn a o hk, hc, n, by simpa using hs⟩, ?_⟩
    have e := r.length
    simp only [Array.length_toList] at e
    omega
theorem Inv.list_inj (I : Inv X pins σ H s) (h : SqL X.K H a xs) (h' : SqL X.K H a ys) : xs = ys := by
  obtain ⟨its, r, ⟨o, n, e, _, _, d⟩, _⟩ := I.list h
  obtain ⟨its', r', ⟨o', n', e', _, _, d'⟩, _⟩ := I.list h'
  rw [e] at e'; cases e'
  rw [d] at d'
  injection d' with d1 _
  have : its = its' := by simpa using congrArg Array.toList d1
  subst this
  exact r.inj r'
end

/-! ### another wish about exceptions -/
abbrev Cx.wish (X : Cx) (E : Value → Shared → Prop) : Cx := { X with xe := E }
/-- no exception leaves -/
abbrev Cx.nox (X : Cx) : Cx := X.wish fun _ _ => False
theorem Cx.Ok.wish {X : Cx} (ok : X.Ok) (E : Value → Shared → Prop) : (X.wish E).Ok :=
  ⟨ok.mod, ok.kind, ok.glob, ok.blt, ok.above, ok.inj, ok.has, ok.cab, ok.hd, ok.frames, ok.stk, ok.exf, ok.bs, ok.bsz, ok.noex, ok.exfs, ok.funs, ok.frf⟩
theorem Cx.Ok.unwish {X : Cx} {E : Value → Shared → Prop} (ok : (X.wish E).Ok) : X.Ok :=
  ⟨ok.mod, ok.kind, ok.glob, ok.blt, ok.above, ok.inj, ok.has, ok.cab, ok.hd, ok.frames, ok.stk, ok.exf, ok.bs, ok.bsz, ok.noex, ok.exfs, ok.funs, ok.frf⟩
section
variable {X : Cx} {pins : List (Addr × Obj)} {σ : St} {H : Hp} {s : Shared} {E : Value → Shared → Prop}
theorem Inv.wish (I : Inv X pins σ H s) (E : Value → Shared → Prop) : Inv (X.wish E) pins σ H s := ⟨I.ok.wish E, I.os, I.bare, I.base, I.loc, I.cell, I.free, I.freeC, I.pin, I.hok, I.len⟩
theorem Inv.unwish (I : Inv (X.wish E) pins σ H s) : Inv X pins σ H s := ⟨I.ok.unwish, I.os, I.bare, I.base, I.loc, I.cell, I.free, I.freeC, I.pin, I.hok, I.len⟩
theorem SP.unwish {D : Ends} {f : Flow} {s' : Shared} (h : SP (X.wish E) pins D f s') : SP X pins D f s' := by
  cases f with
  | next => obtain ⟨σ', H', I, q⟩ := h; exact ⟨σ', H', I.unwish, q⟩
  | brk => obtain ⟨σ', H', I, q⟩ := h; exact ⟨σ', H', I.unwish, q⟩
  | cont => obtain ⟨σ', H', I, q⟩ := h; exact ⟨σ', H', I.unwish, q⟩
  | ret u => obtain ⟨v, σ', H', I, r, q⟩ := h; exact ⟨v, σ', H', I.unwish, r, q⟩
theorem PSs.nox {st : List Stmt} {t : TS} (h : PSs X.nox st t) : PSs X st t := fun pins s σ H D I hw =>
  wpAny_mono (h pins s σ H D (I.wish _) hw) (fun _ _ q => q.unwish) fun _ _ z => False.elim z
end

/-! ### blocks and small statements -/
section
variable {X : Cx} {st : Stmt} {rest : List Stmt} {t u : TS} {e : Expr} {te : TE} {pos : Pos}
def tNext : TS := fun D σ H => D.nx σ H
def tSeq (t u : TS) : TS := fun D σ H => t { D with nx := u D } σ H
theorem pss_nil : PSs X [] tNext := fun _ _ σ H _ I h => wpAny_execs_nil ⟨σ, H, I, h⟩
theorem pss_cons (h1 : PS X st t) (h2 : PSs X rest u) : PSs X (st :: rest) (tSeq t u) := by
  intro pins s σ H D I h
  refine wpAny_execs_cons (thn (h1 pins s σ H { D with nx := u D } I h) fun f s1 q => ?_)
  cases f with
  | next =>
    obtain ⟨σ', H', I', q⟩ := q
    exact h2 pins s1 σ' H' D I' q
  | ret v => exact q
  | brk => exact q
  | cont => exact q
theorem pss_one (h1 : PS X st t) : PSs X [st] t := by
  intro pins s σ H D I h
  refine wpAny_execs_cons (thn (h1 pins s σ H D I h) fun f s1 q => ?_)
  cases f with
  | next => exact wpAny_execs_nil q
  | ret v => exact q
  | brk => exact q
  | cont => exact q
/-- in a def's body nothing is shown -/
theorem Inv.quiet {pins : List (Addr × Obj)} {σ : St} {H : Hp} {s : Shared} (I : Inv X pins σ H s) : interactive X.env = false := by simp [interactive, I.ok.kind]
/-- an expression whose value is dropped -/
def tDrop (te : TE) : TS := fun D σ H => te σ H fun _ H1 => D.nx σ H1
theorem ps_expr (he : PE X e te) (hs : swapsWith e none pos.line X.env = pure false := by rfl) : PS X (.Expr e pos) (tDrop te) := by
  intro pins s σ H D I h
  exact wpAny_Expr_any (thn (he pins s σ H _ I h) fun v s1 ⟨x, H1, I1, r1, q1⟩ => ⟨σ, H1, I1, q1⟩) I.quiet hs
def tRet (te : TE) : TS := fun D σ H => te σ H D.rt
theorem ps_ret (he : PE X e te) : PS X (.Return (some e) pos) (tRet te) := by
  intro pins s σ H D I h
  exact wpAny_Return_some (thn (he pins s σ H _ I h) fun v s1 ⟨x, H1, I1, r1, q1⟩ => ⟨x, σ, H1, I1, r1, q1⟩)
def tIfS (c : TT) (t u : TS) : TS := fun D σ H => c σ H fun b H1 => if b = true then t D σ H1 else u D σ H1
theorem ps_if {c : Expr} {a b : List Stmt} {tc : TT} (hc : PT X c tc) (ha : PSs X a t) (hb : PSs X b u) : PS X (.If c a b pos) (tIfS tc t u) := by
  intro pins s σ H D I h
  refine wpAny_If (thn (hc pins s σ H _ I h) fun d s1 ⟨H1, I1, q1⟩ => ?_)
  cases d with
  | true => exact ha pins s1 σ H1 D I1 q1
  | false => exact hb pins s1 σ H1 D I1 q1
/-- code that the proof never comes to -/
def tNever : TS := fun _ _ _ => False
theorem ps_never : PS X st tNever := fun _ _ _ _ _ _ h => h.elim
end

/-! ### targets -/
abbrev TG := V → St → Hp → (St → Hp → Prop) → Prop
abbrev TGs := List V → St → Hp → (St → Hp → Prop) → Prop
def PG (X : Cx) (target : Expr) (t : TG) : Prop :=
  ∀ (pins : List (Addr × Obj)) (s : Shared) (σ : St) (H : Hp) (v : V) (u : Value) (Q : St → Hp → Prop), Inv X pins σ H s → RelV v u → t v σ H Q →
    wpAny (model X.prog X.w) X.A (assign target X.env u) (fun _ s' => ∃ σ' H', Inv X pins σ' H' s' ∧ Q σ' H') X.xe s
/-- several targets, one after another -/
def PGs (X : Cx) (ts : List Expr) (t : TGs) : Prop :=
  ∀ (pins : List (Addr × Obj)) (s : Shared) (σ : St) (H : Hp) (vs : List V) (us : List Value) (Q : St → Hp → Prop), Inv X pins σ H s → Vals vs us → t vs σ H Q →
    wpAny (model X.prog X.w) X.A (assignInOrder ((assignEach ts X.env).map (·.2)) us) (fun _ s' => ∃ σ' H', Inv X pins σ' H' s' ∧ Q σ' H') X.xe s
/-- o[i] = v, by values -/
abbrev TSet := V → V → V → Hp → (Hp → Prop) → Prop
def PSet (X : Cx) (t : TSet) : Prop :=
  ∀ (pins : List (Addr × Obj)) (s : Shared) (σ : St) (H : Hp) (o i v : V) (ov iv u : Value) (Q : Hp → Prop), Inv X pins σ H s → RelV o ov → RelV i iv → RelV v u → t o i v H Q →
    wpAny (model X.prog X.w) X.A (setItem ov iv u) (fun _ s' => ∃ H', Inv X pins σ H' s' ∧ Q H') X.xe s
/-- a op= b, by values -/
abbrev TIp := V → V → Hp → VK → Prop
def PIp (X : Cx) (op : Operator) (t : TIp) : Prop :=
  ∀ (pins : List (Addr × Obj)) (s : Shared) (σ : St) (H : Hp) (x y : V) (v u : Value) (Q : VK), Inv X pins σ H s → RelV x v → RelV y u → t x y H Q →
    wpAny (model X.prog X.w) X.A (inplaceOp op v u) (EP X pins σ Q) X.xe s
section
variable {X : Cx} {pos : Pos}
def gName (i : Nat) : TG := fun v σ H Q => Q (σ.set i (some v)) H
theorem pg_name {i : Nat} {x : Str} (hN : X.N.Nodup) (hi : X.N[i]? = some x) (hx : Loc X.env.scope x) (hf : X.fn x = true ∨ X.env.scope.names.lookup x = some .local := by first | exact .inl rfl | exact .inr rfl | assumption) : PG X (.Name x pos) (gName i) := by
  intro pins s σ H v u Q I r h
  exact wpAny_assign_Name (store_ok I hN hi hx r (fun s' I' => ⟨_, H, I', h⟩) hf)
def gNil : TGs := fun vs σ H Q => vs = [] ∧ Q σ H
def gCons (t : TG) (u : TGs) : TGs := fun vs σ H Q => ∃ v r, vs = v :: r ∧ t v σ H fun σ' H' => u r σ' H' Q
theorem pgs_nil : PGs X [] gNil := by
  intro pins s σ H vs us Q I r h
  obtain ⟨e, h⟩ := h
  subst e
  cases r
  exact assignInOrder_nil ⟨σ, H, I, h⟩
theorem pgs_cons {e : Expr} {es : List Expr} {t : TG} {u : TGs} (h1 : PG X e t) (h2 : PGs X es u)
    (hs : (assignEach (e :: es) X.env).map (·.2) = assign e X.env :: (assignEach es X.env).map (·.2) := by rfl) : PGs X (e :: es) (gCons t u) := by
  intro pins s σ H vs us Q I r h
  obtain ⟨v, vr, e1, h⟩ := h
  subst e1
  cases r with
  | cons r rr =>
    rw [hs]
    refine assignInOrder_cons (thn (h1 pins s σ H _ _ _ I r h) fun _ s1 ⟨σ1, H1, I1, q1⟩ => ?_)
    exact h2 pins s1 σ1 H1 _ _ Q I1 rr q1
/-- (a, b, ..) = a tuple of that length -/
def gTup (K : PySem.W.Frag) (n : Nat) (t : TGs) : TG := fun v σ H Q => ∃ a xs, v = .ref a ∧ SqT K H a xs ∧ xs.length = n ∧ t xs σ H Q
theorem pg_tup {es : List Expr} {k : Nat} {t : TGs} {n : Nat} (hc : X.calm = true) (h : PGs X es t)
    (hn : (assignEach es X.env).length = n := by rfl) (hst : (assignEach es X.env).findIdx? (·.1) = none := by rfl) : PG X (.Tuple es k pos) (gTup X.K n t) := by
  intro pins s σ H v u Q I r hw
  obtain ⟨a, xs, e1, hq, hl, hw⟩ := hw
  subst e1
  cases r
  obtain ⟨its, rv, ht, hz⟩ := I.tuple hq
  refine assign_Tuple_tuple (I.ok.hd hc) ht (by simp [hn, ← hl, rv.length]) hst fun h' hx => ?_
  have I1 : Inv X pins σ H { s with heap := h' } := I.kept (t' := s.toks) fun b o e => hx b o (Nat.ne_of_lt (Heap.lt_size e)) e
  exact h pins _ σ H xs _ Q I1 (by simpa using rv) hw
/-- o[i] = .. -/
def gSub (to ti : TE) (t : TSet) : TG := fun v σ H Q => to σ H fun o H1 => ti σ H1 fun i H2 => t o i v H2 fun H3 => Q σ H3
theorem pg_sub {o i : Expr} {to ti : TE} {t : TSet} (ho : PE X o to) (hi : PE X i ti) (hs : PSet X t)
    (ha : ∀ v, assign (.Subscript o i pos) X.env v = (do
      let ov ← holding [v] (eval o X.env)
      let iv ← holding [v, ov] (eval i X.env)
      standAt pos
      holding [v, ov, iv] (setItem ov iv v)
      release [v, ov, iv] []) := by intro _; rfl) : PG X (.Subscript o i pos) (gSub to ti t) := by
  intro pins s σ H v u Q I r h
  rw [ha]
  refine wpAny_bind (wpAny_holding (thn (ho pins s σ H _ I h) fun ov s1 ⟨x, H1, I1, r1, q1⟩ => ?_))
  refine wpAny_bind (wpAny_holding (thn (hi pins s1 σ H1 _ I1 q1) fun iv s2 ⟨y, H2, I2, r2, q2⟩ => ?_))
  refine wpAny_bind (wpAny_standAt (wpAny_bind (wpAny_holding (thn (hs pins s2 σ H2 x y v ov iv u _ I2 r1 r2 r q2) fun _ s3 ⟨H3, I3, q3⟩ => ?_))))
  exact wpAny_release ⟨σ, H3, I3, q3⟩
/-- target = value -/
def tAsg (te : TE) (g : TG) : TS := fun D σ H => te σ H fun x H1 => g x σ H1 D.nx
theorem ps_asg {tg e : Expr} {te : TE} {g : TG} (he : PE X e te) (hg : PG X tg g) (hs : swapsWithSole [tg] e pos.line X.env = pure false := by rfl) (hw : swappedStores [tg] e X.env = pure none := by rfl)
    (h1 : (assignEach [tg] X.env).map (·.2) = [assign tg X.env] := by rfl) : PS X (.Assign [tg] e pos) (tAsg te g) := by
  intro pins s σ H D I h
  refine wpAny_Assign_stores (thn (he pins s σ H _ I h) fun v s1 ⟨x, H1, I1, r1, q1⟩ => ?_) hs hw
  rw [h1]
  exact thn (hg pins s1 σ H1 x v _ I1 r1 q1) fun _ s2 q => q
/-- name = value -/
theorem ps_set {i : Nat} {x : Str} {e : Expr} {te : TE} {pos' : Pos} (hN : X.N.Nodup) (hi : X.N[i]? = some x) (hx : Loc X.env.scope x) (he : PE X e te) (hs : swapsWith e (some (.Name x pos')) pos.line X.env = pure false := by rfl) (hf : X.fn x = true ∨ X.env.scope.names.lookup x = some .local := by first | exact .inl rfl | exact .inr rfl | assumption) :
    PS X (.Assign [.Name x pos'] e pos) (tAsg te (gName i)) := by
  intro pins s σ H D I h
  refine wpAny_Assign_Name (thn (he pins s σ H _ I h) fun v s1 ⟨y, H1, I1, r1, q1⟩ => ?_) hs
  exact store_ok I1 hN hi hx r1 (fun s2 I2 => ⟨_, H1, I2, q1⟩) hf
/-- name op= e -/
def tAug (i : Nat) (te : TE) (ti : TIp) : TS := fun D σ H => ∃ x, σ[i]? = some (some x) ∧ te σ H fun y H1 => ti x y H1 fun z H2 => D.nx (σ.set i (some z)) H2
theorem ps_aug {i : Nat} {x : Str} {e : Expr} {te : TE} {op : Operator} {ti : TIp} {pos' : Pos} (hN : X.N.Nodup) (hi : X.N[i]? = some x) (hx : Loc X.env.scope x) (he : PE X e te) (ho : PIp X op ti) (hf : X.fn x = true ∨ X.env.scope.names.lookup x = some .local := by first | exact .inl rfl | exact .inr rfl | assumption) :
    PS X (.AugAssign (.Name x pos') op e pos) (tAug i te ti) := by
  intro pins s σ H D I h
  obtain ⟨v, e1, h⟩ := h
  obtain ⟨m, hn, hl⟩ := I.loc
  have vis : Vis X.env.scope x := by rcases hx with k | k; exact .inl k; exact .inr (.inl k)
  obtain ⟨u, r, l⟩ := hl i x v hi e1 vis
  refine wpAny_AugAssign_Name ?_
  have go : wpAny (model X.prog X.w) X.A (eval e X.env) (fun w s₂ => wpAny (model X.prog X.w) X.A (inplaceOp op u w) (fun r s₃ => wpAny (model X.prog X.w) X.A (storeName X.env x r) (fun _ => SP X pins D .next) X.xe s₃) X.xe s₂) X.xe s := by
    refine thn (he pins s σ H _ I h) fun w s1 ⟨y, H1, I1, r1, q1⟩ => ?_
    refine thn (ho pins s1 σ H1 v y u w _ I1 r r1 q1) fun z s2 ⟨zv, H2, I2, r2, q2⟩ => ?_
    exact store_ok I2 hN hi hx r2 (fun s3 I3 => ⟨_, H2, I3, q2⟩) hf
  rcases l with ⟨hk, hm⟩ | ⟨hk, c, hc, hcell⟩
  · exact wpAny_loadName_local I.ok.kind hk hn hm go
  · rcases hk with hk | hk
    · exact wpAny_loadName_cell I.ok.kind hk hc hcell go
    · rcases hx with k | k
      · have : X.env.scope.names.lookup x = some .free := hk
        rw [k] at this; cases this
      · have : X.env.scope.names.lookup x = some .free := hk
        rw [k] at this; cases this
/-- ints -/
def ipI (f : Int → Int → Int) : TIp := fun x y H Q => ∃ i j, x = .int i ∧ y = .int j ∧ Q (.int (f i j)) H
theorem ip_add : PIp X .Add (ipI fun i j => i + j) := by
  intro pins s σ H x y v u Q I r1 r2 h
  obtain ⟨i, j, e1, e2, q⟩ := h
  subst e1; subst e2
  obtain ⟨t, rfl⟩ := r1
  obtain ⟨t', rfl⟩ := r2
  exact iadd_int ⟨.int _, H, I.tok _, ⟨_, rfl⟩, q⟩
end

/-! ### while -/
section
variable {X : Cx} {pos : Pos}
/-- the invariant W with its measure -/
def tWhile (c : TT) (tb : TS) : TS := fun D σ H => ∃ W : Nat → St → Hp → Prop, (∃ m, W m σ H) ∧ ∀ m σ H, W m σ H →
  c σ H fun b H1 => if b = true then ∃ N : St → Hp → Prop, (∀ σ' H', N σ' H' → ∃ m', m' < m ∧ W m' σ' H') ∧ tb { D with nx := N, ct := N, bk := D.nx } σ H1 else D.nx σ H1
theorem ps_while {c : Expr} {body : List Stmt} {tc : TT} {tb : TS} (hp : PassesOwn (model X.prog X.w) X.A X.env X.xe) (hc : PT X c tc) (hb : PSs X body tb) : PS X (.While c body [] pos) (tWhile tc tb) := by
  intro pins s σ H D I h
  obtain ⟨W, ⟨m0, w0⟩, turn⟩ := h
  refine wpAny_While (codeAny_whileLoop (fun n s' => ∃ σ' H', Inv X pins σ' H' s' ∧ W n σ' H') ?_ m0 ⟨σ, H, I, w0⟩)
  rintro n s1 ⟨σ1, H1, I1, w1⟩
  refine wpAny_passesOwn hp (thn (hc pins s1 σ1 H1 _ I1 (turn n σ1 H1 w1)) fun b s2 ⟨H2, I2, q2⟩ => ?_)
  cases b with
  | true =>
    obtain ⟨N, hN, q2⟩ := q2
    rw [if_pos rfl]
    refine wpAny_passesOwn hp (thn (hb pins s2 σ1 H2 _ I2 q2) fun f s3 q3 => ?_)
    cases f with
    | next =>
      obtain ⟨σ3, H3, I3, n3⟩ := q3
      obtain ⟨m', hm, w3⟩ := hN σ3 H3 n3
      exact ⟨m', hm, σ3, H3, I3, w3⟩
    | cont =>
      obtain ⟨σ3, H3, I3, n3⟩ := q3
      obtain ⟨m', hm, w3⟩ := hN σ3 H3 n3
      exact ⟨m', hm, σ3, H3, I3, w3⟩
    | brk => exact q3
    | ret v => exact q3
  | false =>
    rw [if_neg Bool.false_ne_true]
    exact wpAny_execs_nil ⟨σ1, H2, I2, q2⟩
end

/-! ### what a loop or a comprehension walks -/
/-- at turn i: it yields x (the heap may grow), or it stops -/
structure It where
  go : Nat → Hp → Prop
  yld : Nat → Hp → V → Hp → Prop
  stop : Nat → Hp → Prop
/-- the iterator's own objects may turn: they are not the frame's, not pinned, younger than the entry (or a comprehension's own) -/
def FpOk (X : Cx) (pins : List (Addr × Obj)) (H : Hp) (b : Addr) : Prop :=
  H b = none ∧ b ≠ X.env.locals ∧ b ∉ X.fs ∧ (b ∈ X.ex ∨ X.s_0.heap.objs.size ≤ b) ∧ (∀ x c, X.env.cells.lookup x = some c → c ≠ b) ∧ ∀ p ∈ X.pn ++ pins, p.1 ≠ b
theorem Inv.fpOk {X : Cx} {pins : List (Addr × Obj)} {σ : St} {H H' : Hp} {s : Shared} {b : Addr} (I : Inv X pins σ H s) (hb : s.heap.objs.size ≤ b) (hn : H' b = none) : FpOk X pins H' b := by
  refine ⟨hn, Nat.ne_of_gt (Nat.lt_of_lt_of_le I.lt hb), I.nofs hb, .inr (Nat.le_trans I.sz hb), fun x c e z => ?_, fun p hp z => ?_⟩
  · obtain ⟨v, q⟩ := I.cell x c e
    exact absurd (Nat.lt_of_lt_of_le q.lt (by rw [z]; exact hb)) (Nat.lt_irrefl _)
  · exact absurd (Nat.lt_of_lt_of_le (Heap.lt_size (I.pin p hp).1) (by rw [z]; exact hb)) (Nat.lt_irrefl _)
structure Turn (P : Program) (w : World) (K : PySem.W.Frag) (tg : Expr) (J : It) (fp : List Addr) (it : Addr) (tn : Nat → Heap → Prop) : Prop where
  mem : it ∈ fp
  obj : ∀ i h, tn i h → ∀ b ∈ fp, ∃ o, h.get? b = some o ∧ ∀ v, o.data ≠ .cell v
  keep : ∀ i h h', tn i h → (∀ b ∈ fp, ∀ o, h.get? b = some o → h'.get? b = some o) → tn i h'
  item : ∀ (X : Cx), X.prog = P → X.w = w → X.K = K → X.calm = true → ∀ (i : Nat) (pins : List (Addr × Obj)) (s : Shared) (σ : St) (H : Hp) (E : Value → Shared → Prop), Inv X pins σ H s → (∀ b ∈ fp, FpOk X pins H b) → tn i s.heap → J.go i H →
    wpAny (model P w) X.A (pyNext (.ref it)) (fun r s1 => ∃ u, r = some u ∧
      wpAny (model P w) X.A (letOwnedTupleGo tg (.ref it) u) (fun _ s2 => ∃ x H', Inv X pins σ H' s2 ∧ RelV x u ∧ J.yld i H x H' ∧ tn (i + 1) s2.heap ∧ ∀ b ∈ fp, H' b = none) E s1) E s
  done : ∀ (X : Cx), X.prog = P → X.w = w → X.K = K → X.calm = true → ∀ (i : Nat) (pins : List (Addr × Obj)) (s : Shared) (σ : St) (H : Hp) (E : Value → Shared → Prop), Inv X pins σ H s → (∀ b ∈ fp, FpOk X pins H b) → tn i s.heap → J.stop i H →
    wpAny (model P w) X.A (pyNext (.ref it)) (fun r s1 => r = none ∧ Inv X pins σ H s1) E s
  self : ∀ (A : Around) (i : Nat) (s : Shared) (Q : Value → Shared → Prop) (E : Value → Shared → Prop), tn i s.heap → Q (.ref it) s → wpAny (model P w) A (pyIter (.ref it)) Q E s
abbrev TI := St → Hp → (It → Hp → Prop) → Prop
/-- an iterator has come -/
def PIE (X : Cx) (pins : List (Addr × Obj)) (σ : St) (tg : Expr) (R : It → Hp → Prop) (itv : Value) (s2 : Shared) : Prop :=
  ∃ (it : Addr) (fp : List Addr) (tn : Nat → Heap → Prop) (J : It) (H' : Hp), itv = .ref it ∧ Inv X pins σ H' s2 ∧ Turn X.prog X.w X.K tg J fp it tn ∧ tn 0 s2.heap ∧ (∀ b ∈ fp, FpOk X pins H' b) ∧ R J H'
def PI (X : Cx) (tg iter : Expr) (wi : TI) : Prop :=
  ∀ (pins : List (Addr × Obj)) (s : Shared) (σ : St) (H : Hp) (R : It → Hp → Prop), Inv X pins σ H s → wi σ H R →
    wpAny (model X.prog X.w) X.A (eval iter X.env) (fun v s1 => wpAny (model X.prog X.w) X.A (pyIter v) (PIE X pins σ tg R) X.xe s1) X.xe s

end L2

namespace L2
open PySem PySem.Spec PyProof.Rows
section
variable {X : Cx} {tg : Expr}

/-! ### for -/
/-- W: the invariant by the turn and a measure; N: what the body is to reach -/
def tFor (wi : TI) (g : TG) (tb : TS) : TS := fun D σ H => wi σ H fun J H1 => ∃ W : Nat → Nat → St → Hp → Prop, (∃ m, W 0 m σ H1) ∧ ∀ i m σ H, W i m σ H →
  (J.stop i H ∧ D.nx σ H) ∨ (J.go i H ∧ ∃ N : St → Hp → Prop, (∀ σ' H', N σ' H' → ∃ m', m' < m ∧ W (i + 1) m' σ' H') ∧ ∀ x H', J.yld i H x H' → g x σ H' fun σ2 H2 => tb { D with nx := N, ct := N, bk := D.nx } σ2 H2)
/-- the records at fp as they stand -/
def pinsAt (fp : List Addr) (h : Heap) : List (Addr × Obj) := fp.filterMap fun b => (h.get? b).map fun o => (b, o)
theorem mem_pinsAt {fp : List Addr} {h : Heap} {b : Addr} {o : Obj} (hb : b ∈ fp) (e : h.get? b = some o) : (b, o) ∈ pinsAt fp h := List.mem_filterMap.mpr ⟨b, hb, by rw [e]; rfl⟩
theorem of_pinsAt {fp : List Addr} {h : Heap} {p : Addr × Obj} (hp : p ∈ pinsAt fp h) : p.1 ∈ fp ∧ h.get? p.1 = some p.2 := by
  obtain ⟨b, hb, e⟩ := List.mem_filterMap.mp hp
  cases q : h.get? b with
  | none => rw [q] at e; cases e
  | some o =>
    rw [q] at e
    have e' : (b, o) = p := Option.some.inj e
    subst e'
    exact ⟨hb, q⟩
theorem Inv.pinned {pins : List (Addr × Obj)} {σ : St} {H : Hp} {s : Shared} {fp : List Addr} (I : Inv X pins σ H s) (hf : ∀ b ∈ fp, FpOk X pins H b) (ho : ∀ b ∈ fp, ∃ o, s.heap.get? b = some o ∧ ∀ v, o.data ≠ .cell v) : Inv X (pins ++ pinsAt fp s.heap) σ H s :=
  I.pins_of fun p hp => (List.mem_append.mp hp).elim (fun z => I.pin p (List.mem_append_right _ z)) fun z => by
    obtain ⟨hb, e⟩ := of_pinsAt z
    obtain ⟨f0, f1, f2, _⟩ := hf p.1 hb
    obtain ⟨o, e', d⟩ := ho p.1 hb
    rw [e] at e'; cases e'
    exact ⟨e, f0, f1, f2, d⟩
theorem Inv.unpinned {pins pl : List (Addr × Obj)} {σ : St} {H : Hp} {s : Shared} (I : Inv X (pins ++ pl) σ H s) : Inv X pins σ H s := I.pins_of fun p hp => I.pin p (List.mem_append_right _ (List.mem_append_left _ hp))
theorem ps_for {iter : Expr} {body : List Stmt} {wi : TI} {g : TG} {tb : TS} {pos : Pos} (hp : PassesOwn (model X.prog X.w) X.A X.env X.xe) (hc : X.calm = true) (hi : PI X tg iter wi) (hg : PG X tg g) (hb : PSs X body tb)
    (hs : ∀ x, foldedSetIterable iter X.env x = pure x := by intro _; rfl) : PS X (.For tg iter body [] pos) (tFor wi g tb) := by
  intro pins s σ H D I h
  refine wpAny_For (thn (hi pins s σ H _ I h) fun v s1 h1 => thn h1 fun itv s2 h2 => ?_) hs
  obtain ⟨it, fp, tn, J, H2, e, I2, T, st2, f2, W, ⟨m0, w0⟩, turn⟩ := h2
  subst e
  -- what stays true of the iterator's objects through the loop
  have stat : ∀ {H' : Hp}, (∀ b ∈ fp, H' b = none) → ∀ b ∈ fp, FpOk X pins H' b := fun hn b hb => ⟨hn b hb, (f2 b hb).2⟩
  refine codeAny_forLoop_any (fun n s' => ∃ i σ' H', Inv X pins σ' H' s' ∧ tn i s'.heap ∧ (∀ b ∈ fp, H' b = none) ∧ W i n σ' H') ?_ m0 ⟨0, σ, H2, I2, st2, fun b hb => (f2 b hb).1, w0⟩
  rintro n s3 ⟨i, σ3, H3, I3, st3, fr3, w3⟩
  rcases turn i n σ3 H3 w3 with ⟨stop, qn⟩ | ⟨go, N, hN, step⟩
  · refine wpAny_passesOwn hp (thn (T.done X rfl rfl rfl hc i pins s3 σ3 H3 X.xe I3 (stat fr3) st3 stop) fun r s4 ⟨hr, I4⟩ => ?_)
    subst hr
    exact wpAny_execs_nil ⟨σ3, H3, I4, qn⟩
  · refine wpAny_passesOwn hp (thn (T.item X rfl rfl rfl hc i pins s3 σ3 H3 X.xe I3 (stat fr3) st3 go) fun r s4 ⟨u, hr, h4⟩ => ?_)
    subst hr
    refine wpAny_passesOwn hp (thn h4 fun _ s5 ⟨x, H5, I5, r5, y5, st5, fr5⟩ => ?_)
    have I5' := I5.pinned (stat fr5) (T.obj _ _ st5)
    refine wpAny_passesOwn hp (thn (hg _ s5 σ3 H5 x u _ I5' r5 (step x H5 y5)) fun _ s6 ⟨σ6, H6, I6, q6⟩ => ?_)
    refine wpAny_passesOwn hp (thn (hb _ s6 σ6 H6 _ I6 q6) fun f s7 q7 => ?_)
    have again : ∀ {σ7 : St} {H7 : Hp}, Inv X (pins ++ pinsAt fp s5.heap) σ7 H7 s7 → N σ7 H7 → ∃ m, m < n ∧ ∃ i σ' H', Inv X pins σ' H' s7 ∧ tn i s7.heap ∧ (∀ b ∈ fp, H' b = none) ∧ W i m σ' H' := fun {σ7 H7} I7 n7 => by
      obtain ⟨m', hm, w7⟩ := hN σ7 H7 n7
      refine ⟨m', hm, i + 1, σ7, H7, I7.unpinned, T.keep _ _ _ st5 fun b hb o e => (I7.pin (b, o) (List.mem_append_right _ (List.mem_append_right _ (mem_pinsAt hb e)))).1, fun b hb => ?_, w7⟩
      obtain ⟨o, e, d⟩ := T.obj _ _ st5 b hb
      exact (I7.pin (b, o) (List.mem_append_right _ (List.mem_append_right _ (mem_pinsAt hb e)))).2.1
    cases f with
    | next => obtain ⟨σ7, H7, I7, n7⟩ := q7; exact again I7 n7
    | cont => obtain ⟨σ7, H7, I7, n7⟩ := q7; exact again I7 n7
    | brk => obtain ⟨σ7, H7, I7, q7⟩ := q7; exact ⟨σ7, H7, I7.unpinned, q7⟩
    | ret v => obtain ⟨x7, σ7, H7, I7, r7, q7⟩ := q7; exact ⟨x7, σ7, H7, I7.unpinned, r7, q7⟩
end

/-! ### the forms one uses -/
end L2

namespace L2
open PySem PySem.Spec PyProof.Rows

abbrev R2 := V → V → Hp → VK → Prop
/-- a two-place operation on values: f is binaryOp op, inplaceOp op or compareOp op -/
def OpR (X : Cx) (f : Value → Value → Sem Value) (r : R2) : Prop :=
  ∀ (pins : List (Addr × Obj)) (s : Shared) (σ : St) (H : Hp) (x y : V) (v u : Value) (Q : VK), Inv X pins σ H s → RelV x v → RelV y u → r x y H Q →
    wpAny (model X.prog X.w) X.A (f v u) (EP X pins σ Q) X.xe s
/-- a call of a value that is known (a builtin, a type) with values -/
def CallR (X : Cx) (f : Value) (r : List V → Hp → VK → Prop) : Prop :=
  ∀ (pins : List (Addr × Obj)) (s : Shared) (σ : St) (H : Hp) (xs : List V) (us : List Value) (Q : VK), Inv X pins σ H s → Vals xs us → r xs H Q →
    wpAny (model X.prog X.w) X.A (call f us) (EP X pins σ Q) X.xe s
/-- a value's truth -/
def TruR (X : Cx) (r : V → Hp → (Bool → Hp → Prop) → Prop) : Prop :=
  ∀ (pins : List (Addr × Obj)) (s : Shared) (σ : St) (H : Hp) (x : V) (v : Value) (Q : Bool → Hp → Prop), Inv X pins σ H s → RelV x v → r x H Q →
    wpAny (model X.prog X.w) X.A (truthy v) (TP X pins σ Q) X.xe s

def tOp (r : R2) (ta tb : TE) : TE := fun σ H Q => ta σ H fun x H1 => tb σ H1 fun y H2 => r x y H2 Q
/-- ints in, under C, and a value out -/
def rI (C : Int → Int → Prop) (g : Int → Int → V) : R2 := fun x y H Q => ∃ i j, x = .int i ∧ y = .int j ∧ C i j ∧ Q (g i j) H
def rI0 (g : Int → Int → V) : R2 := fun x y H Q => ∃ i j, x = .int i ∧ y = .int j ∧ Q (g i j) H

section
variable {X : Cx} {a b c : Expr} {ta tb tc : TE} {pos : Pos}

theorem binT (ha : PE X a ta) (hb : PE X b tb) {pins : List (Addr × Obj)} {s : Shared} {σ : St} {H : Hp} {R : V → V → Hp → Prop} (I : Inv X pins σ H s)
    (h : ta σ H fun x H1 => tb σ H1 fun y H2 => R x y H2) {Q : Value → Shared → Prop} {f : Value → Value → Sem Value}
    (hf : ∀ v u s2 x y H2, Inv X pins σ H2 s2 → RelV x v → RelV y u → R x y H2 → wpAny (model X.prog X.w) X.A (f v u) Q X.xe s2) :
    wpAny (model X.prog X.w) X.A (eval a X.env) (fun v s₁ => wpAny (model X.prog X.w) X.A (eval b X.env) (fun u s₂ => wpAny (model X.prog X.w) X.A (f v u) Q X.xe s₂) X.xe s₁) X.xe s := by
  refine thn (ha pins s σ H _ I h) fun v s1 ⟨x, H1, I1, r1, q1⟩ => ?_
  refine thn (hb pins s1 σ H1 _ I1 q1) fun u s2 ⟨y, H2, I2, r2, q2⟩ => ?_
  exact hf v u s2 x y H2 I2 r1 r2 q2

theorem pe_op {op : Operator} {r : R2} (ho : OpR X (binaryOp op) r) (ha : PE X a ta) (hb : PE X b tb) : PE X (.BinOp a op b pos) (tOp r ta tb) := by
  intro pins s σ H Q I h
  exact wpAny_BinOp (binT ha hb I h fun v u s2 x y H2 I2 rx ry q => ho pins s2 σ H2 x y v u Q I2 rx ry q)

/-! ### ints -/
theorem opI {f : Value → Value → Sem Value} {C : Int → Int → Prop} {g : Int → Int → Int}
    (rule : ∀ (i j : Int) (t u : Tok) (s : Shared) (Q : Value → Shared → Prop) (E : Value → Shared → Prop), C i j → Q (.int (g i j) s.toks) { s with toks := s.toks + 1 } → wpAny (model X.prog X.w) X.A (f (.int i t) (.int j u)) Q E s) :
    OpR X f (rI C fun i j => .int (g i j)) := by
  intro pins s σ H x y v u Q I rx ry h
  obtain ⟨i, j, rfl, rfl, hc, q⟩ := h
  obtain ⟨t, rfl⟩ := rx
  obtain ⟨t', rfl⟩ := ry
  exact rule i j t t' s _ _ hc ⟨.int (g i j), H, I.tok _, ⟨_, rfl⟩, q⟩
theorem opI0 {f : Value → Value → Sem Value} {g : Int → Int → Int}
    (rule : ∀ (i j : Int) (t u : Tok) (s : Shared) (Q : Value → Shared → Prop) (E : Value → Shared → Prop), Q (.int (g i j) s.toks) { s with toks := s.toks + 1 } → wpAny (model X.prog X.w) X.A (f (.int i t) (.int j u)) Q E s) :
    OpR X f (rI0 fun i j => .int (g i j)) := by
  intro pins s σ H x y v u Q I rx ry h
  obtain ⟨i, j, rfl, rfl, q⟩ := h
  obtain ⟨t, rfl⟩ := rx
  obtain ⟨t', rfl⟩ := ry
  exact rule i j t t' s _ _ ⟨.int (g i j), H, I.tok _, ⟨_, rfl⟩, q⟩
theorem opB0 {f : Value → Value → Sem Value} {g : Int → Int → Bool}
    (rule : ∀ (i j : Int) (t u : Tok) (s : Shared) (Q : Value → Shared → Prop) (E : Value → Shared → Prop), Q (.bool (g i j)) s → wpAny (model X.prog X.w) X.A (f (.int i t) (.int j u)) Q E s) :
    OpR X f (rI0 fun i j => .bl (g i j)) := by
  intro pins s σ H x y v u Q I rx ry h
  obtain ⟨i, j, rfl, rfl, q⟩ := h
  obtain ⟨t, rfl⟩ := rx
  obtain ⟨t', rfl⟩ := ry
  exact rule i j t t' s _ _ ⟨.bl (g i j), H, I, rfl, q⟩

def CDiv (i j : Int) : Prop := 0 < j ∧ j < 1073741824
def CMul (i j : Int) : Prop := (-(2 ^ 64) < i ∧ i < 2 ^ 64) ∨ (-(2 ^ 64) < j ∧ j < 2 ^ 64)
theorem CMul.ok {i j : Int} (h : CMul i j) : IntMulOk i j := by
  rcases h with ⟨h1, h2⟩ | ⟨h1, h2⟩
  · exact .of_left (intBits_le_64 h1 h2)
  · exact .of_right (intBits_le_64 h1 h2)
theorem two_pow_nn (k : Nat) : (0 : Int) ≤ 2 ^ k := by
  rw [two_pow_cast]
  exact Int.natCast_nonneg _

theorem op_add : OpR X (binaryOp .Add) (rI0 fun i j => .int (i + j)) := opI0 fun _ _ _ _ _ _ _ q => add_int q
theorem op_sub : OpR X (binaryOp .Sub) (rI0 fun i j => .int (i - j)) := opI0 fun _ _ _ _ _ _ _ q => sub_int q
theorem op_mul : OpR X (binaryOp .Mult) (rI CMul fun i j => .int (i * j)) := opI fun _ _ _ _ _ _ _ hc q => mul_int q hc.ok
/-- // by a positive divisor -/
theorem op_fdiv : OpR X (binaryOp .FloorDiv) (rI CDiv fun i j => .int (i / j)) := opI fun i j _ _ _ _ _ hc q => by
  have h1 : (0 : Int) < j := hc.1
  have h2 : j < 1073741824 := hc.2
  exact floordiv_int (by omega) (by rw [Int.fdiv_eq_ediv_of_nonneg i (by omega)]; exact q) (.inl (PyProof.noPylong_small (by omega)))
/-- % by a positive divisor of any size -/
theorem op_mod : OpR X (binaryOp .Mod) (rI (fun _ j => 0 < j) fun i j => .int (i % j)) := opI fun i j _ _ _ _ _ hc q => by
  have h1 : (0 : Int) < j := hc
  exact mod_int' (by omega) (by rw [Int.fmod_eq_emod_of_nonneg i (by omega)]; exact q)
theorem op_shr : OpR X (binaryOp .RShift) (rI (fun _ j => 0 ≤ j) fun i j => .int (i / 2 ^ j.toNat)) := opI fun i j _ _ _ _ _ hc q =>
  rshift_int hc (by rw [Int.fdiv_eq_ediv_of_nonneg i (two_pow_nn _)]; exact q)
theorem op_and : OpR X (binaryOp .BitAnd) (rI0 fun i j => .int (Builtin.bitAnd i j)) := opI0 fun _ _ _ _ _ _ _ q => and_int q
theorem op_or : OpR X (binaryOp .BitOr) (rI0 fun i j => .int (Builtin.bitOr i j)) := opI0 fun _ _ _ _ _ _ _ q => or_int q
theorem op_xor : OpR X (binaryOp .BitXor) (rI0 fun i j => .int (Builtin.bitXor i j)) := opI0 fun _ _ _ _ _ _ _ q => xor_int q

theorem iop_mul : OpR X (inplaceOp .Mult) (rI CMul fun i j => .int (i * j)) := opI fun _ _ _ _ _ _ _ hc q => imul_int q hc.ok

/-! ### bools among ints: n += (a < b) -/
end

/-! ### comparisons -/
/-- the scalars that == tells apart as data does -/
def scal : V → V → Bool
  | .non, .non => true | .non, .int _ => true | .int _, .non => true | .non, .bl _ => true | .bl _, .non => true | .non, .str _ => true | .str _, .non => true
  | .int _, .int _ => true | .bl _, .bl _ => true | .str _, .str _ => true | .byt _, .byt _ => true
  | .int _, .str _ => true | .str _, .int _ => true | .bl _, .str _ => true | .str _, .bl _ => true
  | _, _ => false
def rEq : R2 := fun x y H Q => scal x y = true ∧ Q (.bl (decide (x = y))) H
def rNe : R2 := fun x y H Q => scal x y = true ∧ Q (.bl (!decide (x = y))) H

theorem dec_int {i j : Int} : decide (V.int i = V.int j) = (i == j) := by
  rw [Bool.eq_iff_iff]
  simp
theorem dec_bl {i j : Bool} : decide (V.bl i = V.bl j) = (i == j) := by
  rw [Bool.eq_iff_iff]
  simp
theorem dec_str {i j : Str} : decide (V.str i = V.str j) = (i == j) := by
  rw [Bool.eq_iff_iff]
  simp
theorem dec_byt {i j : Array UInt8} : decide (V.byt i = V.byt j) = (i.toList == j.toList) := by
  rw [Bool.eq_iff_iff]
  cases i
  cases j
  simp

section
variable {X : Cx} {a b c : Expr} {ta tb tc : TE} {pos : Pos}
theorem fin_bl {pins : List (Addr × Obj)} {σ : St} {H : Hp} {s : Shared} {Q : VK} {k k' : Bool} (I : Inv X pins σ H s) (q : Q (.bl k) H) (e : k = k') : EP X pins σ Q (.bool k') s := by
  subst e
  exact ⟨.bl k, H, I, rfl, q⟩
theorem op_eq : OpR X (compareOp .Eq) rEq := by
  intro pins s σ H x y v u Q I rx ry h
  obtain ⟨hs, q⟩ := h
  cases x with
  | non =>
    cases rx
    cases y with
    | non => cases ry; exact PySem.EqNone.eq_none_none (fin_bl I q (by simp))
    | bl j => cases ry; exact PySem.EqNone.eq_none_bool (fin_bl I q (by simp))
    | int j => obtain ⟨t', rfl⟩ := ry; exact PySem.EqNone.eq_none_int (fin_bl I q (by simp))
    | str j => obtain ⟨t', rfl⟩ := ry; exact PySem.EqNone.eq_none_str (fin_bl I q (by simp))
    | _ => exact absurd (show false = true from hs) Bool.false_ne_true
  | bl i =>
    cases rx
    cases y with
    | non => cases ry; exact PySem.EqNone.eq_bool_none (fin_bl I q (by simp))
    | bl j => cases ry; exact eq_bool (fin_bl I q dec_bl)
    | str j => obtain ⟨t', rfl⟩ := ry; exact PySem.EqMixed.eq_bool_str (fin_bl I q (by simp))
    | _ => exact absurd (show false = true from hs) Bool.false_ne_true
  | int i =>
    obtain ⟨t, rfl⟩ := rx
    cases y with
    | non => cases ry; exact PySem.EqNone.eq_int_none (fin_bl I q (by simp))
    | int j => obtain ⟨t', rfl⟩ := ry; exact eq_int (fin_bl I q dec_int)
    | str j => obtain ⟨t', rfl⟩ := ry; exact PySem.EqMixed.eq_int_str (fin_bl I q (by simp))
    | _ => exact absurd (show false = true from hs) Bool.false_ne_true
  | str i =>
    obtain ⟨t, rfl⟩ := rx
    cases y with
    | non => cases ry; exact PySem.EqNone.eq_str_none (fin_bl I q (by simp))
    | bl j => cases ry; exact PySem.EqMixed.eq_str_bool (fin_bl I q (by simp))
    | int j => obtain ⟨t', rfl⟩ := ry; exact PySem.EqMixed.eq_str_int (fin_bl I q (by simp))
    | str j => obtain ⟨t', rfl⟩ := ry; exact eq_str (fin_bl I q dec_str)
    | _ => exact absurd (show false = true from hs) Bool.false_ne_true
  | byt i =>
    obtain ⟨t, rfl⟩ := rx
    cases y with
    | byt j => obtain ⟨t', rfl⟩ := ry; exact PySem.W.eq_bytes (fin_bl I q dec_byt)
    | _ => exact absurd (show false = true from hs) Bool.false_ne_true
  | _ => cases y <;> exact absurd (show false = true from hs) Bool.false_ne_true
theorem op_ne : OpR X (compareOp .NotEq) rNe := by
  intro pins s σ H x y v u Q I rx ry h
  obtain ⟨hs, q⟩ := h
  cases x with
  | non =>
    cases rx
    cases y with
    | non => cases ry; exact PySem.EqNone.ne_none_none (fin_bl I q (by simp))
    | bl j => cases ry; exact PySem.EqNone.ne_none_bool (fin_bl I q (by simp))
    | int j => obtain ⟨t', rfl⟩ := ry; exact PySem.EqNone.ne_none_int (fin_bl I q (by simp))
    | str j => obtain ⟨t', rfl⟩ := ry; exact PySem.EqNone.ne_none_str (fin_bl I q (by simp))
    | _ => exact absurd (show false = true from hs) Bool.false_ne_true
  | bl i =>
    cases rx
    cases y with
    | non => cases ry; exact PySem.EqNone.ne_bool_none (fin_bl I q (by simp))
    | bl j => cases ry; exact ne_bool (fin_bl I q (congrArg not dec_bl))
    | str j => obtain ⟨t', rfl⟩ := ry; exact PySem.EqMixed.ne_bool_str (fin_bl I q (by simp))
    | _ => exact absurd (show false = true from hs) Bool.false_ne_true
  | int i =>
    obtain ⟨t, rfl⟩ := rx
    cases y with
    | non => cases ry; exact PySem.EqNone.ne_int_none (fin_bl I q (by simp))
    | int j => obtain ⟨t', rfl⟩ := ry; exact ne_int (fin_bl I q (congrArg not dec_int))
    | str j => obtain ⟨t', rfl⟩ := ry; exact PySem.EqMixed.ne_int_str (fin_bl I q (by simp))
    | _ => exact absurd (show false = true from hs) Bool.false_ne_true
  | str i =>
    obtain ⟨t, rfl⟩ := rx
    cases y with
    | non => cases ry; exact PySem.EqNone.ne_str_none (fin_bl I q (by simp))
    | bl j => cases ry; exact PySem.EqMixed.ne_str_bool (fin_bl I q (by simp))
    | int j => obtain ⟨t', rfl⟩ := ry; exact PySem.EqMixed.ne_str_int (fin_bl I q (by simp))
    | str j => obtain ⟨t', rfl⟩ := ry; exact ne_str (fin_bl I q (congrArg not dec_str))
    | _ => exact absurd (show false = true from hs) Bool.false_ne_true
  | byt i =>
    obtain ⟨t, rfl⟩ := rx
    cases y with
    | byt j => obtain ⟨t', rfl⟩ := ry; exact PySem.W.ne_bytes (fin_bl I q (congrArg not dec_byt))
    | _ => exact absurd (show false = true from hs) Bool.false_ne_true
  | _ => cases y <;> exact absurd (show false = true from hs) Bool.false_ne_true

theorem op_lt : OpR X (compareOp .Lt) (rI0 fun i j => .bl (decide (i < j))) := opB0 fun _ _ _ _ _ _ _ q => lt_int q
theorem op_le : OpR X (compareOp .LtE) (rI0 fun i j => .bl (decide (i ≤ j))) := opB0 fun _ _ _ _ _ _ _ q => le_int q
theorem op_gt : OpR X (compareOp .Gt) (rI0 fun i j => .bl (decide (j < i))) := opB0 fun _ _ _ _ _ _ _ q => gt_int q
theorem op_ge : OpR X (compareOp .GtE) (rI0 fun i j => .bl (decide (j ≤ i))) := opB0 fun _ _ _ _ _ _ _ q => ge_int q

theorem op_notN : OpR X (compareOp .IsNot) (fun x y H Q => y = .non ∧ Q (.bl (!decide (x = .non))) H) := by
  intro pins s σ H x y v u Q I rx ry h
  obtain ⟨rfl, q⟩ := h
  cases ry
  refine isnot_none_gen (fin_bl I q ?_)
  cases x <;> first
    | (cases rx; rfl)
    | (obtain ⟨t, rfl⟩ := rx; rfl)

theorem nomark (b : Expr) {op : CmpOp} (h : op ≠ .In := by decide) (h2 : op ≠ .NotIn := by decide) : behindInMarks op b = false := by
  have e1 : (op == CmpOp.In) = false := by cases op <;> first | rfl | exact absurd rfl h
  have e2 : (op == CmpOp.NotIn) = false := by cases op <;> first | rfl | exact absurd rfl h2
  cases b <;> simp [behindInMarks, e1, e2]
/-- a comparison as a value; hm: nomark b, or (for in, not in) by with_unfolding_all rfl -/
theorem pe_cmpR {op : CmpOp} {r : R2} (ho : OpR X (compareOp op) r) (ha : PE X a ta) (hb : PE X b tb) (hm : behindInMarks op b = false) : PE X (.Compare a [op] [b] pos) (tOp r ta tb) := by
  intro pins s σ H Q I h
  exact wpAny_Compare1 (binT ha hb I h fun v u s2 x y H2 I2 rx ry q => ho pins s2 σ H2 x y v u Q I2 rx ry q) hm
/-- a reading of a value as a test -/
def tTest (t : TE) : TT := fun σ H Q => t σ H fun x H' => ∃ k, x = .bl k ∧ Q k H'
theorem pt_cmpR {op : CmpOp} {r : R2} (ho : OpR X (compareOp op) r) (ha : PE X a ta) (hb : PE X b tb) (hm : behindInMarks op b = false) : PT X (.Compare a [op] [b] pos) (tTest (tOp r ta tb)) := by
  intro pins s σ H Q I h
  refine wpAny_isTrue_Compare1 (thn (ha pins s σ H _ I h) fun v s1 ⟨x, H1, I1, r1, q1⟩ => thn (hb pins s1 σ H1 _ I1 q1) fun u s2 ⟨y, H2, I2, r2, q2⟩ =>
    thn (ho pins s2 σ H2 x y v u _ I2 r1 r2 q2) fun c s3 ⟨z, H3, I3, r3, k, e, q3⟩ => ?_) hm
  subst e
  cases r3
  exact wpAny_truthy_bool ⟨H3, I3, q3⟩
/-- a op1 b op2 c -/
def tChain (r r' : R2) (ta tb tc : TE) : TE := fun σ H Q => ta σ H fun x H1 => tb σ H1 fun y H2 => r x y H2 fun z H3 => ∃ k, z = .bl k ∧
  (if k = true then tc σ H3 fun w' H4 => r' y w' H4 Q else Q (.bl false) H3)
theorem pe_chain {op op' : CmpOp} {r r' : R2} (ho : OpR X (compareOp op) r) (ho' : OpR X (compareOp op') r') (ha : PE X a ta) (hb : PE X b tb) (hc : PE X c tc)
    (hm : lastMarks [op, op'] [b, c] = false := by with_unfolding_all rfl) : PE X (.Compare a [op, op'] [b, c] pos) (tChain r r' ta tb tc) := by
  intro pins s σ H Q I h
  refine Compare_chain (thn (ha pins s σ H _ I h) fun v s1 ⟨x, H1, I1, r1, q1⟩ => chain_link (thn (hb pins s1 σ H1 _ I1 q1) fun u s2 ⟨y, H2, I2, r2, q2⟩ =>
    thn (ho pins s2 σ H2 x y v u _ I2 r1 r2 q2) fun d s3 ⟨z, H3, I3, r3, k, e, q3⟩ => ?_)) hm
  subst e
  cases r3
  refine wpAny_truthy_bool ?_
  cases k with
  | false => exact ite_ff ⟨.bl false, H3, I3, rfl, q3⟩
  | true => exact ite_tt (chain_last (thn (hc pins s3 σ H3 _ I3 q3) fun w' s4 ⟨z', H4, I4, r4, q4⟩ => ho' pins s4 σ H4 y z' u w' Q I4 r2 r4 q4))

/-! ### truth -/
/-- a value's truth by the abstract heap -/
def TruV (K : PySem.W.Frag) (x : V) (H : Hp) (k : Bool) : Prop :=
  match x with
  | .non => k = false
  | .bl b => k = b
  | .int i => k = (i != 0)
  | .str y => y.length ≤ sizeLine ∧ k = ((y.length : Int) != 0)
  | .byt y => y.size ≤ sizeLine ∧ k = ((y.size : Int) != 0)
  | .ref p => (∃ xs, SqL K H p xs ∧ k = !xs.isEmpty) ∨ (∃ xs, SqT K H p xs ∧ k = !xs.isEmpty) ∨ ∃ kvs, H p = some (.dK kvs) ∧ k = !kvs.isEmpty
  | _ => False
theorem isEmpty_kv {κ : Type} {kvs : List (κ × V)} {vs : List (κ × Value)} (r : KV kvs vs) : (!vs.isEmpty) = !kvs.isEmpty := by
  cases r <;> rfl
theorem isEmpty_of {xs : List V} {its : List Value} (r : Vals xs its) : (!its.toArray.isEmpty) = !xs.isEmpty := by
  cases r <;> simp
theorem line63 : (sizeLine : Nat) < 2 ^ 63 := by rw [sizeLine_eq]; decide
theorem tru_ok : TruR X (fun x H Q => ∃ k, TruV X.K x H k ∧ Q k H) := by
  intro pins s σ H x v Q I rx h
  obtain ⟨k, e, q⟩ := h
  have hl := line63
  have hs : sizeLine = 16777216 := sizeLine_eq
  cases x with
  | non =>
    cases rx
    have e' : k = false := e
    subst e'
    exact truthy_none ⟨H, I, q⟩
  | bl b =>
    cases rx
    have e' : k = b := e
    subst e'
    exact wpAny_truthy_bool ⟨H, I, q⟩
  | int i =>
    obtain ⟨t, rfl⟩ := rx
    have e' : k = (i != 0) := e
    subst e'
    exact PySem.P.truthy_int ⟨H, I, q⟩
  | str y =>
    obtain ⟨t, rfl⟩ := rx
    obtain ⟨hy, e'⟩ : y.length ≤ sizeLine ∧ k = ((y.length : Int) != 0) := e
    subst e'
    exact PySem.P.truthy_str (by omega) ⟨H, I.tok _, q⟩
  | byt y =>
    obtain ⟨t, rfl⟩ := rx
    obtain ⟨hy, e'⟩ : y.size ≤ sizeLine ∧ k = ((y.size : Int) != 0) := e
    subst e'
    exact PySem.W.truthy_bytes (by omega) ⟨H, I.tok _, q⟩
  | ref p =>
    cases rx
    have e' : (∃ xs, SqL X.K H p xs ∧ k = !xs.isEmpty) ∨ (∃ xs, SqT X.K H p xs ∧ k = !xs.isEmpty) ∨ ∃ kvs, H p = some (.dK kvs) ∧ k = !kvs.isEmpty := e
    rcases e' with ⟨xs, hx, e'⟩ | ⟨xs, hx, e'⟩ | ⟨kvs, hx, e'⟩
    · subst e'
      obtain ⟨its, r, pl, hz⟩ := I.list hx
      have hlen := r.length
      exact wpAny_truthy_list pl.isList (by simp only [List.size_toArray]; omega) ⟨H, I.tok _, by rw [isEmpty_of r]; exact q⟩
    · subst e'
      obtain ⟨its, r, pl, hz⟩ := I.tuple hx
      have hlen := r.length
      exact truthy_tuple pl (by simp only [List.size_toArray]; omega) ⟨H, I.tok _, by rw [isEmpty_of r]; exact q⟩
    · subst e'
      obtain ⟨hz, hS, vs, r, m⟩ : kvs.length ≤ sizeLine ∧ (p == sysModules) = false ∧ ∃ vs, KV kvs vs ∧ s.heap.DictOf (mixKind X.prog X.w) p vs := I.hok p _ hx
      have hlen : kvs.length = vs.length := Paired.length r
      exact wpAny_truthy_dict hS m (by omega) ⟨H, I.tok _, by rw [isEmpty_kv r]; exact q⟩
  | _ => exact (show False from e).elim
/-- any expression whose test is its value's truth (a name, a call, a subscript, a field ..: he by fun _ => rfl) -/
theorem pt_truth (ha : PE X a ta) (he : ∀ whole, isTrue a X.env whole = (do let v ← whole; standAt a.pos; holding [v] (truthy v))) :
    PT X a (fun σ H Q => ta σ H fun x H' => ∃ k, TruV X.K x H' k ∧ Q k H') := by
  intro pins s σ H Q I h
  exact isTrue_plain (thn (ha pins s σ H _ I h) fun v s1 ⟨x, H1, I1, r1, q1⟩ => tru_ok pins s1 σ H1 x v Q I1 r1 q1) (he _)

/-! ### strs and bytes -/

/-! ### scalar builtins, by CallR -/
theorem vals1 {x : V} {us : List Value} (r : Vals [x] us) : ∃ u, us = [u] ∧ RelV x u := by
  cases r with
  | cons r1 r2 => cases r2; exact ⟨_, rfl, r1⟩
end
end L2

namespace L2
open PySem PySem.Spec PyProof.Rows

/-! ### an instance, its attributes a map -/
structure ObjM (h : Heap) (x dx C : Addr) (mA : Str → Option Value) : Prop where
  obj : h.get? x = some (PySem.W.instObj C dx)
  ns : h.Ns1 dx mA
  ne : dx ≠ x

theorem lookIn_ns {h : Heap} {dx : Addr} {mA : Str → Option Value} (n : h.Ns1 dx mA) : ∃ od, h.get? dx = some od ∧ ∀ name, PySem.W.lookIn name od = some (mA name) := by
  obtain ⟨o, es, ep, ho, hd, hk, _, hm⟩ := n
  refine ⟨o, ho, fun name => ?_⟩
  have e := hm name
  unfold nsFind findBy at e
  rw [← Array.find?_toList] at e
  unfold PySem.W.lookIn
  rw [hd]
  dsimp only
  split
  · rename_i y q
    rw [q] at e
    exact congrArg some e
  · rename_i q
    rw [q] at e
    have a : es.toList.any (·.refKey) = false := by
      rw [List.any_eq_false]
      intro y hy
      obtain ⟨z, t, hkey⟩ := hk y (Array.mem_toList_iff.mp hy)
      simp [DictEntry.refKey, hkey]
    have a' : ¬ es.toList.any (·.refKey) = true := by rw [a]; exact Bool.false_ne_true
    rw [if_neg a']
    exact congrArg some e

theorem ObjM.look {h : Heap} {x dx C : Addr} {mA : Str → Option Value} (I : ObjM h x dx C mA) : ∃ od, PySem.W.InstAt h x (PySem.W.instObj C dx) C (some od) ∧ ∀ name, PySem.W.lookIn name od = some (mA name) :=
  let ⟨od, ho, hl⟩ := lookIn_ns I.ns
  ⟨od, ⟨I.obj, rfl, rfl, ho⟩, hl⟩

section
variable {prog : Program} {w : World} {A : Around} {E : Value → Shared → Prop} {s : Shared} {K : PySem.W.Frag} {x dx C f : Addr} {mA : Str → Option Value} {name : Str} {v : Value}

theorem get_map {expr : Bool} {Q : Value → Shared → Prop} (X : K.In s.heap) (I : ObjM s.heap x dx C mA) (hg : PySem.W.plainGet K C name = true) (hh : PySem.W.hasDictIn K C = true)
    (ha : PySem.W.findIn K (.ref C) name = some none) (hv : mA name = some v) (hv' : PySem.W.handedIn v = true) (h : Q v { s with toks := s.toks + 1 }) :
    wpAny (model prog w) A (getAttr (.ref x) name expr) Q E s := by
  obtain ⟨od, J, hl⟩ := I.look
  exact PySem.W.get_value X J (PySem.W.plainGet_of hg).1 (PySem.W.findObj_own hh ha rfl (by rw [hl, hv])) hv' h

theorem get_meth {pl : Sem Bool} {Q : Value × List Value → Shared → Prop} (X : K.In s.heap) (I : ObjM s.heap x dx C mA) (hg : PySem.W.plainGet K C name = true)
    (hf : PySem.W.findIn K (.ref C) name = some (some (.ref f))) (ht : PySem.W.isFn K (.ref f) = true) (hv : mA name = none) (h : Q (.ref f, [.ref x]) s) :
    wpAny (model prog w) A (getMethod (.ref x) name pl) Q E s := by
  obtain ⟨od, J, hl⟩ := I.look
  exact PySem.W.method_fn X J (PySem.W.plainGet_of hg).1 (PySem.W.plainGet_of hg).2 hf (beq_iff_eq.mp ht) (by show (PySem.W.lookIn name od).map (·.isSome) = some false; rw [hl, hv]; rfl) h

theorem set_map {ns : List Str} {Q : Unit → Shared → Prop} (X : K.In s.heap) (I : ObjM s.heap x dx C mA)
    (hs : PySem.W.findIn K (.ref C) "__setattr__" = some (some (.builtin "object.__setattr__"))) (hp : PySem.W.plainOver K C = true) (ht : PySem.W.takerIn K C name = some none) (hh : PySem.W.hasDictIn K C = true)
    (hw : PySem.Within mA ns) (hsz : ns.length ≤ sizeLine)
    (h : ∀ h', ObjM h' x dx C (fun y => if y = name then some v else mA y) → Heap.SameBut dx s.heap h' → Q () { s with heap := h', toks := s.toks + 2 }) :
    wpAny (model prog w) A (setAttr (.ref x) name v) Q E s := by
  obtain ⟨od, J, hl⟩ := I.look
  refine PySem.W.set_plain X J hs (PySem.W.osa_open (s := { s with toks := s.toks + 1 }) (r := none) X J hp ht fun b => ?_)
  obtain ⟨cd, hc, hd'⟩ := PySem.W.any_some hh
  have hx : s.heap.get? x = some ⟨.ref C, some dx, .plain, #[]⟩ := I.obj
  refine wpAny_bind (wpAny_pure (wpAny_bind (wpAny_bind (wpAny_loadPart hx (wpAny_bind (PySem.W.Looks.here (s := { s with toks := s.toks + 1 }) (PySem.W.looks_clsIn X hc) ?_))))))
  rw [hd']
  refine wpAny_pure (a := some dx) (wpAny_bind (wpAny_pure (wpAny_bind ?_)))
  refine wpAny_nsSet1 (s := { s with toks := s.toks + 1 }) I.ns fun h' hn2 hs2 => ?_
  obtain ⟨oD, esD, epD, hoD, hdD, hcD⟩ := hn2.count (PySem.Within.cons name v hw)
  refine wpAny_bind (wpAny_lookBehind hoD (by rw [hdD]; exact pastItsLine_dict (Nat.le_trans hcD (by rw [List.length_cons]; omega))) ?_)
  exact wpAny_pure (h _ ⟨(hs2.2 _ (Ne.symm I.ne)).trans I.obj, hn2, I.ne⟩ hs2)

/-- C(..): the dict at the heap's end, the instance behind it; then its __init__ -/
theorem make_map {R : Result → Shared → Prop} {vs : List Value} {kw : List (Str × Value)} (X : K.In s.heap) (hm : PySem.W.makesIn K C = true)
    (hi : PySem.W.findIn K (.ref C) "__init__" = some (some (.ref f))) (hf : PySem.W.typeIn K (.ref f) = some (.type "function"))
    (h : codeAny (model prog w) (A.under (.builtin "type.__call__" ⟨.ref C :: vs, kw⟩)) (.call (.ref f) ⟨.ref (s.heap.objs.size + 1) :: vs, kw⟩) (PySem.W.InitBack (s.heap.objs.size + 1) R)
      { s with heap := (s.heap.push PySem.W.emptyDict).push (PySem.W.instObj C s.heap.objs.size) }) :
    codeAny (model prog w) A (.call (.ref C) ⟨vs, kw⟩) R s := by
  obtain ⟨hh, g, d, t, os⟩ := s
  exact PySem.W.make_core (PySem.W.makes_of X hm) (PySem.W.looks_findIn X hi) (fun self => PySem.W.bind_fn X self hf) (.inl rfl) h
end

/-! ### the attributes as a list of pairs -/
def putF (f : Str) (v : V) : List (Str × V) → List (Str × V)
  | [] => [(f, v)]
  | (g, x) :: r => if g = f then (g, v) :: r else (g, x) :: putF f v r
theorem lookup_putF (f g : Str) (v : V) : ∀ fs : List (Str × V), (putF f v fs).lookup g = if g = f then some v else fs.lookup g
  | [] => by
    show List.lookup g [(f, v)] = _
    by_cases h : g = f
    · have hb : (g == f) = true := beq_iff_eq.mpr h
      simp only [List.lookup, hb, if_pos h]
    · have hb : (g == f) = false := beq_eq_false_iff_ne.mpr h
      simp only [List.lookup, hb, if_neg h]
  | (k, x) :: r => by
    have ih := lookup_putF f g v r
    rw [show putF f v ((k, x) :: r) = (if k = f then (k, v) :: r else (k, x) :: putF f v r) from rfl]
    by_cases hk : k = f
    · rw [if_pos hk]
      by_cases h : g = k
      · have hb : (g == k) = true := beq_iff_eq.mpr h
        simp only [List.lookup, hb, if_pos (h.trans hk)]
      · have hb : (g == k) = false := beq_eq_false_iff_ne.mpr h
        simp only [List.lookup, hb, if_neg (fun e : g = f => h (e.trans hk.symm))]
    · rw [if_neg hk]
      by_cases h : g = k
      · have hb : (g == k) = true := beq_iff_eq.mpr h
        simp only [List.lookup, hb, if_neg (fun e : g = f => hk (h.symm.trans e))]
      · have hb : (g == k) = false := beq_eq_false_iff_ne.mpr h
        simp only [List.lookup, hb]
        exact ih
theorem keys_putF (f : Str) (v : V) : ∀ fs : List (Str × V), f ∈ (putF f v fs).map (·.1) ∧ ∀ g, g ∈ fs.map (·.1) → g ∈ (putF f v fs).map (·.1)
  | [] => ⟨by simp [putF], fun g h => by simp at h⟩
  | (k, x) :: r => by
    obtain ⟨i1, i2⟩ := keys_putF f v r
    rw [show putF f v ((k, x) :: r) = (if k = f then (k, v) :: r else (k, x) :: putF f v r) from rfl]
    by_cases hk : k = f
    · rw [if_pos hk]
      subst hk
      exact ⟨by simp, fun g h => by simpa using h⟩
    · rw [if_neg hk]
      refine ⟨?_, fun g h => ?_⟩
      · rw [List.map_cons]
        exact List.mem_cons_of_mem _ i1
      · rw [List.map_cons] at h ⊢
        rcases List.mem_cons.mp h with e | e
        · exact List.mem_cons.mpr (.inl e)
        · exact List.mem_cons_of_mem _ (i2 g e)
theorem length_putF (f : Str) (v : V) : ∀ fs : List (Str × V), (putF f v fs).length ≤ fs.length + 1
  | [] => by simp [putF]
  | (k, x) :: r => by
    have ih := length_putF f v r
    rw [show putF f v ((k, x) :: r) = (if k = f then (k, v) :: r else (k, x) :: putF f v r) from rfl]
    by_cases hk : k = f
    · rw [if_pos hk, List.length_cons, List.length_cons]; omega
    · rw [if_neg hk, List.length_cons, List.length_cons]; omega

theorem RelO.some_of {v : V} {o : Option Value} (r : RelO (some v) o) : ∃ u, o = some u ∧ RelV v u := by
  cases o with
  | none => exact (show False from r).elim
  | some u => exact ⟨u, rfl, r⟩
theorem RelO.none_of {o : Option Value} (r : RelO none o) : o = none := by
  cases o with
  | none => rfl
  | some u => exact (show False from r).elim
theorem handed_of {v : V} {u : Value} (r : RelV v u) : PySem.W.handedIn u = true := by
  cases v with
  | non => cases (show u = Value.none from r); rfl
  | bl b => cases (show u = Value.bool b from r); rfl
  | int i => obtain ⟨t, e⟩ := (show ∃ t, u = Value.int i t from r); cases e; rfl
  | str x => obtain ⟨t, e⟩ := (show ∃ t, u = Value.str x t from r); cases e; rfl
  | byt b => obtain ⟨t, e⟩ := (show ∃ t, u = Value.bytes b t from r); cases e; rfl
  | flt b => obtain ⟨t, e⟩ := (show ∃ t, u = Value.float b t from r); cases e; rfl
  | ref a => cases (show u = Value.ref a from r); rfl
  | ty n => cases (show u = Value.type n from r); rfl

section
variable {P : Program} {w : World} {H H' : Hp} {h h' : Heap} {a C dx : Addr} {fs fs' : List (Str × V)}
theorem ins_get (hok : HOk P w H h) (e : H a = some (.ins C dx fs)) : ∃ mA, ObjM h a dx C mA ∧ (∀ f, RelO (fs.lookup f) (mA f)) ∧ PySem.Within mA (fs.map (·.1)) ∧ fs.length ≤ 1000 ∧ H dx = some (.own a) := by
  obtain ⟨d, z, ne, ob, mA, n, r, q⟩ := (show ObjOk P w H h a (.ins C dx fs) from hok a _ e)
  exact ⟨mA, ⟨ob, n, ne⟩, r, q, z, d⟩
end

/-! ### what of the text a class must have -/
structure Cls (K : PySem.W.Frag) (C : Addr) : Prop where
  pg : PySem.W.plainGet K C Str.empty = true
  hd : PySem.W.hasDictIn K C = true
  po : PySem.W.plainOver K C = true
  sa : PySem.W.findIn K (.ref C) "__setattr__" = some (some (.builtin "object.__setattr__"))
theorem Cls.get {K : PySem.W.Frag} {C : Addr} (c : Cls K C) (f : Str) : PySem.W.plainGet K C f = true := c.pg
/-- no class of it has the name -/
def NoAttr (K : PySem.W.Frag) (C : Addr) (f : Str) : Prop := PySem.W.findIn K (.ref C) f = some none
theorem NoAttr.taker {K : PySem.W.Frag} {C : Addr} {f : Str} (n : NoAttr K C f) : PySem.W.takerIn K C f = some none := by
  unfold PySem.W.takerIn
  rw [show PySem.W.findIn K (.ref C) f = some none from n]
  rfl
/-- a method: a plain def of the class or of one above it -/
structure Meth (K : PySem.W.Frag) (C : Addr) (m : Str) (f : Addr) : Prop where
  at_ : PySem.W.findIn K (.ref C) m = some (some (.ref f))
  fn : PySem.W.isFn K (.ref f) = true
  kp : PySem.W.keepIn K (.ref f) = true

section
variable {X : Cx} {pins : List (Addr × Obj)} {σ : St} {H : Hp} {s : Shared} {a C dx : Addr} {fs : List (Str × V)} {f : Str} {v : V} {A : Around} {E : Value → Shared → Prop}

theorem getattr_ok {b : Bool} {Q : Value → Shared → Prop} (I : Inv X pins σ H s) (e : H a = some (.ins C dx fs)) (c : Cls X.K C) (n : NoAttr X.K C f) (l : fs.lookup f = some v)
    (h : ∀ u s', Inv X pins σ H s' → RelV v u → Q u s') : wpAny (model X.prog X.w) A (getAttr (.ref a) f b) Q E s := by
  obtain ⟨mA, O, r, _, _, _⟩ := ins_get I.hok e
  obtain ⟨u, hu, ru⟩ := RelO.some_of (v := v) (o := mA f) (by rw [← l]; exact r f)
  exact get_map I.kIn O (c.get f) c.hd n hu (handed_of ru) (h u _ (I.tok _) ru)

theorem getmeth_ok {m : Str} {g : Addr} {pl : Sem Bool} {Q : Value × List Value → Shared → Prop} (I : Inv X pins σ H s) (e : H a = some (.ins C dx fs)) (c : Cls X.K C) (k : Meth X.K C m g) (l : fs.lookup m = none)
    (h : Q (.ref g, [.ref a]) s) : wpAny (model X.prog X.w) A (getMethod (.ref a) m pl) Q E s := by
  obtain ⟨mA, O, r, _, _, _⟩ := ins_get I.hok e
  have hn : mA m = none := RelO.none_of (by rw [← l]; exact r m)
  exact get_meth I.kIn O (c.get m) k.at_ k.fn hn h

theorem setattr_ok {y : V} {u : Value} {Q : Unit → Shared → Prop} (I : Inv X pins σ H s) (e : H a = some (.ins C dx fs)) (c : Cls X.K C) (n : NoAttr X.K C f) (hl : fs.length < 1000) (ry : RelV y u)
    (h : ∀ s', Inv X pins σ (upd H a (.ins C dx (putF f y fs))) s' → Q () s') : wpAny (model X.prog X.w) A (setAttr (.ref a) f u) Q E s := by
  obtain ⟨mA, O, r, wi, _, ho⟩ := ins_get I.hok e
  have hz : (fs.map (·.1)).length ≤ sizeLine := by rw [List.length_map, sizeLine_eq]; omega
  refine set_map I.kIn O c.sa c.po n.taker c.hd wi hz fun h' O' sb => h _ ?_
  have hd : ∃ o, h'.get? dx = some o := let ⟨o, _, _, e', _⟩ := O'.ns; ⟨o, e'⟩
  refine I.write (x := a) (e := dx) (by rw [e]; exact True.intro) (.inr ho) (fun b q hb z => (sb.2 b hb).trans z) hd ?_
  refine ⟨by rw [upd_ne O.ne]; exact ho, ?_, O.ne, O'.obj, _, O'.ns, fun g => ?_, fun g hg => ?_⟩
  · have := length_putF f y fs; omega
  · show RelO ((putF f y fs).lookup g) (if g = f then some u else mA g)
    rw [lookup_putF]
    by_cases q : g = f
    · rw [if_pos q, if_pos q]; exact ry
    · rw [if_neg q, if_neg q]; exact r g
  · by_cases q : g = f
    · rw [q]; exact (keys_putF f y fs).1
    · refine (keys_putF f y fs).2 g (wi g fun z => hg ?_)
      show (if g = f then some u else mA g) = none
      rw [if_neg q]; exact z

/-- a new instance, tracked, without attributes -/
theorem Inv.made (I : Inv X pins σ H s) : Inv X pins σ (upd (upd H s.heap.objs.size (.own (s.heap.objs.size + 1))) (s.heap.objs.size + 1) (.ins C s.heap.objs.size []))
    { s with heap := (s.heap.push PySem.W.emptyDict).push (PySem.W.instObj C s.heap.objs.size) } := by
  have e1 : (s.heap.push PySem.W.emptyDict).get? s.heap.objs.size = some PySem.W.emptyDict := Heap.get?_push_size s.heap rfl
  have e2 : ((s.heap.push PySem.W.emptyDict).push (PySem.W.instObj C s.heap.objs.size)).get? (s.heap.objs.size + 1) = some (PySem.W.instObj C s.heap.objs.size) := by
    have := Heap.get?_push_size (s.heap.push PySem.W.emptyDict) (o := PySem.W.instObj C s.heap.objs.size) rfl
    rwa [Heap.size_push] at this
  have e3 : (s.heap.push PySem.W.emptyDict).Ns s.heap.objs.size (fun _ => none) := ⟨PySem.W.emptyDict, #[], _, e1, rfl, (fun e he => absurd he (by simp)), fun _ => rfl⟩
  have I1 := I.laid (a := s.heap.objs.size) (o := .own (s.heap.objs.size + 1)) (h' := s.heap.push PySem.W.emptyDict) (t' := s.toks) (fun b u q => Heap.get?_push_of_some _ q) (Nat.le_refl _) ⟨_, e1⟩
  refine I1.laid (a := s.heap.objs.size + 1) (o := .ins C s.heap.objs.size []) (t' := s.toks) (fun b u q => Heap.get?_push_of_some _ q) (Nat.le_of_eq (Heap.size_push _ _)) ?_
  have ne : s.heap.objs.size ≠ s.heap.objs.size + 1 := Nat.ne_of_lt (Nat.lt_succ_self _)
  refine ⟨by rw [upd_ne ne, upd_same], Nat.zero_le _, ne, e2, fun _ => none, (Heap.Ns1.of_empty e3).at fun o q => Heap.get?_push_of_some _ q, fun _ => True.intro, fun y hy => absurd rfl hy⟩

/-- e.f where nothing but the object is asked: through attributeBase (super) and the last hold -/
theorem attr_of {prog : Program} {w : World} {env : Env} {e : Expr} {f : Str} {pos : Pos} {s : Shared} {Q : Value → Shared → Prop} (hb : attributeBase e f env (eval e env) = eval e env)
    (h : wpAny (model prog w) A (eval e env) (fun o s₁ => wpAny (model prog w) A (getAttr o f true) Q E s₁) E s) : wpAny (model prog w) A (eval (.Attribute e f pos) env) Q E s :=
  Attribute_any_ h (by rw [arm_eval_Attribute, hb])
end

/-! ### readings and rules -/
/-- e.f, an attribute of the instance -/
def tFld (K : PySem.W.Frag) (ta : TE) (f : Str) : TE := fun σ H Q => ta σ H fun x H1 => ∃ a C dx fs v, x = .ref a ∧ H1 a = some (.ins C dx fs) ∧ Cls K C ∧ NoAttr K C f ∧ fs.lookup f = some v ∧ Q v H1
/-- e.f = value -/
def sFld (K : PySem.W.Frag) (ta tv : TE) (f : Str) : TS := fun D σ H => tv σ H fun y H1 => ta σ H1 fun x H2 => ∃ a C dx fs, x = .ref a ∧ H2 a = some (.ins C dx fs) ∧ Cls K C ∧ NoAttr K C f ∧ fs.length < 1000 ∧
  D.nx σ (upd H2 a (.ins C dx (putF f y fs)))
/-- an augmented operator on two values -/
def InOp (X : Cx) (op : Operator) (rd : V → V → Hp → VK → Prop) : Prop :=
  ∀ (pins : List (Addr × Obj)) (s : Shared) (σ : St) (H : Hp) (x y : V) (u v : Value) (Q : VK), Inv X pins σ H s → RelV x u → RelV y v → rd x y H Q → wpAny (model X.prog X.w) X.A (inplaceOp op u v) (EP X pins σ Q) X.xe s
/-- e.f op= value -/
def sFldAug (K : PySem.W.Frag) (ta tv : TE) (rd : V → V → Hp → VK → Prop) (f : Str) : TS := fun D σ H => ta σ H fun x H1 => ∃ a C dx fs v, x = .ref a ∧ H1 a = some (.ins C dx fs) ∧ Cls K C ∧ NoAttr K C f ∧ fs.lookup f = some v ∧
  tv σ H1 fun y H2 => rd v y H2 fun z H3 => ∃ dx' fs', H3 a = some (.ins C dx' fs') ∧ fs'.length < 1000 ∧ D.nx σ (upd H3 a (.ins C dx' (putF f z fs')))

section
variable {X : Cx} {o e value : Expr} {f : Str} {pos pos' tpos : Pos} {ta tv : TE}
theorem pe_fld (he : PE X e ta) (hb : attributeBase e f X.env (eval e X.env) = eval e X.env) : PE X (.Attribute e f pos) (tFld X.K ta f) := by
  intro pins s σ H Q I h
  refine attr_of hb (thn (he pins s σ H _ I h) fun u s1 ⟨x, H1, I1, rx, a, C, dx, fs, v, ex, ea, c, n, l, q⟩ => ?_)
  subst ex
  obtain rfl : u = Value.ref a := rx
  exact getattr_ok I1 ea c n l fun u' s2 I2 ru => ⟨v, H1, I2, ru, q⟩
theorem ps_fld (ha : PE X o ta) (hv : PE X value tv) (hs : swapsWith value (some (.Attribute o f pos')) pos.line X.env = pure false) : PS X (.Assign [.Attribute o f pos'] value pos) (sFld X.K ta tv f) := by
  intro pins s σ H D I h
  refine plainObj_wpAny_Assign_Attribute (thn (hv pins s σ H _ I h) fun u s1 ⟨y, H1, I1, ry, q⟩ => thn (ha pins s1 σ H1 _ I1 q) fun ov s2 ⟨x, H2, I2, rx, a, C, dx, fs, ex, ea, c, n, l, q2⟩ => ?_) hs
  subst ex
  obtain rfl : ov = Value.ref a := rx
  exact setattr_ok I2 ea c n l ry fun s3 I3 => ⟨σ, _, I3, q2⟩
theorem ps_fldaug {op : Operator} {rd : V → V → Hp → VK → Prop} (ha : PE X o ta) (hv : PE X value tv) (hop : InOp X op rd) : PS X (.AugAssign (.Attribute o f tpos) op value pos) (sFldAug X.K ta tv rd f) := by
  intro pins s σ H D I h
  refine wpAny_AugAssign_AttributeAny (thn (ha pins s σ H _ I h) fun ov s1 ⟨x, H1, I1, rx, a, C, dx, fs, v, ex, ea, c, n, l, q⟩ => ?_)
  subst ex
  obtain rfl : ov = Value.ref a := rx
  refine getattr_ok I1 ea c n l fun u s2 I2 ru => thn (hv pins s2 σ H1 _ I2 q) fun w3 s3 ⟨y, H2, I3, ry, q3⟩ => thn (hop pins s3 σ H2 v y u w3 _ I3 ru ry q3) fun w4 s4 ⟨z, H3, I4, rz, dx', fs', ea', l', q4⟩ => ?_
  exact setattr_ok I4 ea' c n l' rz fun s5 I5 => ⟨σ, _, I5, q4⟩
def rAdd : V → V → Hp → VK → Prop := fun x y H Q => ∃ i j, x = .int i ∧ y = .int j ∧ Q (.int (i + j)) H
theorem in_add : InOp X .Add rAdd := by
  rintro pins s σ H x y u v Q I rx ry ⟨i, j, rfl, rfl, q⟩
  obtain ⟨t, rfl⟩ := (show ∃ t, u = Value.int i t from rx)
  obtain ⟨t', rfl⟩ := (show ∃ t', v = Value.int j t' from ry)
  exact PyProof.Rows.iadd_int ⟨.int (i + j), H, I.tok _, ⟨_, rfl⟩, q⟩

end

/-! ### isinstance -/
section
variable {X : Cx} {pins : List (Addr × Obj)} {σ : St} {H : Hp} {s : Shared} {A : Around} {E : Value → Shared → Prop} {Q : Value → Shared → Prop} {c : Value} {b : Bool}
end
end L2

namespace L2
open PySem PySem.Spec PyProof.Rows

/-! ### room -/
structure Room (k : Nat) (A : Around) : Prop where
  hd : A.handled = none
  dp : A.depth + 3 * k + 5 < recursionLimit
  un : A.units + 16 * k + 200 < cLine
theorem Room.mono {j k : Nat} {A : Around} (r : Room k A) (h : j ≤ k) : Room j A := ⟨r.hd, by have := r.dp; omega, by have := r.un; omega⟩
theorem Room.deeper {k : Nat} {A : Around} (r : Room (k + 1) A) (env : Env) : Room k (A.deeper env) :=
  ⟨r.hd, by have := r.dp; show A.depth + 1 + 3 * k + 5 < _; omega, by have := r.un; show A.units + 3 + 16 * k + 200 < _; omega⟩
theorem make_depth {A : Around} {C : Addr} {us : List Value} {kw : List (Str × Value)} : (A.under (.builtin "type.__call__" ⟨.ref C :: us, kw⟩)).depth = A.depth + 1 := by
  first | rfl | simp [Around.under, Code.weight, Code.isCreation, Code.isGuard, Code.isCaller, Code.frames, Code.isFrame, guardIds]
theorem make_units {A : Around} {C : Addr} {us : List Value} {kw : List (Str × Value)} : (A.under (.builtin "type.__call__" ⟨.ref C :: us, kw⟩)).units = A.units + 1 := by
  first | rfl | simp [Around.under, Code.cUnits, Code.frames, Code.isFrame]
theorem Room.make {k : Nat} {A : Around} (r : Room (k + 1) A) (C : Addr) (us : List Value) (kw : List (Str × Value)) : Room k (A.under (.builtin "type.__call__" ⟨.ref C :: us, kw⟩)) :=
  ⟨r.hd, by have := r.dp; rw [make_depth]; omega, by have := r.un; rw [make_units]; omega⟩
theorem Room.depth {k : Nat} {A : Around} (r : Room k A) : A.depth < recursionLimit := by have := r.dp; omega

/-! ### argument lists and displays -/
def tNil : TA := fun _ H Q => Q [] H
def tCons (ta : TE) (tr : TA) : TA := fun σ H Q => ta σ H fun x H1 => tr σ H1 fun xs H2 => Q (x :: xs) H2
section
variable {X : Cx} {e : Expr} {es : List Expr} {te : TE} {t : TA} {pos : Pos}
theorem pa_nil : PA X [] tNil := fun _ _ _ _ H Q I h => Calls.spliced_nil ⟨[], H, I, .nil, h⟩
theorem pa_cons (ha : PE X e te) (hr : PA X es t) (hs : starEach (e :: es) X.env = (false, eval e X.env) :: starEach es X.env := by rfl) : PA X (e :: es) (tCons te t) := by
  intro pos pins s σ H Q I h
  rw [hs]
  show wpAny _ _ (spliced ((false, eval e X.env) :: backTo pos (starEach es X.env))) _ _ s
  refine Calls.spliced_cons (thn (ha pins s σ H _ I h) fun u s1 ⟨x, H1, I1, r1, q1⟩ => ?_)
  exact thn (hr pos pins s1 σ H1 _ I1 q1) fun us s2 ⟨xs, H2, I2, r2, q2⟩ => ⟨x :: xs, H2, I2, .cons r1 r2, q2⟩

/-- a tuple, a list of written items -/
def tTup (t : TA) : TE := fun σ H Q => t σ H fun xs H1 => xs.length ≤ sizeLine ∧ ∀ p, H1 p = none → Q (.ref p) (upd H1 p (.tup xs))
def tLst (t : TA) : TE := fun σ H Q => t σ H fun xs H1 => xs.length ≤ sizeLine ∧ ∀ p, H1 p = none → Q (.ref p) (upd H1 p (.lst xs))
theorem pe_tup {x1} (h : PA X es t) : PE X (.Tuple es x1 pos) (tTup t) := by
  intro pins s σ H Q I hq
  refine wpAny_Tuple_spliced (thn (h pos pins s σ H _ I hq) fun us s1 ⟨xs, H1, I1, r, z, q⟩ => ⟨by rw [← r.length]; exact z, ?_⟩)
  have hf : H1 s1.heap.objs.size = none := I1.hok.fresh (Nat.le_refl _)
  refine ⟨.ref s1.heap.objs.size, upd H1 s1.heap.objs.size (.tup xs), I1.laid (t' := s1.toks) (fun b u e => Heap.get?_push_of_some _ e) (Nat.le_refl _) ?_, rfl, q _ hf⟩
  exact ⟨z, us, r, ⟨_, Heap.get?_push_size _ rfl, rfl, _, rfl⟩⟩
theorem pe_lst (h : PA X es t) : PE X (.List es pos) (tLst t) := by
  intro pins s σ H Q I hq
  refine wpAny_List_spliced (thn (h pos pins s σ H _ I hq) fun us s1 ⟨xs, H1, I1, r, z, q⟩ => ⟨by rw [← r.length]; exact z, ?_⟩)
  have hf : H1 s1.heap.objs.size = none := I1.hok.fresh (Nat.le_refl _)
  refine ⟨.ref s1.heap.objs.size, upd H1 s1.heap.objs.size (.lst xs), I1.laid (t' := s1.toks) (fun b u e => Heap.get?_push_of_some _ e) (Nat.le_refl _) ?_, rfl, q _ hf⟩
  exact ⟨z, us, 0, r, Heap.get?_push_size _ rfl⟩
end

/-! ### what a def promises -/
/-- a def's promise: the bound arguments in the parameters' order, the heap, the wanted end, the wanted exception -/
abbrev Sp := List V → Hp → VK → XK → Prop
/-- how an exception lies behind a call (file 08 gives it): the callers' frames, abstract heap and state ahead of the call, the wish, the exception, the state -/
abbrev CXT := List Env → Hp → Shared → XK → Value → Shared → Prop

/-- the state at a call -/
structure Env0 (P : Program) (w : World) (K : PySem.W.Frag) (mg : Str → Option Value) (base : Heap) (A : Around) (outer : List Env) (s : Shared) (H : Hp) : Prop where
  frames : A.frames = some outer
  mod : Mod K mg base
  bs : ∀ b o, base.get? b = some o → s.heap.get? b = some o ∧ H b = none
  bsz : base.objs.size ≤ s.heap.objs.size
  funs : s.heap.FunFrames base outer
  frf : ∀ b ∈ frs outer, H b = none
  hok : HOk P w H s.heap
  bare : AllBare s.gens
/-- a call's end -/
def CE (outer : List Env) (P : Program) (w : World) (H : Hp) (s : Shared) (Q : VK) (u : Value) (s' : Shared) : Prop :=
  ∃ v H', s'.os = s.os ∧ AllBare s'.gens ∧ Un (frs outer) [] H H' s.heap s'.heap ∧ HOk P w H' s'.heap ∧ RelV v u ∧ Q v H'
def CR (CX : CXT) (outer : List Env) (P : Program) (w : World) (H : Hp) (s : Shared) (Q : VK) (E : XK) (r : Result) (s' : Shared) : Prop :=
  match r with
  | .ok (.ret u) => CE outer P w H s Q u s'
  | .ok _ => False
  | .error e => CX outer H s E e s'
structure FnOk (P : Program) (w : World) (K : PySem.W.Frag) (mg : Str → Option Value) (base : Heap) (CX : CXT) (k : Nat) (f : Addr) (fd : FuncData) (ps : List Str) (sp : Sp) : Prop where
  len : ∀ vs H Q E, sp vs H Q E → vs.length = ps.length
  run : ∀ (A : Around) (outer : List Env) (s : Shared) (H : Hp) (args : Args) (us : List Value) (vs : List V) (Q : VK) (E : XK), Room k A → Env0 P w K mg base A outer s H → BindsTo s fd args (ps.zip us) → Vals vs us → sp vs H Q E →
    codeAny (model P w) A (.call (.ref f) args) (CR CX outer P w H s Q E) s
theorem FnOk.mono {P : Program} {w : World} {K : PySem.W.Frag} {mg : Str → Option Value} {base : Heap} {CX : CXT} {j k : Nat} {f : Addr} {fd : FuncData} {ps : List Str} {sp : Sp} (F : FnOk P w K mg base CX j f fd ps sp) (h : j ≤ k) :
    FnOk P w K mg base CX k f fd ps sp := ⟨F.len, fun A outer s H args us vs Q E hr => F.run A outer s H args us vs Q E (hr.mono h)⟩

theorem Env0.make {P : Program} {w : World} {K : PySem.W.Frag} {mg : Str → Option Value} {base : Heap} {A : Around} {outer : List Env} {s : Shared} {H : Hp} (e : Env0 P w K mg base A outer s H) (C : Addr) (us : List Value) (kw : List (Str × Value)) :
    Env0 P w K mg base (A.under (.builtin "type.__call__" ⟨.ref C :: us, kw⟩)) outer s H := ⟨by first | exact e.frames | (simpa [Around.under, Code.envs, Code.isFrame, pushEnvs] using e.frames), e.mod, e.bs, e.bsz, e.funs, e.frf, e.hok, e.bare⟩

section
variable {X : Cx} {pins : List (Addr × Obj)} {σ : St} {H : Hp} {s s' : Shared}
/-- from a body: what a callee wants -/
theorem Inv.env0 (I : Inv X pins σ H s) : Env0 X.prog X.w X.K X.mg X.base X.A X.stack s H :=
  ⟨I.ok.frames, I.ok.mod, I.bs, Nat.le_trans I.ok.bsz I.sz, I.stack, I.stkFree, I.hok, I.bare⟩
/-- behind a call -/
theorem Inv.after {Q : VK} {u : Value} (I : Inv X pins σ H s) (h : CE X.stack X.prog X.w H s Q u s') : EP X pins σ Q u s' := by
  obtain ⟨v, H', os, bare, un, hok, r, q⟩ := h
  obtain ⟨hh, g, d, t, os'⟩ := s'
  obtain rfl : os' = s.os := os
  exact ⟨v, H', I.call (h' := hh) (g' := g) (d' := d) (t' := t) (ch := []) un hok bare (fun b z => absurd z (by simp)), r, q⟩
end

/-! ### calls -/
/-- f(..): the written arguments, then the defaults dvs; E: what is wanted of an exception -/
def tCall (sp : Sp) (dvs : List V) (E : XK) (t : TA) : TE := fun σ H Q => t σ H fun vs H1 => sp (vs ++ dvs) H1 Q E
/-- o.m(..) of an instance of the class at C -/
def tMeth (C : Addr) (m : Str) (sp : Sp) (dvs : List V) (E : XK) (ta : TE) (t : TA) : TE := fun σ H Q => ta σ H fun x H1 => ∃ a dx fs, x = .ref a ∧ H1 a = some (.ins C dx fs) ∧ fs.lookup m = none ∧
  t σ H1 fun vs H2 => sp (x :: (vs ++ dvs)) H2 Q E
/-- C(..): a new instance and its dict, then __init__ -/
def tMake (C : Addr) (sp : Sp) (dvs : List V) (E : XK) (t : TA) : TE := fun σ H Q => t σ H fun vs H1 => ∀ x dx, H1 x = none → H1 dx = none → dx ≠ x →
  sp (.ref x :: (vs ++ dvs)) (upd (upd H1 dx (.own x)) x (.ins C dx [])) (fun v H2 => v = .non ∧ Q (.ref x) H2) E

/-- how the parameters are bound: us the positional arguments, kw the keywords' values by name, ds the defaults that fill up -/
def Binds (K : PySem.W.Frag) (fd : FuncData) (ps : List Str) (ds : List Value) : Prop :=
  ∀ (s : Shared) (us : List Value), K.In s.heap → (us ++ ds).length = ps.length → BindsTo s fd ⟨us, []⟩ (ps.zip (us ++ ds))
/-- every parameter is given -/
theorem Binds.all {K : PySem.W.Frag} {fd : FuncData} {ps : List Str} (h : ∀ us : List Value, us.length = ps.length → bindArgs fd ⟨us, []⟩ = pure (ps.zip us)) : Binds K fd ps [] := fun s us _ hl => by
  rw [List.append_nil] at hl ⊢
  exact .of_eq (h us hl)

/-- an exception of a callee reaches what this body wants of exceptions -/
def Passes (CX : CXT) (X : Cx) (E : XK) : Prop := ∀ (pins : List (Addr × Obj)) (σ : St) (H : Hp) (s : Shared) (e : Value) (s' : Shared), Inv X pins σ H s → CX X.stack H s E e s' → X.xe e s'

section
variable {X : Cx} {CX : CXT} {k : Nat} {f C : Addr} {fd : FuncData} {ps : List Str} {sp : Sp} {dvs : List V} {ds : List Value} {E : XK} {x m : Str} {p pos apos : Pos} {e o : Expr} {es : List Expr} {ta : TE} {t : TA}

/-- the callee runs -/
theorem run_fn {pins : List (Addr × Obj)} {σ : St} {H : Hp} {s : Shared} {Q : VK} {us : List Value} {vs : List V} (F : FnOk X.prog X.w X.K X.mg X.base CX k f fd ps sp) (hr : Room k X.A) (hb : Binds X.K fd ps ds) (hd : Vals dvs ds) (hx : Passes CX X E)
    (I : Inv X pins σ H s) (r : Vals vs us) (h : sp (vs ++ dvs) H Q E) : wpAny (model X.prog X.w) X.A (call (.ref f) us) (EP X pins σ Q) X.xe s := by
  have r2 : Vals (vs ++ dvs) (us ++ ds) := r.append hd
  have hl : (us ++ ds).length = ps.length := by rw [← r2.length]; exact F.len _ _ _ _ h
  refine wpAny_call (codeAny_mono (F.run X.A X.stack s H ⟨us, []⟩ (us ++ ds) (vs ++ dvs) Q E hr I.env0 (hb s us I.kIn hl) r2 h) fun r s' hq => ?_)
  cases r with
  | error e => exact hx pins σ H s e s' I hq
  | ok fl =>
    cases fl with
    | ret u => exact I.after hq
    | next => exact False.elim hq
    | brk => exact False.elim hq
    | cont => exact False.elim hq

theorem pe_call (F : FnOk X.prog X.w X.K X.mg X.base CX k f fd ps sp) (hr : Room k X.A) (hg : Gl X x) (hm : X.mg x = some (.ref f)) (hk : PySem.W.keepIn X.K (.ref f) = true) (hb : Binds X.K fd ps ds) (hd : Vals dvs ds) (hx : Passes CX X E)
    (ha : PA X (e :: es) t) (hdb : (x == ("__debug__" : Str)) = false := by decide) (he : starEach (e :: es) X.env = (false, eval e X.env) :: starEach es X.env := by rfl) (hpl : (backTo pos (starEach es X.env)).any (·.1) = false := by rfl) :
    PE X (.Call (.Name x p) (e :: es) [] pos) (tCall sp dvs E t) := by
  intro pins s σ H Q I h
  refine wpAny_Call_Name_kw (ld_glob I hg hm ?_ hdb)
  refine PySem.W.callWith_K (h₀ := X.base) I.ok.mod.kin hk (thn (ha pos pins s σ H _ I h) fun us s1 ⟨vs, H1, I1, r, q⟩ => ⟨I1.kIn, ?_⟩) he hpl
  exact run_fn F hr hb hd hx I1 r q

/-- o.m(e, ..) -/
theorem pe_meth {pl : Sem Bool} (he : PE X o ta) (c : Cls X.K C) (hm : Meth X.K C m f) (F : FnOk X.prog X.w X.K X.mg X.base CX k f fd ps sp) (hr : Room k X.A) (hb : Binds X.K fd ps ds) (hd : Vals dvs ds) (hx : Passes CX X E) (ha : PA X (e :: es) t)
    (hst : starEach (e :: es) X.env = (false, eval e X.env) :: starEach es X.env := by rfl) (hpl : (backTo pos (starEach es X.env)).any (·.1) = false := by rfl)
    (ht : eval (.Call (.Attribute o m apos) (e :: es) [] pos) X.env = (do
      let ov ← eval o X.env
      standAt apos.atName
      let (f, first) ← holding [ov] (getMethod ov m pl)
      callWith pos f first (backTo pos (starEach (e :: es) X.env)) (backToKw pos (keywordEach [] X.env))) := by rfl) :
    PE X (.Call (.Attribute o m apos) (e :: es) [] pos) (tMeth C m sp dvs E ta t) := by
  intro pins s σ H Q I h
  refine PySem.W.methodCall_KW (pl := pl) (thn (he pins s σ H _ I h) fun u s1 ⟨x, H1, I1, rx, a, dx, fs, ex, ea, l, q⟩ => ?_) ht
  subst ex
  obtain rfl : u = Value.ref a := rx
  refine getmeth_ok I1 ea c hm l ?_
  refine PySem.W.callWith_K (first := [.ref a]) (h₀ := X.base) I.ok.mod.kin hm.kp (thn (ha pos pins s1 σ H1 _ I1 q) fun us s2 ⟨vs, H2, I2, r, q2⟩ => ⟨I2.kIn, ?_⟩) hst hpl
  exact run_fn (us := .ref a :: us) (vs := .ref a :: vs) F hr hb hd hx I2 (.cons rfl r) q2
/-- o.m() -/
theorem pe_meth0 {pl : Sem Bool} (he : PE X o ta) (c : Cls X.K C) (hm : Meth X.K C m f) (F : FnOk X.prog X.w X.K X.mg X.base CX k f fd ps sp) (hr : Room k X.A) (hb : Binds X.K fd ps ds) (hd : Vals dvs ds) (hx : Passes CX X E)
    (ht : eval (.Call (.Attribute o m apos) [] [] pos) X.env = (do
      let ov ← eval o X.env
      standAt apos.atName
      let (f, first) ← holding [ov] (getMethod ov m pl)
      callWith pos f first (backTo pos (starEach [] X.env)) (backToKw pos (keywordEach [] X.env))) := by rfl) :
    PE X (.Call (.Attribute o m apos) [] [] pos) (tMeth C m sp dvs E ta tNil) := by
  intro pins s σ H Q I h
  refine PySem.W.methodCall_KW (pl := pl) (thn (he pins s σ H _ I h) fun u s1 ⟨x, H1, I1, rx, a, dx, fs, ex, ea, l, q⟩ => ?_) ht
  subst ex
  obtain rfl : u = Value.ref a := rx
  refine getmeth_ok I1 ea c hm l ?_
  exact PySem.W.callWith_K0 (first := [.ref a]) I1.kIn hm.kp (run_fn (us := [.ref a]) (vs := [.ref a]) F hr hb hd hx I1 (.cons rfl .nil) q)

/-- what a class must have to be made -/
structure Mk (K : PySem.W.Frag) (C f : Addr) : Prop where
  makes : PySem.W.makesIn K C = true
  init : PySem.W.findIn K (.ref C) "__init__" = some (some (.ref f))
  fn : PySem.W.isFn K (.ref f) = true
  kp : PySem.W.keepIn K (.ref C) = true

theorem run_make {pins : List (Addr × Obj)} {σ : St} {H : Hp} {s : Shared} {Q : VK} {us : List Value} {vs : List V} (M : Mk X.K C f) (F : FnOk X.prog X.w X.K X.mg X.base CX k f fd ps sp) (hr : Room (k + 1) X.A) (hb : Binds X.K fd ps ds) (hd : Vals dvs ds)
    (hx : Passes CX X E) (I : Inv X pins σ H s) (r : Vals vs us)
    (h : ∀ x dx, H x = none → H dx = none → dx ≠ x → sp (.ref x :: (vs ++ dvs)) (upd (upd H dx (.own x)) x (.ins C dx [])) (fun v H2 => v = .non ∧ Q (.ref x) H2) E) :
    wpAny (model X.prog X.w) X.A (call (.ref C) us) (EP X pins σ Q) X.xe s := by
  have hq := h (s.heap.objs.size + 1) s.heap.objs.size (I.hok.fresh (Nat.le_succ _)) (I.hok.fresh (Nat.le_refl _)) (Nat.ne_of_lt (Nat.lt_succ_self _))
  have I2 := Inv.made (C := C) I
  have r2 : Vals (V.ref (s.heap.objs.size + 1) :: (vs ++ dvs)) (Value.ref (s.heap.objs.size + 1) :: (us ++ ds)) := .cons rfl (r.append hd)
  have hl : (Value.ref (s.heap.objs.size + 1) :: us ++ ds).length = ps.length := by
    have e := r2.length
    rw [F.len _ _ _ _ hq] at e
    exact e.symm
  refine wpAny_call (make_map (f := f) I.kIn M.makes M.init (beq_iff_eq.mp M.fn) (codeAny_mono (F.run _ X.stack _ _ ⟨Value.ref (s.heap.objs.size + 1) :: us, []⟩ (Value.ref (s.heap.objs.size + 1) :: (us ++ ds)) _ _ E (hr.make C us [])
    (I2.env0.make C us []) (hb _ (Value.ref (s.heap.objs.size + 1) :: us) I2.kIn hl) r2 hq) fun r s' hq' => ?_))
  cases r with
  | error e => exact hx pins σ _ _ e s' I2 hq'
  | ok fl =>
    cases fl with
    | ret u =>
      obtain ⟨v, H', I3, rv, ev, q3⟩ := I2.after hq'
      subst ev
      exact ⟨rv, ⟨V.ref (s.heap.objs.size + 1), H', I3, rfl, q3⟩⟩
    | next => exact False.elim hq'
    | brk => exact False.elim hq'
    | cont => exact False.elim hq'
theorem pe_make (M : Mk X.K C f) (F : FnOk X.prog X.w X.K X.mg X.base CX k f fd ps sp) (hr : Room (k + 1) X.A) (hg : Gl X x) (hm : X.mg x = some (.ref C)) (hb : Binds X.K fd ps ds) (hd : Vals dvs ds) (hx : Passes CX X E)
    (ha : PA X (e :: es) t) (hdb : (x == ("__debug__" : Str)) = false := by decide) (he : starEach (e :: es) X.env = (false, eval e X.env) :: starEach es X.env := by rfl) (hpl : (backTo pos (starEach es X.env)).any (·.1) = false := by rfl) :
    PE X (.Call (.Name x p) (e :: es) [] pos) (tMake C sp dvs E t) := by
  intro pins s σ H Q I h
  refine wpAny_Call_Name_kw (ld_glob I hg hm ?_ hdb)
  refine PySem.W.callWith_K (h₀ := X.base) I.ok.mod.kin M.kp (thn (ha pos pins s σ H _ I h) fun us s1 ⟨vs, H1, I1, r, q⟩ => ⟨I1.kIn, ?_⟩) he hpl
  exact run_make M F hr hb hd hx I1 r q
theorem pe_make0 (M : Mk X.K C f) (F : FnOk X.prog X.w X.K X.mg X.base CX k f fd ps sp) (hr : Room (k + 1) X.A) (hg : Gl X x) (hm : X.mg x = some (.ref C)) (hb : Binds X.K fd ps ds) (hd : Vals dvs ds) (hx : Passes CX X E)
    (hdb : (x == ("__debug__" : Str)) = false := by decide) : PE X (.Call (.Name x p) [] [] pos) (tMake C sp dvs E tNil) := by
  intro pins s σ H Q I h
  refine wpAny_Call_Name_kw (ld_glob I hg hm ?_ hdb)
  exact PySem.W.callWith_K0 I.kIn M.kp (run_make (us := []) M F hr hb hd hx I .nil h)
end

/-! ### keywords -/
section
variable {X : Cx} {CX : CXT} {k : Nat} {f C : Addr} {fd : FuncData} {ps ks : List Str} {sp : Sp} {E : XK} {x m : Str} {p pos apos kpos : Pos} {e o : Expr} {es : List Expr} {kws : List Keyword} {te ta : TE} {t tk : TA} {nm : Option Str}

variable {g : List Value → List Value → List Value} {gV : List V → List V → List V}
end

/-! ### a def's body keeps its promise -/
/-- names: the parameters first -/
structure FnScope (N P : List Str) (sc : Scope) : Prop where
  kind : sc.kind = .function
  co : sc.isCoroutine = false
  gen : sc.isGenerator = false
  nd : N.Nodup
  pre : N.take P.length = P
  par : ∀ x ∈ P, sc.names.lookup x = some .local ∨ sc.names.lookup x = some .cell
  nofree : ∀ y ∈ sc.names, y.2 ≠ .free

theorem bindL_out {kindOf : Str → Option NameKind} {x : Str} : ∀ {binds : List (Str × Value)} {m : Str → Option Value}, (∀ v, (x, v) ∉ binds) → bindL kindOf binds m x = m x
  | [], _, _ => rfl
  | (n, v) :: r, m, h => by
    unfold bindL
    rw [bindL_out fun w hw => h w (List.mem_cons_of_mem _ hw)]
    split
    · have : x ≠ n := by rintro rfl; exact h v List.mem_cons_self
      simp [this]
    · rfl
theorem bindC_out {kindOf : Str → Option NameKind} {x : Str} : ∀ {binds : List (Str × Value)} {m : Str → Option Value}, (∀ v, (x, v) ∉ binds) → bindC kindOf binds m x = m x
  | [], _, _ => rfl
  | (n, v) :: r, m, h => by
    unfold bindC
    rw [bindC_out fun w hw => h w (List.mem_cons_of_mem _ hw)]
    split
    · rfl
    · have : x ≠ n := by rintro rfl; exact h v List.mem_cons_self
      simp [this]
theorem bindL_get {kindOf : Str → Option NameKind} {x : Str} {v : Value} : ∀ {P : List Str} {vs : List Value} {i : Nat} {m : Str → Option Value}, P.Nodup → P[i]? = some x → vs[i]? = some v → kindOf x = some .local →
    bindL kindOf (P.zip vs) m x = some v
  | [], _, _, _, _, h, _, _ => by simp at h
  | _ :: _, [], _, _, _, _, h, _ => by simp at h
  | p :: P, w :: vs, 0, m, nd, h1, h2, hk => by
    simp at h1 h2; subst h1; subst h2
    show bindL kindOf ((p, w) :: P.zip vs) m p = _
    unfold bindL
    rw [bindL_out fun v hv => (List.nodup_cons.mp nd).1 (List.of_mem_zip hv).1, if_pos hk]
    simp
  | p :: P, w :: vs, i + 1, m, nd, h1, h2, hk => by
    show bindL kindOf ((p, w) :: P.zip vs) m x = _
    unfold bindL
    exact bindL_get (i := i) (List.nodup_cons.mp nd).2 (by simpa using h1) (by simpa using h2) hk
theorem bindC_get {kindOf : Str → Option NameKind} {x : Str} {v : Value} : ∀ {P : List Str} {vs : List Value} {i : Nat} {m : Str → Option Value}, P.Nodup → P[i]? = some x → vs[i]? = some v → kindOf x ≠ some .local →
    bindC kindOf (P.zip vs) m x = some v
  | [], _, _, _, _, h, _, _ => by simp at h
  | _ :: _, [], _, _, _, _, h, _ => by simp at h
  | p :: P, w :: vs, 0, m, nd, h1, h2, hk => by
    simp at h1 h2; subst h1; subst h2
    show bindC kindOf ((p, w) :: P.zip vs) m p = _
    unfold bindC
    rw [bindC_out fun v hv => (List.nodup_cons.mp nd).1 (List.of_mem_zip hv).1, if_neg hk]
    simp
  | p :: P, w :: vs, i + 1, m, nd, h1, h2, hk => by
    show bindC kindOf ((p, w) :: P.zip vs) m x = _
    unfold bindC
    exact bindC_get (i := i) (List.nodup_cons.mp nd).2 (by simpa using h1) (by simpa using h2) hk

/-- the names' values at the entry -/
def start (N : List Str) (vs : List V) : St := vs.map some ++ List.replicate (N.length - vs.length) none

/-- the context of a def's body, at its entry; an exception leaves the frame, then lies as CX says -/
def cxOf (CX : CXT) (P : Program) (w : World) (K : PySem.W.Frag) (mg : Str → Option Value) (base : Heap) (N : List Str) (qual : Str) (scope : Scope) (f : Addr) (cd : Value) (A : Around) (outer : List Env) (s : Shared) (H : Hp) (E : XK) : Cx where
  prog := P
  w := w
  K := K
  mg := mg
  base := base
  A := A.deeper (envOfC qual scope s.heap.objs.size f cd)
  N := N
  s_0 := s
  H_0 := H
  env := envOfC qual scope s.heap.objs.size f cd
  outer := outer
  stack := envOfC qual scope s.heap.objs.size f cd :: outer
  ex := []
  calm := true
  fn := fun _ => true
  pn := []
  xe := fun e s' => wpAny (model P w) (A.deeper (envOfC qual scope s.heap.objs.size f cd)) (leaving (envOfC qual scope s.heap.objs.size f cd) e) (fun _ s'' => CX outer H s E e s'') (fun e' s'' => CX outer H s E e' s'') s'

theorem cell_has {sc : Scope} {n : Nat} {x : Str} (h : sc.names.lookup x = some .cell) : ∃ c, (cellsFrom n sc.names []).lookup x = some c := by
  have q := PySem.W.cellsFrom_some sc.names n [] (.inl h)
  exact Option.isSome_iff_exists.mp q

theorem inv_start {CX : CXT} {P : Program} {w : World} {K : PySem.W.Frag} {mg : Str → Option Value} {base : Heap} {N ps : List Str} {qual : Str} {scope : Scope} {f : Addr} {cd : Value} {A : Around} {outer : List Env} {s s1 : Shared} {H : Hp} {E : XK} {us : List Value} {vs : List V}
    (S : FnScope N ps scope) (hd : A.handled = none) (e0 : Env0 P w K mg base A outer s H) (hl : vs.length = ps.length) (r : Vals vs us)
    (x : InCallC s s.heap.objs.size (bindL (envOfC qual scope s.heap.objs.size f cd).kindOf (ps.zip us) fun _ => none) (cellsFrom (s.heap.objs.size + 1) scope.names []) (bindC (envOfC qual scope s.heap.objs.size f cd).kindOf (ps.zip us) fun _ => none) s1) :
    Inv (cxOf CX P w K mg base N qual scope f cd A outer s H E) [] (start N vs) H s1 := by
  have hpl : ps.length ≤ N.length := by have := congrArg List.length S.pre; rw [List.length_take] at this; omega
  obtain ⟨h1, tk, rfl, hk⟩ := x.done
  have noA : ∀ b : Addr, b ∉ (cxOf CX P w K mg base N qual scope f cd A outer s H E).ex := fun b z => absurd (show b ∈ ([] : List Addr) from z) (by simp)
  refine ⟨⟨e0.mod, S.kind, rfl, rfl, Nat.le_refl _, fun y z c h1 h2 => ?_, fun y hy => ?_, fun y c _ h => ?_, fun _ => hd, Around.frames_deeper e0.frames, .inr ⟨rfl, rfl⟩, fun b z => absurd z (noA b), e0.bs, e0.bsz, fun b _ _ => noA b, fun b z => absurd z (noA b), e0.funs, e0.frf⟩,
    rfl, e0.bare, Un.kept hk, ⟨_, x.toInCall.ns, fun i y v h1 h2 h3 => ?_⟩, fun y c h => ⟨_, x.cell y c h⟩, e0.hok.fresh (Nat.le_refl _), fun y c h => ?_, fun p hp => absurd (show p ∈ ([] : List (Addr × Obj)) from hp) (by simp), e0.hok.kept hk, ?_⟩
  · exact name_of_addr x.apart (PySem.mem_of_lookup h1) (PySem.mem_of_lookup h2)
  · have hy : scope.names.lookup y = some .cell ∨ scope.names.lookup y = some .free := hy
    rcases hy with hy | hy
    · exact cell_has hy
    · exact absurd rfl (S.nofree _ (PySem.mem_of_lookup hy))
  · exact Nat.le_of_lt (x.above y c (PySem.mem_of_lookup h))
  · have hi : i < vs.length := by
      unfold start at h2
      by_cases hi : i < vs.length
      · exact hi
      · rw [List.getElem?_append_right (by simpa using hi)] at h2
        rw [List.getElem?_replicate] at h2
        split at h2 <;> cases h2
    have ha : vs[i]? = some v := by
      unfold start at h2
      rw [List.getElem?_append_left (by simpa using hi), List.getElem?_map] at h2
      cases e : vs[i]? with
      | none => rw [e] at h2; cases h2
      | some a => rw [e] at h2; cases h2; rfl
    obtain ⟨u, hu, rv⟩ := r.get ha
    have hp : ps[i]? = some y := by
      rw [← S.pre, List.getElem?_take_of_lt (by omega)]; exact h1
    have ndP : ps.Nodup := by rw [← S.pre]; exact S.nd.sublist (List.take_sublist _ _)
    refine ⟨u, rv, ?_⟩
    rcases S.par y (List.mem_of_getElem? hp) with k | k
    · exact .inl ⟨k, bindL_get ndP hp hu k⟩
    · obtain ⟨c, e⟩ := cell_has (n := s.heap.objs.size + 1) k
      refine .inr ⟨.inl k, c, e, ?_⟩
      have q := x.cell y c e
      rw [bindC_get ndP hp hu (by show scope.names.lookup y ≠ _; rw [k]; decide)] at q
      exact q
  · exact e0.hok.fresh (Nat.le_of_lt (x.above y c (PySem.mem_of_lookup h)))
  · unfold start
    show _ = N.length
    rw [List.length_append, List.length_map, List.length_replicate]
    omega

/-- THE RULE: a def (or a method) of the text, by its body. The body's reading t is chosen for each entry; it is run at the parameters' values -/
theorem fn_of {CX : CXT} {P : Program} {w : World} {K : PySem.W.Frag} {mg : Str → Option Value} {base : Heap} {k : Nat} {f : Addr} {name qual : Str} {params : Arguments} {body : List Stmt} {scope : Scope} {dV kV doc pm cdv ct oc : Value} {an od : Option Addr}
    {osl : Array (Option Value)} {N ps : List Str} {sp : Sp} (lk : K.lookup f = some ⟨oc, od, .func (PySem.W.fnOf name qual params body scope dV kV doc pm an cdv ct), osl⟩) (hcd : PySem.W.codeIn K cdv qual = true) (S : FnScope N ps scope)
    (len : ∀ vs H Q E, sp vs H Q E → vs.length = ps.length)
    (hbody : ∀ (A : Around) (outer : List Env) (s : Shared) (H : Hp) (vs : List V) (Q : VK) (E : XK), Room k (A.deeper (envOfC qual scope s.heap.objs.size f cdv)) → sp vs H Q E →
      ∃ t, PSs (cxOf CX P w K mg base N qual scope f cdv A outer s H E) body t ∧ t { nx := fun _ H' => Q .non H', rt := Q } (start N vs) H) :
    FnOk P w K mg base CX (k + 1) f (PySem.W.fnOf name qual params body scope dV kV doc pm an cdv ct) ps sp := by
  refine ⟨len, fun A outer s H args us vs Q E hr e0 hb r hsp => ?_⟩
  have hl := len _ _ _ _ hsp
  have KX : K.In s.heap := e0.mod.kin.keeps fun b o e => (e0.bs b o e).1
  have lim : s.heap.NoLimit := e0.mod.nolimit.keeps fun b o e => (e0.bs b o e).1
  have hkind : ∀ y ∈ ps.zip us, scope.names.lookup y.1 = some .local ∨ (scope.names.lookup y.1 = some .cell ∧ ((cellsFrom (s.heap.objs.size + 1) scope.names []).lookup y.1).isSome = true) := fun ⟨n, v⟩ hy => by
    rcases S.par n (List.of_mem_zip hy).1 with q | q
    · exact .inl q
    · exact .inr ⟨q, PySem.W.cellsFrom_some _ _ _ (.inl q)⟩
  refine codeAny_call_function hr.depth (KX _ _ lk) rfl S.co S.gen rfl (PySem.W.codeRec_of KX hcd) (hb _ _ _ _ ?_)
  refine wpAny_newFunctionEnv_cells S.kind hkind fun env he s1 x => ?_
  subst he
  refine ⟨lim.keeps x.toInCall.keep, codeAny_func ?_⟩
  obtain ⟨t, ht, hq⟩ := hbody A outer s H vs Q E (hr.deeper _) hsp
  have I : Inv (cxOf CX P w K mg base N qual scope f cdv A outer s H E) [] (start N vs) H s1 := inv_start S hr.hd e0 hl r x
  refine wpAny_mono (ht [] s1 (start N vs) H _ I hq) (fun fl s' hs => ?_) fun e s' hs => hs
  have fin : ∀ {σ' : St} {H' : Hp} {v : V} {u : Value}, Inv (cxOf CX P w K mg base N qual scope f cdv A outer s H E) [] σ' H' s' → RelV v u → Q v H' → CE outer P w H s Q u s' :=
    fun {σ' H' v u} J rv q => ⟨v, H', J.os, J.bare, J.base, J.hok, rv, q⟩
  cases fl with
  | ret u =>
    obtain ⟨v, σ', H', J, rv, q⟩ := hs
    exact fin J rv q
  | next =>
    obtain ⟨σ', H', J, q⟩ := hs
    exact fin (v := V.non) (u := Value.none) J rfl q
  | brk =>
    obtain ⟨_, _, _, q⟩ := hs
    exact False.elim q
  | cont =>
    obtain ⟨_, _, _, q⟩ := hs
    exact False.elim q
end L2

namespace L2
open PySem PySem.Spec PyProof.Rows
section
variable {X : Cx} {x : Str} {p pos : Pos} {e : Expr} {es : List Expr} {t : TA} {id T : String} {r : List V → Hp → VK → Prop}

def tCB (r : List V → Hp → VK → Prop) (t : TA) : TE := fun σ H Q => t σ H fun vs H1 => r vs H1 Q
/-- f(e, ..), f a built-in function -/
theorem pe_callB (hc : CallR X (.builtin id) r) (hg : Gl X x) (hm : X.mg x = none) (hv : bootBuiltins x = some (.builtin id)) (ha : PA X (e :: es) t) (hn : x ≠ "__name__" := by decide) (hdb : (x == ("__debug__" : Str)) = false := by decide)
    (he : starEach (e :: es) X.env = (false, eval e X.env) :: starEach es X.env := by rfl) (hpl : (backTo pos (starEach es X.env)).any (·.1) = false := by rfl) : PE X (.Call (.Name x p) (e :: es) [] pos) (tCB r t) := by
  intro pins s σ H Q I h
  refine wpAny_Call_Name_kw (ld_blt I hg hm hv ?_ hn hdb)
  exact PyProof.Rows.callWith_builtin1 (thn (ha pos pins s σ H _ I h) fun us s1 ⟨vs, H1, I1, r1, q1⟩ => hc pins s1 σ H1 vs us Q I1 r1 q1) he hpl
end
end L2

namespace HT
open PySem PyProof.Rows

section
open PySem.SeqAt
open PySem.AutoSeq1 (wpAny_loadPart')
open PySem.MeetsSeq PySem.MeetsSeq2 PySem.MeetsSeq3

end

section
variable {prog : Program} {w : World} {A : Around} {E : Value → Shared → Prop} {s : Shared}

/-! ### t[a:b], not the whole -/
/-- a slice's bound as a place among n (d where it is left out) -/
def sIx (n d : Nat) : Option Int → Nat
  | none => d
  | some v => if v < 0 then (v + (n : Int)).toNat else min v.toNat n
theorem sIx_nat (n d k : Nat) : sIx n d (some (k : Int)) = min k n := by
  show (if (k : Int) < 0 then ((k : Int) + (n : Int)).toNat else min (k : Int).toNat n) = min k n
  rw [if_neg (by omega), Int.toNat_natCast]

end
end HT

namespace L2
open PySem PySem.Spec PyProof.Rows

/-! ### the parts of a slice -/
abbrev TO := St → Hp → (Option Int → Hp → Prop) → Prop
/-- a slice's part (left out, or an int) -/
def PO (X : Cx) (e : Option Expr) (t : TO) : Prop :=
  ∀ (pins : List (Addr × Obj)) (s : Shared) (σ : St) (H : Hp) (Q : Option Int → Hp → Prop), Inv X pins σ H s → t σ H Q →
    wpAny (model X.prog X.w) X.A (evalPart e X.env) (fun u s' => ∃ o H', Inv X pins σ H' s' ∧ IsPart u o ∧ Q o H') X.xe s
def tPart (t : TE) : TO := fun σ H Q => t σ H fun x H1 => ∃ i, x = .int i ∧ Q (some i) H1

section
variable {X : Cx} {e : Expr} {te : TE} {lo hi : Option Expr} {tl th : TO} {pos p2 : Pos}

theorem po_some (h : PE X e te) : PO X (some e) (tPart te) := by
  intro pins s σ H Q I hw
  rw [evalPart_some]
  refine thn (h pins s σ H _ I hw) fun u s1 ⟨x, H1, I1, r1, q1⟩ => ?_
  obtain ⟨i, rfl, q⟩ := q1
  obtain ⟨t, rfl⟩ := r1
  exact ⟨some i, H1, I1, .int i t, q⟩

/-- what a slice of a value is, by values: the slice object stands at sl -/
def SlR (X : Cx) (r : V → Option Int → Option Int → Hp → VK → Prop) : Prop :=
  ∀ (pins : List (Addr × Obj)) (s : Shared) (σ : St) (H : Hp) (x : V) (v vl vu : Value) (lo hi : Option Int) (sl : Addr) (Q : VK), Inv X pins σ H s → RelV x v → s.heap.IsSliceOf sl vl vu .none → IsPart vl lo → IsPart vu hi → r x lo hi H Q →
    ∃ T id, typeLookup (.type T) "__getitem__" = pure (some (.builtin id)) ∧ s.TypeIs v T ∧ wpAny (model X.prog X.w) X.A (getItem v (.ref sl)) (EP X pins σ Q) X.xe s
def tSl (r : V → Option Int → Option Int → Hp → VK → Prop) (te : TE) (tl th : TO) : TE := fun σ H Q => te σ H fun x H1 => tl σ H1 fun l H2 => th σ H2 fun u H3 => r x l u H3 Q
/-- a[lo:hi], any a -/
theorem pe_slice {r : V → Option Int → Option Int → Hp → VK → Prop} (hr : SlR X r) (he : PE X e te) (hl : PO X lo tl) (hu : PO X hi th) : PE X (.Subscript e (.Slice lo hi none p2) pos) (tSl r te tl th) := by
  intro pins s σ H Q I h
  refine Subscript_ (thn (he pins s σ H _ I h) fun v s1 ⟨x, H1, I1, r1, q1⟩ => ?_)
  refine wpAny_Slice (thn (hl pins s1 σ H1 _ I1 q1) fun vl s2 ⟨l, H2, I2, pl, q2⟩ => thn (hu pins s2 σ H2 _ I2 q2) fun vu s3 ⟨u, H3, I3, pu, q3⟩ => ?_)
  rw [evalPart_none]
  refine wpAny_pure ?_
  have I4 : Inv X pins σ H3 { s3 with heap := s3.heap.push { cls := .type "slice", data := .fields #[vl, vu, .none] } } := I3.kept (t' := s3.toks) fun b ob q => Heap.get?_push_of_some _ q
  obtain ⟨T, id, hT, ht, hg⟩ := hr pins { s3 with heap := s3.heap.push { cls := .type "slice", data := .fields #[vl, vu, .none] } } σ H3 x v vl vu l u s3.heap.objs.size Q I4 r1 (Heap.IsSliceOf.new ..) pl pu q3
  show wpAny (model X.prog X.w) X.A (subscriptTail e (.Slice lo hi none p2) v (.ref s3.heap.objs.size)) (EP X pins σ Q) X.xe { s3 with heap := s3.heap.push { cls := .type "slice", data := .fields #[vl, vu, .none] } }
  exact tail_any (ops := [.ref s3.heap.objs.size, v]) ht hT hg (by with_unfolding_all rfl)

/-- the items of xs[lo:hi] -/
def cutV (xs : List V) (lo hi : Option Int) : List V := (xs.drop (HT.sIx xs.length 0 lo)).take (HT.sIx xs.length xs.length hi - HT.sIx xs.length 0 lo)
theorem cutV_length (xs : List V) (lo hi : Option Int) : (cutV xs lo hi).length ≤ xs.length := by
  unfold cutV
  rw [List.length_take, List.length_drop]
  omega

/-! ### t < u, t + u -/
end
end L2

namespace L2
open PySem PySem.Spec PyProof.Rows

/-! ### places -/
/-- the place that an index of any sign means -/
def ixN (n : Nat) (i : Int) : Option Nat := if 0 ≤ i then (if i < n then some i.toNat else none) else if -(n : Int) ≤ i then some (i + n).toNat else none
def atI {α : Type} (xs : List α) (i : Int) : Option α := (ixN xs.length i).bind fun j => xs[j]?
theorem ixN_seq {n : Nat} {i : Int} {j : Nat} (h : ixN n i = some j) : seqIndex? i n = some j ∧ j < n ∧ -(n : Int) ≤ i ∧ i < n := by
  unfold ixN at h
  by_cases h0 : 0 ≤ i
  · rw [if_pos h0] at h
    by_cases h1 : i < n
    · rw [if_pos h1] at h
      have e : i.toNat = j := Option.some.inj h
      exact ⟨by rw [seqIndex_of h0 h1, e], by omega, by omega, h1⟩
    · rw [if_neg h1] at h; cases h
  · rw [if_neg h0] at h
    by_cases h1 : -(n : Int) ≤ i
    · rw [if_pos h1] at h
      have e : (i + n).toNat = j := Option.some.inj h
      exact ⟨by rw [seqIndex_neg (by omega) h1, e], by omega, h1, by omega⟩
    · rw [if_neg h1] at h; cases h
theorem atI_get {α : Type} {xs : List α} {i : Int} {v : α} (h : atI xs i = some v) : ∃ j, seqIndex? i xs.length = some j ∧ xs[j]? = some v ∧ j < xs.length ∧ -(xs.length : Int) ≤ i ∧ i < xs.length := by
  unfold atI at h
  cases e : ixN xs.length i with
  | none => rw [e] at h; cases h
  | some j =>
    rw [e] at h
    obtain ⟨h1, h2, h3, h4⟩ := ixN_seq e
    exact ⟨j, h1, h, h2, h3, h4⟩
theorem atI_nat {α : Type} {xs : List α} {j : Nat} {v : α} (h : xs[j]? = some v) : atI xs (j : Int) = some v := by
  have hj : j < xs.length := (List.getElem?_eq_some_iff.mp h).1
  have e : ixN xs.length (j : Int) = some j := by
    unfold ixN
    rw [if_pos (by omega), if_pos (by omega)]; simp
  unfold atI; rw [e]; exact h

/-! ### what may be subscripted -/
/-- what stands as an index of a plain subscript -/
def PlainIx (b : Expr) : Prop := ∀ o i, subscripted b false o i = operate [o, i] (getItem o i)
/-- a subscript by values -/
def IxR (X : Cx) (r : R2) : Prop :=
  ∀ (value slice : Expr) (pins : List (Addr × Obj)) (s : Shared) (σ : St) (H : Hp) (x y : V) (v u : Value) (Q : VK), Inv X pins σ H s → RelV x v → RelV y u → r x y H Q →
    subscripted slice false v u = operate [v, u] (getItem v u) → wpAny (model X.prog X.w) X.A (subscriptTail value slice v u) (EP X pins σ Q) X.xe s
/-- a call of a builtin's method by values: the receiver, the arguments -/
def MtR (X : Cx) (id : String) (r : V → List V → Hp → VK → Prop) : Prop :=
  ∀ (pins : List (Addr × Obj)) (s : Shared) (σ : St) (H : Hp) (x : V) (xs : List V) (v : Value) (us : List Value) (Q : VK), Inv X pins σ H s → RelV x v → Vals xs us → r x xs H Q →
    wpAny (model X.prog X.w) X.A (call (.builtin id) (v :: us)) (EP X pins σ Q) X.xe s
section
variable {X : Cx} {a b : Expr} {ta tb : TE} {pos : Pos}
/-- a[b] -/
theorem pe_ix {r : R2} (hr : IxR X r) (ha : PE X a ta) (hb : PE X b tb) (hs : PlainIx b) : PE X (.Subscript a b pos) (tOp r ta tb) := by
  intro pins s σ H Q I h
  exact Subscript_ (binT ha hb I h fun v u s2 x y H2 I2 rx ry q => hr a b pins s2 σ H2 x y v u Q I2 rx ry q (hs _ _))

def rIxL (K : PySem.W.Frag) : R2 := fun x y H Q => ∃ p xs i v, x = .ref p ∧ y = .int i ∧ SqL K H p xs ∧ atI xs i = some v ∧ Q v H
def rIxT (K : PySem.W.Frag) : R2 := fun x y H Q => ∃ p xs i v, x = .ref p ∧ y = .int i ∧ SqT K H p xs ∧ atI xs i = some v ∧ Q v H
theorem ix_list : IxR X (rIxL X.K) := by
  intro value slice pins s σ H x y v u Q I rx ry h hs
  obtain ⟨p, xs, i, z, rfl, rfl, hq, he, q⟩ := h
  cases rx
  obtain ⟨t, rfl⟩ := ry
  obtain ⟨its, r, pl, hz⟩ := I.list hq
  obtain ⟨j, h1, h2, h3, h4, h5⟩ := atI_get he
  obtain ⟨w, ew, rw'⟩ := r.get h2
  have hl := r.length
  have hn := line63
  have fin : EP X pins σ Q w s := ⟨z, H, I, rw', q⟩
  by_cases h0 : 0 ≤ i
  · have hj : i.toNat = j := by
      rw [seqIndex_of h0 h5] at h1
      exact Option.some.inj h1
    exact item_listR pl.isList h0 (by omega) (by rw [hj]; simpa using ew) fin hs
  · have hj : (i + (its.toArray.size : Int)).toNat = j := by
      rw [seqIndex_neg (by omega) h4] at h1
      rw [List.size_toArray, ← hl]
      exact Option.some.inj h1
    exact subscriptTail_builtinR (x := w) pl.isList.typeIs slot_list_getitem.lookup
      (wpAny_getItem_list_neg (Q := fun r s' => r = w ∧ EP X pins σ Q r s') pl.isList (by omega) (by rw [List.size_toArray] <;> omega) (by omega) (by rw [hj]; simpa using ew) ⟨rfl, fin⟩) hs
theorem ix_tup : IxR X (rIxT X.K) := by
  intro value slice pins s σ H x y v u Q I rx ry h hs
  obtain ⟨p, xs, i, z, rfl, rfl, hq, he, q⟩ := h
  cases rx
  obtain ⟨t, rfl⟩ := ry
  obtain ⟨its, r, pl, hz⟩ := I.tuple hq
  obtain ⟨j, h1, h2, h3, h4, h5⟩ := atI_get he
  obtain ⟨w, ew, rw'⟩ := r.get h2
  have hl := r.length
  have hn := line63
  have fin : EP X pins σ Q w s := ⟨z, H, I, rw', q⟩
  exact subscriptTail_builtinR (x := w) pl.typeIs slot_tuple_getitem.lookup
    (getItem_tuple (j := j) (Q := fun r s' => r = w ∧ EP X pins σ Q r s') pl (by omega) (by omega) (by rw [List.size_toArray, ← hl]; exact h1) (by simpa using ew) ⟨rfl, fin⟩) hs

/-! ### xs[i] = v, any sign -/
/-- the list's object behind a store -/
theorem mapSeq_set (its : List Value) (n j : Nat) (u : Value) : Obj.mapSeq (·.setIfInBounds j u) { cls := .type "list", data := .seq its.toArray n } = { cls := .type "list", data := .seq (its.set j u).toArray n } := by
  simp [Obj.mapSeq]
theorem Inv.lst {pins : List (Addr × Obj)} {σ : St} {H : Hp} {s : Shared} {p : Addr} {xs : List V} (I : Inv X pins σ H s) (h : H p = some (.lst xs)) :
    ∃ (its : List Value) (n : Nat), Vals xs its ∧ s.heap.get? p = some { cls := .type "list", data := .seq its.toArray n } ∧ xs.length ≤ sizeLine := by
  obtain ⟨z, its, n, r, e⟩ := I.hok p _ h
  exact ⟨its, n, r, e, z⟩
/-- the list at p is written by an update of its object -/
theorem Inv.lstUpd {pins : List (Addr × Obj)} {σ : St} {H : Hp} {s : Shared} {p : Addr} {xs ys : List V} {its its' : List Value} {n n' : Nat} {f : Obj → Obj} (I : Inv X pins σ H s) (h : H p = some (.lst xs))
    (ho : s.heap.get? p = some { cls := .type "list", data := .seq its.toArray n }) (hf : f { cls := .type "list", data := .seq its.toArray n } = { cls := .type "list", data := .seq its'.toArray n' }) (r : Vals ys its') (hz : ys.length ≤ sizeLine) (t : Nat) :
    Inv X pins σ (upd H p (.lst ys)) { s with heap := s.heap.update p f, toks := t } := by
  have e : (s.heap.update p f).get? p = some { cls := .type "list", data := .seq its'.toArray n' } := by
    rw [Heap.get?_update_self f ho (by rw [hf] <;> rfl), hf]
  refine I.write (x := p) (e := p) (by rw [h]; trivial) (.inl rfl) (fun b u hb q => (Heap.get?_update_other _ _ (Ne.symm hb)).trans q) ⟨_, e⟩ ?_
  exact ⟨hz, its', n', r, e⟩
def rSetL : V → V → V → Hp → (Hp → Prop) → Prop := fun o i v H Q => ∃ p xs k j, o = .ref p ∧ i = .int k ∧ H p = some (.lst xs) ∧ ixN xs.length k = some j ∧ Q (upd H p (.lst (xs.set j v)))
theorem set_list : PSet X rSetL := by
  intro pins s σ H o i v ov iv u Q I ro ri rv h
  obtain ⟨p, xs, k, j, rfl, rfl, hp, hj, q⟩ := h
  cases ro
  obtain ⟨t, rfl⟩ := ri
  obtain ⟨its, n, r, ho, hz⟩ := I.lst hp
  obtain ⟨h1, h2, h3, h4⟩ := ixN_seq hj
  have hl := r.length
  have hn := line63
  have I' : Inv X pins σ (upd H p (.lst (xs.set j v))) { s with heap := s.heap.update p (Obj.mapSeq (·.setIfInBounds j u)) } :=
    I.lstUpd hp ho (mapSeq_set its n j u) (r.set rv j) (by rw [List.length_set]; exact hz) s.toks
  by_cases h0 : 0 ≤ k
  · have hk : k.toNat = j := by
      rw [seqIndex_of h0 h4] at h1
      exact Option.some.inj h1
    exact PySem.W.ki_setAt ho h0 (by omega) (by rw [List.size_toArray, ← hl]; exact h4) (by rw [hk]; exact ⟨_, I', q⟩)
  · have hk : (k + (its.toArray.size : Int)).toNat = j := by
      rw [seqIndex_neg (by omega) h3] at h1
      rw [List.size_toArray, ← hl]
      exact Option.some.inj h1
    exact PySem.W.ki_setBack ho (by omega) (by rw [List.size_toArray, ← hl]; exact h3) (by omega) (by rw [hk]; exact ⟨_, I', q⟩)

/-! ### slices -/
theorem slice_bounds (lo hi : Option Int) (n : Nat) : (sliceBounds lo hi none n).1 = ((HT.sIx n 0 lo : Nat) : Int) ∧ (sliceBounds lo hi none n).2.1 = ((HT.sIx n n hi : Nat) : Int) ∧ (sliceBounds lo hi none n).2.2 = 1 := by
  refine ⟨?_, ?_, rfl⟩
  · cases lo with
    | none => simp [sliceBounds, HT.sIx]
    | some i =>
      simp only [sliceBounds, HT.sIx, Option.getD_none, show (1 : Int) > 0 by decide, if_true]
      by_cases h : i < 0
      · simp only [h, if_true] <;> omega
      · simp only [h, if_false] <;> omega
  · cases hi with
    | none => simp [sliceBounds, HT.sIx]
    | some i =>
      simp only [sliceBounds, HT.sIx, Option.getD_none, show (1 : Int) > 0 by decide, if_true]
      by_cases h : i < 0
      · simp only [h, if_true] <;> omega
      · simp only [h, if_false] <;> omega
theorem slicePick_cut (its : List Value) (lo hi : Option Int) : slicePick its.toArray lo hi none = ((its.drop (HT.sIx its.length 0 lo)).take (HT.sIx its.length its.length hi - HT.sIx its.length 0 lo)).toArray := by
  obtain ⟨h1, h2, h3⟩ := slice_bounds lo hi its.toArray.size
  unfold slicePick
  rw [h1, h2, h3]
  simp only [sliceRange_one, pick_run, List.size_toArray] <;> rfl
/-- xs[lo:hi] of a list: a new list -/
def rSlL (K : PySem.W.Frag) : V → Option Int → Option Int → Hp → VK → Prop := fun x lo hi H Q => ∃ a xs, x = .ref a ∧ SqL K H a xs ∧ ∀ p, H p = none → Q (.ref p) (upd H p (.lst (cutV xs lo hi)))
theorem sl_list : SlR X (rSlL X.K) := by
  intro pins s σ H x v vl vu lo hi sl Q I rx hs pl pu h
  obtain ⟨a, xs, rfl, hx, q⟩ := h
  cases rx
  obtain ⟨its, r, ht, hz⟩ := I.list hx
  have hlen := r.length
  refine ⟨"list", _, slot_list_getitem.lookup, ht.isList.typeIs, ?_⟩
  refine wpAny_getItem_list_slice ht.isList hs pl pu .none (by simp) ?_ (by rw [List.size_toArray] <;> omega)
  rw [slicePick_cut, ← hlen]
  refine ⟨.ref s.heap.objs.size, _, I.laid (t' := s.toks) (o := .lst (cutV xs lo hi)) (fun b ob q => Heap.get?_push_of_some _ q) (Nat.le_refl _) ?_, rfl, q _ (I.hok.fresh (Nat.le_refl _))⟩
  exact ⟨Nat.le_trans (cutV_length xs lo hi) hz, _, 0, (r.drop (HT.sIx xs.length 0 lo)).take (HT.sIx xs.length xs.length hi - HT.sIx xs.length 0 lo), Heap.get?_push_size _ rfl⟩

/-! ### in, not in: flat items -/

/-! ### len, list(x), tuple(x) of any list or tuple that is read -/
theorem call_len_seq : CallR X (.builtin "len") (fun xs H Q => ∃ p ys, xs = [.ref p] ∧ (SqL X.K H p ys ∨ SqT X.K H p ys) ∧ Q (.int ys.length) H) := by
  intro pins s σ H xs us Q I r h
  obtain ⟨p, ys, rfl, hq, q⟩ := h
  obtain ⟨u, rfl, rx⟩ := vals1 r
  cases rx
  have hn := line63
  rcases hq with hq | hq
  · obtain ⟨its, r', pl, hz⟩ := I.list hq
    have hlen := r'.length
    exact Calls.call_len_list pl.isList (by simp only [List.size_toArray] <;> omega) ⟨.int ys.length, H, I.tok _, ⟨s.toks + 1, by rw [List.size_toArray, hlen]⟩, q⟩
  · obtain ⟨its, r', pl, hz⟩ := I.tuple hq
    have hlen := r'.length
    exact len_tuple pl (by simp only [List.size_toArray] <;> omega) ⟨.int ys.length, H, I.tok _, ⟨s.toks + 1, by rw [List.size_toArray, hlen]⟩, q⟩

/-! ### the call of a builtin's method: o.m(..) -/
/-- the value is of that builtin type -/
def tyV (K : PySem.W.Frag) (T : String) (x : V) (H : Hp) : Prop := match x with
  | .str _ => T = "str"
  | .int _ => T = "int"
  | .ref p => (T = "list" ∧ ∃ xs, SqL K H p xs) ∨ (T = "tuple" ∧ ∃ o, K.lookup p = some o ∧ o.cls = .type "tuple" ∧ o.dict = none) ∨
      (T = "dict" ∧ ((∃ kvs, H p = some (.dK kvs)) ∨ ∃ kvs, H p = some (.dT kvs))) ∨ (T = "set" ∧ ∃ S n, H p = some (.set S n))
  | _ => False
theorem tyV_is {pins : List (Addr × Obj)} {σ : St} {H : Hp} {s : Shared} {T : String} {x : V} {v : Value} (I : Inv X pins σ H s) (r : RelV x v) (ty : tyV X.K T x H) :
    s.TypeIs v T ∧ ∀ a, v = .ref a → ∃ ob, s.heap.get? a = some ob ∧ ob.dict = none := by
  cases x with
  | str z =>
    obtain ⟨t, rfl⟩ := r
    cases (show T = "str" from ty)
    exact ⟨typeIs_str s z t, fun _ e => nomatch e⟩
  | int i =>
    obtain ⟨t, rfl⟩ := r
    cases (show T = "int" from ty)
    exact ⟨typeIs_int s i t, fun _ e => nomatch e⟩
  | ref p =>
    cases r
    rcases ty with ⟨rfl, xs, hq⟩ | ⟨rfl, o, hk, hc, hd⟩ | ⟨rfl, hk⟩ | ⟨rfl, S, n, hk⟩
    · obtain ⟨its, _, pl, _⟩ := I.list hq
      refine ⟨pl.isList.typeIs, fun a e => ?_⟩
      cases e
      obtain ⟨o, n, e, c, hd, _⟩ := pl
      exact ⟨o, e, hd⟩
    · refine ⟨⟨o, I.kIn p o hk, hc⟩, fun a e => ?_⟩
      cases e
      exact ⟨o, I.kIn _ o hk, hd⟩
    · have z : ∃ o, s.heap.get? p = some o ∧ o.ExactDict := by
        rcases hk with ⟨kvs, hk⟩ | ⟨kvs, hk⟩
        · obtain ⟨_, _, _, _, o, _, _, e, ex, _⟩ := I.hok p _ hk
          exact ⟨o, e, ex⟩
        · obtain ⟨_, _, _, _, o, _, _, e, ex, _⟩ := I.hok p _ hk
          exact ⟨o, e, ex⟩
      obtain ⟨o, e, ex⟩ := z
      refine ⟨⟨o, e, ex.1⟩, fun a e2 => ?_⟩
      cases e2
      exact ⟨o, e, ex.2.1⟩
    · obtain ⟨o, _, _, _, e, ex, _⟩ := I.hok p _ hk
      refine ⟨⟨o, e, ex.1⟩, fun a e2 => ?_⟩
      cases e2
      exact ⟨o, e, ex.2.1⟩
  | _ => exact False.elim ty
def tBM (K : PySem.W.Frag) (T : String) (r : V → List V → Hp → VK → Prop) (to : TE) (t : TA) : TE := fun σ H Q => to σ H fun x H1 => tyV K T x H1 ∧ t σ H1 fun xs H2 => r x xs H2 Q
variable {o e : Expr} {es : List Expr} {to : TE} {t : TA} {name : Str} {apos cpos : Pos} {T id : String} {r : V → List V → Hp → VK → Prop}
theorem pe_bm (pa : PlainAttrs T) (slot : Slot T name id) (hty : typeOf (.builtin id) = pure (.type "method_descriptor")) (hm : MtR X id r) (ho : PE X o to) (ha : PA X (e :: es) t)
    (hbase : attributeBase o name X.env (eval o X.env) = eval o X.env := by rfl)
    (hfew : ((backTo cpos (starEach (e :: es) X.env)).all (fun x => !x.1) && (backToKw cpos (keywordEach [] X.env)).all (fun x => x.1.isSome)
      && decide ((e :: es).length + ([] : List Keyword).length + (if ([] : List Keyword).isEmpty then 0 else 1) < 30)) = true := by rfl)
    (hline : (apos.endLine == cpos.line) = true := by rfl) (hs : starEach (e :: es) X.env = (false, eval e X.env) :: starEach es X.env := by rfl) (hplain : (backTo cpos (starEach es X.env)).any (·.1) = false := by rfl) :
    PE X (.Call (.Attribute o name apos) (e :: es) [] cpos) (tBM X.K T r to t) := by
  intro pins s σ H Q I h
  refine wpAny_Call_method_late hbase hfew hline rfl (thn (ho pins s σ H _ I h) fun v s1 ⟨x, H1, I1, r1, ty, q1⟩ => ?_)
  obtain ⟨h1, h2⟩ := tyV_is I1 r1 ty
  refine ⟨T, id, pa, slot, hty, h1, h2, ?_⟩
  have hA := ha cpos pins s1 σ H1 _ I1 q1
  rw [hs] at hA ⊢
  refine Calls.callWith_builtin (by show (false || (backTo cpos (starEach es X.env)).any (·.1)) = false; rw [hplain] <;> rfl) (Calls.evalArgs_plain ?_)
  exact thn hA fun us s2 ⟨vs, H2, I2, r2, q2⟩ => hm pins s2 σ H2 x vs v us Q I2 r1 r2 q2
/- xs.append(e), list.index on a module's tuple .. are MtR facts of 06m -/
end
end L2

namespace L2
open PySem PySem.Spec PyProof.Rows

def MtM (X : Cx) (id : String) (r : V → List V → Hp → VK → Prop) : Prop :=
  ∀ (pins : List (Addr × Obj)) (s : Shared) (σ : St) (H : Hp) (x : V) (xs : List V) (v : Value) (us : List Value) (Q : VK), Inv X pins σ H s → RelV x v → Vals xs us → r x xs H Q →
    wpAny (model X.prog X.w) X.A (call (.builtin id) (v :: us)) (EP X pins σ Q) X.xe s

/-! ### lists of values -/
theorem Vals.one : ∀ {x : V} {us : List Value}, Vals [x] us → ∃ u, us = [u] ∧ RelV x u
  | _, _, .cons r .nil => ⟨_, rfl, r⟩
theorem Vals.rep {xs : List V} {us : List Value} (h : Vals xs us) : ∀ k : Nat, Vals (List.replicate k xs).flatten (List.replicate k us).flatten
  | 0 => .nil
  | k + 1 => by
    rw [List.replicate_succ, List.replicate_succ, List.flatten_cons, List.flatten_cons]
    exact Vals.append h (Vals.rep h k)
theorem foldl_rep (its : List Value) : ∀ (k : Nat) (acc : List Value),
    List.foldl (fun x1 x2 => x1 ++ x2) acc.toArray (List.replicate k its.toArray) = (acc ++ (List.replicate k its).flatten).toArray
  | 0, acc => by simp
  | k + 1, acc => by
    have e : acc.toArray ++ its.toArray = (acc ++ its).toArray := by simp
    have e2 : (acc ++ its) ++ (List.replicate k its).flatten = acc ++ (List.replicate (k + 1) its).flatten := by
      rw [List.replicate_succ, List.flatten_cons, List.append_assoc]
    rw [← e2, ← foldl_rep its k (acc ++ its), ← e, List.replicate_succ, List.foldl_cons]

section
variable {X : Cx} {pins : List (Addr × Obj)} {σ : St} {H : Hp} {s : Shared} {l b : Addr} {xs ys zs : List V}

/-! ### the two steps: a tracked list is rewritten, a new list is laid -/
theorem Inv.lset {its its' : List Value} {n : Nat} {f : Array Value → Array Value} {t' : Nat} (I : Inv X pins σ H s) (hH : H l = some (.lst xs))
    (e : s.heap.get? l = some { cls := .type "list", data := .seq its.toArray n }) (hf : f its.toArray = its'.toArray) (hv : Vals ys its') (hz : ys.length ≤ sizeLine) :
    Inv X pins σ (upd H l (.lst ys)) { s with heap := s.heap.update l (Obj.mapSeq f), toks := t' } := by
  have q := PySem.IsL.update e f
  rw [hf] at q
  refine I.write (x := l) (e := l) (by rw [hH]; exact trivial) (.inl rfl) (fun b' u hb hu => (Heap.get?_update_other s.heap (Obj.mapSeq f) (Ne.symm hb)).trans hu) ⟨_, q⟩ ?_
  exact ⟨hz, its', _, hv, q⟩
theorem Inv.lnew {its : List Value} {t' : Nat} (I : Inv X pins σ H s) (hv : Vals ys its) (hz : ys.length ≤ sizeLine) :
    Inv X pins σ (upd H s.heap.objs.size (.lst ys)) { s with heap := s.heap.push { cls := .type "list", data := .seq its.toArray }, toks := t' } :=
  I.laid (fun _ _ q => Heap.get?_push_of_some _ q) (Nat.le_refl _) ⟨hz, its, 0, hv, Heap.get?_push_size _ rfl⟩
theorem Inv.fresh (I : Inv X pins σ H s) : H s.heap.objs.size = none := I.hok.fresh (Nat.le_refl _)
theorem Inv.lstM (I : Inv X pins σ H s) (hH : H l = some (.lst xs)) : xs.length ≤ sizeLine ∧ ∃ (its : List Value) (n : Nat), Vals xs its ∧ xs.length = its.length ∧ s.heap.get? l = some { cls := .type "list", data := .seq its.toArray n } := by
  obtain ⟨z, its, n, r, e⟩ := I.hok l _ hH
  exact ⟨z, its, n, r, r.length, e⟩

theorem notLongL {n : Nat} (h : n ≤ sizeLine) : Builtin.List.listTooLong n = false := by
  unfold Builtin.List.listTooLong
  exact decide_eq_false (by omega)
end

section
variable {X : Cx}

/-! ### methods -/
def rAppend : V → List V → Hp → VK → Prop := fun x vs H Q => ∃ l xs y, x = .ref l ∧ vs = [y] ∧ H l = some (.lst xs) ∧ xs.length < sizeLine ∧ Q .non (upd H l (.lst (xs ++ [y])))
theorem mt_append : MtM X "list.append" rAppend := by
  intro pins s σ H x vs v us Q I rx rv h
  obtain ⟨l, xs, y, rfl, rfl, hH, hz, q⟩ := h
  cases rx
  obtain ⟨u, rfl, ru⟩ := rv.one
  obtain ⟨z, its, n, r, hl, e⟩ := I.lstM hH
  refine call_meets F.slot_list_append ⟨_, e, rfl⟩ F.entry_list_append (F.args_list_append_2 _ _) (PySem.list_append l its.toArray n u (by rw [List.size_toArray]; omega)) ⟨e, ?_⟩
  refine ⟨.non, _, I.lset (its' := its ++ [u]) hH e (by simp) (r.append (.cons ru .nil)) ?_, rfl, q⟩
  rw [List.length_append, List.length_singleton]
  omega

def rExtend : V → List V → Hp → VK → Prop := fun x vs H Q => ∃ l b xs zs, x = .ref l ∧ vs = [.ref b] ∧ H l = some (.lst xs) ∧ H b = some (.lst zs) ∧ xs.length + zs.length ≤ sizeLine ∧ Q .non (upd H l (.lst (xs ++ zs)))
theorem mt_extend : MtM X "list.extend" rExtend := by
  intro pins s σ H x vs v us Q I rx rv h
  obtain ⟨l, b, xs, zs, rfl, rfl, hH, hB, hz, q⟩ := h
  cases rx
  obtain ⟨u, rfl, ru⟩ := rv.one
  cases ru
  obtain ⟨z, its, n, r, hl, e⟩ := I.lstM hH
  obtain ⟨z2, its2, n2, r2, hl2, e2⟩ := I.lstM hB
  have hsz : its.toArray.size + its2.toArray.size ≤ sizeLine := by rw [List.size_toArray, List.size_toArray]; omega
  have hlong : ¬ (!its.toArray.isEmpty && Builtin.List.listTooLong (its.toArray.size + its2.toArray.size)) = true := by
    rw [notLongL hsz, Bool.and_false]
    exact Bool.false_ne_true
  refine call_meets F.slot_list_extend ⟨_, e, rfl⟩ F.entry_list_extend (F.args_list_extend_2 _ _)
    (AutoSeq1.list_extend_list_list_0 l its.toArray n b its2.toArray n2 hlong (by rw [List.size_toArray]; omega) (by omega)) ⟨e, e2, ?_⟩
  refine ⟨.non, _, I.lset (its' := its ++ its2) hH e (by simp) (r.append r2) ?_, rfl, q⟩
  rw [List.length_append]
  omega

/-! ### list + list, list += list, list * int -/
def rCat : R2 := fun x y H Q => ∃ l b xs zs, x = .ref l ∧ y = .ref b ∧ H l = some (.lst xs) ∧ H b = some (.lst zs) ∧ xs.length + zs.length ≤ sizeLine ∧ ∀ p, H p = none → Q (.ref p) (upd H p (.lst (xs ++ zs)))
theorem op_cat : OpR X (binaryOp .Add) rCat := by
  intro pins s σ H x y v u Q I rx ry h
  obtain ⟨l, b, xs, zs, rfl, rfl, hH, hB, hz, q⟩ := h
  cases rx
  cases ry
  obtain ⟨z, its, n, r, hl, e⟩ := I.lstM hH
  obtain ⟨z2, its2, n2, r2, hl2, e2⟩ := I.lstM hB
  refine PySem.P.add_list e e2 ?_ (by rw [List.size_toArray, List.size_toArray]; omega)
  have ea : its.toArray ++ its2.toArray = (its ++ its2).toArray := by simp
  rw [ea]
  exact ⟨.ref _, _, I.lnew (t' := s.toks) (r.append r2) (by rw [List.length_append]; omega), rfl, q _ I.fresh⟩
/-- a list times an int (a negative one is nothing) -/
def rRep : R2 := fun x y H Q => ∃ l k xs, x = .ref l ∧ y = .int k ∧ H l = some (.lst xs) ∧ -(2 ^ 63) ≤ k ∧ k < 2 ^ 63 ∧ xs.length * k.toNat ≤ sizeLine ∧
  ∀ p, H p = none → Q (.ref p) (upd H p (.lst (List.replicate k.toNat xs).flatten))
theorem len_rep {α : Type} (xs : List α) (k : Nat) : (List.replicate k xs).flatten.length = k * xs.length := by
  induction k with
  | zero => simp
  | succ k ih => rw [List.replicate_succ, List.flatten_cons, List.length_append, ih, Nat.succ_mul, Nat.add_comm]
theorem op_rep : OpR X (binaryOp .Mult) rRep := by
  intro pins s σ H x y v u Q I rx ry h
  obtain ⟨l, k, xs, rfl, rfl, hH, h1, h2, hz, q⟩ := h
  cases rx
  obtain ⟨t, rfl⟩ := ry
  obtain ⟨z, its, n, r, hl, e⟩ := I.lstM hH
  have hlen : its.toArray.size * k.toNat ≤ sizeLine := by rw [List.size_toArray, ← hl]; exact hz
  have hcap : ¬ its.toArray.size * k.toNat > (2 ^ 63 - 1) / 8 := by
    have : (sizeLine : Nat) ≤ (2 ^ 63 - 1) / 8 := by decide
    omega
  have hfit : ¬ (!Builtin.List.listFitsIndex k) = true := by
    rw [fitsIndex_both h1 h2]
    exact Bool.false_ne_true
  have hlong : ¬ Builtin.List.listTooLong (its.toArray.size * k.toNat) = true := by
    rw [notLongL hlen]
    exact Bool.false_ne_true
  have hnew : List.foldl (fun x1 x2 => x1 ++ x2) #[] (List.replicate (if its.toArray.isEmpty = true then 0 else k.toNat) its.toArray) = (List.replicate k.toNat its).flatten.toArray := by
    have f0 : ∀ m : Nat, List.foldl (fun x1 x2 => x1 ++ x2) #[] (List.replicate m its.toArray) = (List.replicate m its).flatten.toArray := fun m => by
      have := foldl_rep its m []
      rw [List.nil_append] at this
      exact this
    rw [f0]
    cases its with
    | nil => simp
    | cons a r' => rw [if_neg (by simp)]
  refine wpAny_binaryOp_repeat_ref (T := "list") (U := "int") (by decide) ⟨_, e, rfl⟩ (fun s' => typeIs_int s' k t) noFill_list_mul F.fills_int_mul F.slot_int_rmul repeat_list F.slot_int_index.lookup
    (call_meets F.slot_int_rmul (typeIs_int s k t) F.entry_int_rmul (F.args_int_rmul_2 _ _) (int___rmul___int_list k t l its.toArray n)
      ⟨e, rfl, ⟨_, e, rfl⟩, call_meets F.slot_list_mul ⟨_, e, rfl⟩ F.entry_list_mul (F.args_list_mul_2 _ _) (AutoListH.list___mul___list_int_3 l its.toArray n k t hfit hcap hlong) ⟨e, ?_⟩⟩)
  rw [hnew]
  exact ⟨.ref _, _, I.lnew (t' := s.toks) (r.rep k.toNat) (by rw [len_rep, Nat.mul_comm]; exact hz), rfl, q _ I.fresh⟩

/-! ### del xs[i] -/
end

/-! ### xs[a:b] = ys -/
section
variable {prog : Program} {w : World} {A : Around} {E : Value → Shared → Prop} {s : Shared}
set_option maxRecDepth 100000 in
end

section
variable {X : Cx}
end
end L2

namespace L2
open PySem PySem.Spec PyProof.Rows

/-! ### the library's walks over a list of ints, kept objects alone -/
section
variable {prog : Program} {w : World} {A : Around} {E : Value → Shared → Prop} {s : Shared} {l : Addr} {its : List Value} {ns : List Int} {Q : Value → Shared → Prop}
end

/-! ### the calls, by values (CallR of 03t; MtR of 06l) -/
section
variable {X : Cx}

/-! sorted, sort (fewer than 64 items: the library's own bound) -/
end

/-! ### list.index, flat items -/
section
variable {X : Cx}
end

/-! ### type(x) of an own instance; is, is not of a module's class -/
section
variable {X : Cx}
end

/-! ### any(xs), all(xs) of a list of bools -/
section
variable {X : Cx}
end

/-! ### == and != of data at any depth: none, bools, ints, texts, lists, tuples -/
section
variable {X : Cx} {pins : List (Addr × Obj)} {σ : St} {H : Hp} {s : Shared}
end
section
variable {X : Cx}
end
end L2

namespace L2
open PySem PySem.Spec PyProof.Rows

section
variable {X : Cx} {pins : List (Addr × Obj)} {σ : St} {H : Hp} {s : Shared}

end

section
variable {X : Cx}
end

/-! ### the forms one uses -/
end L2

namespace L2
open PySem PySem.Spec PyProof.Rows

section
variable {prog : Program} {w : World} {A : Around} {R : Result → Shared → Prop} {s : Shared} {elt t0 i0 t1 i1 : Expr} {ifs0 ifs1 : List Expr} {scope : Scope} {pos : Pos} {it acc : Value} {env : Env}
end

section
variable {X : Cx}
end
end L2

namespace L2
open PySem PySem.Spec PyProof.Rows

/-! ### lists of pairs as tables -/
section
variable {κ : Type} [DecidableEq κ]

end

/-! ### a tracked dict, its keys ints and texts or tuples of these -/

section
variable {P : Program} {w : World} {H : Hp} {h : Heap} {a : Addr}
end

section
variable {X : Cx} {pins : List (Addr × Obj)} {σ : St} {H : Hp} {s : Shared} {a : Addr} {y v : V} {u r : Value} {o : Option V} {A : Around} {E : Value → Shared → Prop}

end

section
variable {X : Cx} {pins : List (Addr × Obj)} {σ : St} {H : Hp} {s : Shared} {a : Addr} {kvs : List (Key × V)} {k : Key} {u : Value} {A : Around} {E : Value → Shared → Prop}
end

/-! ### readings and rules -/

section
variable {X : Cx} {o i e value : Expr} {pos pos' tpos : Pos} {td ty tv : TE}
end

/-! ### displays -/
section
variable {X : Cx} {pos : Pos}
end

/-! ### methods -/

section
variable {X : Cx} {pins : List (Addr × Obj)} {σ : St} {H : Hp} {s : Shared} {a : Addr} {y d : V} {u r : Value} {o : Option V} {A : Around} {E : Value → Shared → Prop}
end

section
variable {X : Cx} {o e f : Expr} {apos cpos : Pos} {td ty tx : TE}
end

/-! ### dict(d): a copy -/
section
variable {X : Cx} {pins : List (Addr × Obj)} {σ : St} {H : Hp} {s : Shared} {a : Addr} {kvs : List (Key × V)} {A : Around} {E : Value → Shared → Prop}
end

section
variable {X : Cx} {pins : List (Addr × Obj)} {σ : St} {H : Hp} {s : Shared} {a : Addr} {y : V} {u : Value} {A : Around} {E : Value → Shared → Prop}
end
end L2

namespace L2
open PySem PySem.Spec PyProof.Rows

section
variable {prog : Program} {w : World} {A : Around} {E : Value → Shared → Prop}

end

section
variable {X : Cx}
end
end L2

namespace L2
open PySem PySem.Spec PyProof.Rows

section
variable {X : Cx} {pins : List (Addr × Obj)} {σ : St} {H : Hp} {s : Shared} {h' : Heap}
/-- .. and one new object is laid -/
theorem Inv.turnedNew {t' : Nat} {ch : List Addr} {T : Addr} {ob : HO} (I : Inv X pins σ H s) (k : ∀ b o, b ∉ ch → s.heap.get? b = some o → h'.get? b = some o) (hf : ∀ b ∈ ch, FpOk X pins H b) (hT : s.heap.objs.size ≤ T)
    (new : ObjOk X.prog X.w (upd H T ob) h' T ob) : Inv X pins σ (upd H T ob) { s with heap := h', toks := t' } := by
  have hn : H T = none := I.hok.fresh hT
  have nit : ∀ b u, H b = some u → b ∉ ch := fun b u e z => by
    have q := (hf b z).1
    rw [q] at e; cases e
  refine I.step (g' := s.gens) (d' := s.drawn) (ch := ch) (fun b hb => ⟨(hf b hb).2.2.2.1, (hf b hb).2.1, (hf b hb).2.2.2.2.1, (hf b hb).2.2.2.2.2⟩) (fun b o _ _ hc e _ => k b o hc e) (fun b o _ _ hc e _ => ⟨o.slots, k b o hc e⟩)
    (fun b o _ e n => ?_) (fun b o hc e => ⟨o, k b o hc e⟩) (fun b xs e => ?_) (fun b o u e => ?_) (fun b ps e => ⟨#[], ?_⟩) (fun m hm => ?_) (fun b u e => ?_) I.bare
  · rw [upd_ne (Nat.ne_of_lt (Nat.lt_of_lt_of_le (Heap.lt_size e) hT))]; exact n
  · rw [upd_ne (ne_of_none e hn)]; exact e
  · rw [upd_ne (ne_of_none e hn)]; exact e
  · rw [upd_ne (ne_of_none e hn), e]; simp
  · obtain ⟨o, es, ep, ho, r⟩ := hm
    exact ⟨o, es, ep, k _ o (fun z => (hf _ z).2.1 rfl) ho, r⟩
  · by_cases hb : b = T
    · subst hb
      rw [upd_same] at e
      cases e
      exact new
    · rw [upd_ne hb] at e
      refine (I.hok b u e).stay (fun c v hc q => k c v ?_ q) (fun c q => by rw [upd_ne (ne_of_none q hn)]; exact q) fun c xs q => by rw [upd_ne (ne_of_none q hn)]; exact q
      rcases hc with z | z
      · rw [z]; exact nit b u e
      · exact nit c _ z

/-! ### locking a thing while a statement runs -/
end
section
variable {X : Cx}

/-! ### one iterator just laid -/
end

/-! ### range with a step -/
section
variable {X : Cx} {tg : Expr}
end

/-! ### reversed(list) -/
section
variable {X : Cx} {tg : Expr}
end

/-! ### a str -/

/-! ### a dict's keys: any dict's entries -/
section
variable {prog : Program} {w : World} {A : Around} {E : Value → Shared → Prop} {s : Shared}
end

/-! ### a locked dict -/
section
variable {X : Cx} {pins : List (Addr × Obj)} {σ : St} {H : Hp} {s : Shared} {d : Addr} {o : Obj}
end

section
variable {P : Program} {w : World} {K : PySem.W.Frag} {tg : Expr} {d : Addr} {o : Obj} {es : Array DictEntry} {ep : Nat}
end

/-! ### for k in d, d.keys(), d.values(), d.items() -/
section
variable {X : Cx} {tg e : Expr} {td : TE} {apos cpos : Pos}
end

/-! ### enumerate(list) -/
/-- the list at a as it stands at each turn, each item in a new pair -/
def Ite (K : PySem.W.Frag) (a : Addr) : It :=
  ⟨fun i H => ∃ (xs : List V) (x : V), SqL K H a xs ∧ xs[i]? = some x, fun i H v H' => ∃ T x, v = .ref T ∧ H T = none ∧ H' = upd H T (.tup [.int (i : Nat), x]) ∧ ∀ xs, SqL K H a xs → xs[i]? = some x, fun i H => ∃ xs : List V, SqL K H a xs ∧ xs.length ≤ i⟩
theorem turn_enum {P : Program} {w : World} {K : PySem.W.Frag} {elts : List Expr} {kk : Nat} {tpos : Pos} (a e it : Addr) :
    Turn P w K (.Tuple elts kk tpos) (Ite K a) [e, it] e (fun i h => (∃ old, IsEnum h e it ((i : Nat) : Int) old) ∧ h.IsListIter it a i ∧ e ≠ it) where
  mem := by simp
  obj := fun i h st b hb => by
    obtain ⟨⟨old, he⟩, ⟨o, ho, hc, hd⟩, _⟩ := st
    have e' : b = e ∨ b = it := by simpa using hb
    rcases e' with z | z
    · rw [z]; exact ⟨_, he, fun v q => nomatch q⟩
    · rw [z]; exact ⟨o, ho, fun v q => by rw [hd] at q; cases q⟩
  keep := fun i h h' st k => let ⟨⟨old, he⟩, hi, hne⟩ := st; ⟨⟨old, k e (by simp) _ he⟩, hi.at fun o q => k it (by simp) o q, hne⟩
  item := by
    intro X hP hw hK hc i pins s σ H E I hf st hg
    subst hP hw hK
    obtain ⟨⟨old, he⟩, hit, hne⟩ := st
    obtain ⟨xs, x, hq, hx⟩ := hg
    obtain ⟨its, rv, p, hz⟩ := I.list hq
    obtain ⟨u, hu, ru⟩ := rv.get hx
    have hel : e < s.heap.objs.size := Heap.lt_size he
    have hil : it < s.heap.objs.size := by obtain ⟨_, q, _⟩ := hit; exact Heap.lt_size q
    refine wpAny_pyNext_enum_item he hit p.isList (x := u) (by simpa using hu) hne fun h' ho hit' hT hsz hk => ?_
    refine ⟨_, rfl, wpAny_letOwnedTupleGo_enum (s := { s with heap := h', toks := s.toks + 1 }) ho fun h'' he' sb => ?_⟩
    have hT2 : h''.get? s.heap.objs.size = some { cls := .type "tuple", data := .seq #[.int i s.toks, u] } := (sb.2 _ (Nat.ne_of_gt hel)).trans hT
    have new : ObjOk X.prog X.w (upd H s.heap.objs.size (.tup [.int (i : Nat), x])) h'' s.heap.objs.size (.tup [.int (i : Nat), x]) :=
      ⟨by show 2 ≤ sizeLine; decide, [.int i s.toks, u], .cons ⟨_, rfl⟩ (.cons ru .nil), ⟨_, hT2, rfl, _, rfl⟩⟩
    have I1 : Inv X pins σ (upd H s.heap.objs.size (.tup [.int (i : Nat), x])) { s with heap := h'', toks := s.toks + 1 } :=
      I.turnedNew (ch := [e, it]) (fun b ob hb q => (sb.2 b (fun z => hb (by simp [z]))).trans (hk b ob (fun z => hb (by simp [z])) (fun z => hb (by simp [z])) q)) hf (Nat.le_refl _) new
    refine ⟨.ref s.heap.objs.size, _, I1, rfl, ⟨_, x, rfl, I.hok.fresh (Nat.le_refl _), rfl, fun ys hy => by rw [I.list_inj hy hq]; exact hx⟩, ⟨⟨u, ?_⟩, hit'.at fun o q => (sb.2 it (Ne.symm hne)).trans q, hne⟩, fun b hb => ?_⟩
    · have e1 : ((i + 1 : Nat) : Int) = (i : Int) + 1 := by omega
      rw [e1]; exact he'
    · have hb' : b < s.heap.objs.size := by
        have e' : b = e ∨ b = it := by simpa using hb
        rcases e' with z | z
        · rw [z]; exact hel
        · rw [z]; exact hil
      rw [upd_ne (Nat.ne_of_lt hb')]
      exact (hf b hb).1
  done := by
    intro X hP hw hK hc i pins s σ H E I hf st hg
    subst hP hw hK
    obtain ⟨⟨old, he⟩, hit, hne⟩ := st
    obtain ⟨xs, hq, hx⟩ := hg
    obtain ⟨its, rv, p, hz⟩ := I.list hq
    obtain ⟨f0, f1, f2, f3, f4, f5⟩ := hf it (by simp)
    have hl := rv.length
    exact wpAny_pyNext_enum_end (I.ok.hd hc) he hit p.isList (by simp; omega) fun h' eb => ⟨rfl, I.turned (t' := s.toks) (fun b o hb q => eb b o hb q) f0 f1 f3 f4 f5⟩
  self := fun A i s Q E st h => let ⟨⟨_, he⟩, _⟩ := st; wpAny_pyIter_enum he h
def iEnum (K : PySem.W.Frag) (ta : TA) : TI := fun σ H R => ta σ H fun vs H1 => ∃ a xs, vs = [.ref a] ∧ SqL K H1 a xs ∧ R (Ite K a) H1
theorem pi_enum {X : Cx} {e : Expr} {ta : TA} {p pos tpos : Pos} {elts : List Expr} {kk : Nat} (hg : Gl X "enumerate") (hm : X.mg "enumerate" = none) (ha : PA X [e] ta) (hs : starEach [e] X.env = [(false, eval e X.env)] := by rfl) :
    PI X (.Tuple elts kk tpos) (.Call (.Name "enumerate" p) [e] [] pos) (iEnum X.K ta) := by
  intro pins s σ H R I h
  refine Call_ (ld_blt I hg hm boot_enumerate (PyProof.Rows.callWith_type1 (thn (ha pos pins s σ H _ I h) fun us s1 ⟨vs, H1, I1, r1, q1⟩ => ?_) hs rfl))
  obtain ⟨a, xs, ex, hq, q⟩ := q1
  subst ex
  cases r1 with
  | cons r rr =>
    cases rr
    cases r
    obtain ⟨its, rv, p', hz⟩ := I1.list hq
    refine call_enumerate_list p'.isList fun h' he hit hsz hk => wpAny_pyIter_enum he ?_
    have I2 : Inv X pins σ H1 { s1 with heap := h' } := I1.kept (t' := s1.toks) hk
    refine ⟨s1.heap.objs.size + 1, [s1.heap.objs.size + 1, s1.heap.objs.size], _, _, H1, rfl, I2, turn_enum a (s1.heap.objs.size + 1) s1.heap.objs.size, ⟨⟨.none, he⟩, hit, Nat.succ_ne_self _⟩, fun b hb => ?_, q⟩
    have e' : b = s1.heap.objs.size + 1 ∨ b = s1.heap.objs.size := by simpa using hb
    have hle : s1.heap.objs.size ≤ b := by
      rcases e' with z | z
      · rw [z]; exact Nat.le_add_right _ _
      · rw [z]; exact Nat.le_refl _
    exact I1.fpOk hle (I1.hok.fresh hle)
/-! ### zip(list, list) -/
end L2

section 
namespace Bits
open PySem PyProof.Rows

end Bits
end 

section 
namespace TL
open PySem PySem.Builtin PySem.Builtin.Str PySem.StrLaws

/-! ### the list functions -/

/-! ### the model's split and partition are these -/

/-! ### computing spl and par -/

/-! ### digits -/

/-! ### words: x.split() -/
end TL
end 

namespace L2
open PySem PySem.Spec PyProof.Rows

section
variable {X : Cx} {pins : List (Addr × Obj)} {σ : St} {H : Hp} {s : Shared} {Q : VK}
end

section
variable {X : Cx}

/-! ### of a text alone -/

/-! ### of a text and a text -/

end

section
variable {X : Cx} {o e : Expr} {to te : TE}

end
end L2

namespace L2
open PySem PySem.Spec PyProof.Rows

section
variable {X : Cx}
end

/-! ### slices of a text -/

end L2

namespace Att
open PySem PySem.W PySem.Calls PyProof.Rows

/-! ### the script -/

/-! ### the attachment: holds_open's last premise (the goal 'hc' behind k_head) from a wpAny of the law's body -/

/-! ### rules over ANY heap (no ledger) from facts about the written part K: the library's own take a ledger (News) for what they write -/
section
variable {prog : Program} {w : World} {A : Around} {E : Value → Shared → Prop} {s : Shared} {K : Frag}

/-! the whole heap as the ledger: makes every rule that writes through a ledger a rule over any heap -/

end
end Att

namespace L2
open PySem PySem.Spec PyProof.Rows

end L2

namespace L2
open PySem PySem.Spec PyProof.Rows

end L2

/- THE LAST THEOREM (shape; LID, My.* are yours):
   My.Adr: a structure of the addresses that your layer names (classes, functions); My.Txt K t: a structure (Prop) of the equations over K;
   My.txt_mk : {K} {implicit addresses ..} (e1 : nsIn K mainGlobals "law" = some (some (.ref f))) (e2 : K.lookup f = some ⟨oc, od, .func (fnOf "law" "law" params body scope dV kV doc pm an cdv ct), sl⟩) (e3 : codeIn K cdv "law" = true) .. : ∃ t, My.Txt K t

set_option maxRecDepth 100000 in
set_option maxHeartbeats 0 in
theorem PySem.Challenge.cw_LID_holds : PySem.Challenge.rw_LID.Holds := by
  w_on; o_law; k_head; (case hw => w_witness2)
  k_fill
  refine L2.walk_of (l := PySem.Challenge.rw_LID) (n := 63) (k := 40) (x := "script") (CX := fun w => ..) (sp := fun _ => My.sp_law) rfl (by decide) rfl ⟨rfl, by decide, by decide⟩ (fun w h Y => PySem.W.kIn_of Y) ?F ?S ?C
  case F =>
    intro w mg fa h KX G hmg
    have T : ∃ t, My.Txt (L2.KOf KX) t := by
      dsimp only [L2.KOf]                          -- K must stand as «<heap const> w.params» for k_is
      refine' My.txt_mk ?e1 ?e2 ?e3 ..
      (case e1 => PySem.W.k_is)                    -- in the order: a name -> its address -> its object -> its parts
      (case e2 => PySem.W.k_is)
      ..
    obtain ⟨t, T⟩ := T
    have e0 := hmg.symm.trans (PySem.W.mg_of KX G T.law)
    cases e0                                       -- fa is the law's own address
    exact ⟨_, fun s u => .of_eq rfl, fun base kb nb => My.law_fn T kb nb⟩     -- if «.of_eq rfl» comes too early: refine' ⟨_, ?b, fun base kb nb => My.law_fn T kb nb⟩; exact fun s u => .of_eq rfl
  case S => exact fun w H a ns hl hO hS => ..
  case C => exact ..
(the tactic k_is has no namespace: write k_is) -/

/-! SHORT WORDS over the layer: a def of the text, its body, what a loop and a test want. -/
namespace L2
open PySem PySem.Spec PyProof.Rows

/-! ### the text by places -/
/-- the j-th statement of a class's body -/
def inClass (s : Stmt) (j : Nat) : Stmt := match s with
  | .ClassDef _ _ _ body _ _ _ _ _ _ _ => body.getD j (.Pass ⟨0, 0, 0, 0⟩)
  | _ => .Pass ⟨0, 0, 0, 0⟩
def defArgs (s : Stmt) : Arguments := match s with
  | .FunctionDef _ a _ _ _ _ _ _ _ _ => a
  | _ => { posonlyargs := [], args := [], vararg := none, kwonlyargs := [], kw_defaults := [], kwarg := none, defaults := [] }
def defBody (s : Stmt) : List Stmt := match s with
  | .FunctionDef _ _ b _ _ _ _ _ _ _ => b
  | _ => []
def defScope (s : Stmt) : Scope := match s with
  | .FunctionDef _ _ _ _ _ _ sc _ _ _ => sc
  | _ => { kind := .function, names := [], isGenerator := false, isCoroutine := false }

/-! ### no exception leaves a def -/
abbrev CX0 : CXT := fun _ _ _ _ _ _ => False
abbrev E0 : XK := fun _ _ _ => False
theorem pass0 {X : Cx} : Passes CX0 X E0 := fun _ _ _ _ _ _ _ h => h.elim

/-! ### a def (or method) of the text as it stands behind the top -/
structure Fun (K : PySem.W.Frag) (x qual : Str) (st : Stmt) (f : Addr) (fd : FuncData) : Prop where
  ex : ∃ (oc : Value) (od : Option Addr) (kV doc pm : Value) (an : Option Addr) (cdv ct : Value) (osl : Array (Option Value)),
    fd = PySem.W.fnOf x qual (defArgs st) (defBody st) (defScope st) .none kV doc pm an cdv ct ∧ K.lookup f = some ⟨oc, od, .func fd, osl⟩ ∧ PySem.W.codeIn K cdv qual = true
  kp : PySem.W.keepIn K (.ref f) = true
section
variable {P : Program} {w : World} {K : PySem.W.Frag} {mg : Str → Option Value} {base : Heap}
/-- THE RULE for a def: its body as a term of rules, and the reading of that term -/
theorem Fun.ok {x qual : Str} {st : Stmt} {f : Addr} {fd : FuncData} {N ps : List Str} {k : Nat} {sp : Sp} (F : Fun K x qual st f fd) (S : FnScope N ps (defScope st)) (len : ∀ vs H Q E, sp vs H Q E → vs.length = ps.length)
    (hbody : ∀ (cdv : Value) (A : Around) (outer : List Env) (s : Shared) (H : Hp) (vs : List V) (Q : VK) (E : XK), Room k (A.deeper (envOfC qual (defScope st) s.heap.objs.size f cdv)) → sp vs H Q E →
      ∃ t, PSs (cxOf CX0 P w K mg base N qual (defScope st) f cdv A outer s H E).nox (defBody st) t ∧ t { nx := fun _ H' => Q .non H', rt := Q } (start N vs) H) : FnOk P w K mg base CX0 (k + 1) f fd ps sp := by
  obtain ⟨oc, od, kV, doc, pm, an, cdv, ct, osl, rfl, lk, hcd⟩ := F.ex
  refine fn_of lk hcd S len fun A outer s H vs Q E hr hsp => ?_
  obtain ⟨t, h, q⟩ := hbody cdv A outer s H vs Q E hr hsp
  exact ⟨t, h.nox, q⟩
/-- how its arguments bind (no defaults): h is «fun _ _ _ _ _ _ us hl => match us, hl with | [_, _], _ => rfl», one _ a parameter -/
theorem Fun.binds {x qual : Str} {st : Stmt} {f : Addr} {fd : FuncData} {ps : List Str} (F : Fun K x qual st f fd)
    (h : ∀ (kV doc pm : Value) (an : Option Addr) (cdv ct : Value) (us : List Value), us.length = ps.length → bindArgs (PySem.W.fnOf x qual (defArgs st) (defBody st) (defScope st) .none kV doc pm an cdv ct) ⟨us, []⟩ = pure (ps.zip us)) : Binds K fd ps [] := by
  obtain ⟨oc, od, kV, doc, pm, an, cdv, ct, osl, rfl, lk, hcd⟩ := F.ex
  exact .all (h kV doc pm an cdv ct)
theorem fun_mk {x qual : Str} {st : Stmt} {f : Addr} {oc : Value} {od an : Option Addr} {osl : Array (Option Value)} {kV doc pm cdv ct : Value} (l : K.lookup f = some ⟨oc, od, .func (PySem.W.fnOf x qual (defArgs st) (defBody st) (defScope st) .none kV doc pm an cdv ct), osl⟩)
    (c : PySem.W.codeIn K cdv qual = true) (k : PySem.W.keepIn K (.ref f) = true) : Fun K x qual st f (PySem.W.fnOf x qual (defArgs st) (defBody st) (defScope st) .none kV doc pm an cdv ct) := ⟨⟨oc, od, kV, doc, pm, an, cdv, ct, osl, rfl, l, c⟩, k⟩
end

/-! ### expressions in short: the name that stands in the i-th slot -/
section
variable {X : Cx}
theorem pv (i : Nat) {x : Str} {pos : Pos} (hN : X.N[i]? = some x := by rfl) (hv : Vis X.env.scope x := by first | exact Or.inl rfl | exact Or.inr (Or.inl rfl) | exact Or.inr (Or.inr rfl)) (hd : (x == ("__debug__" : Str)) = false := by decide)
    (hcd : (x == ("__classdict__" : Str)) = false := by decide) : PE X (.Name x pos) (tVar i) := pe_var hN hv hd hcd
end

/-! ### tests -/
theorem ite2 {c A B : Prop} [Decidable c] (h1 : c → A) (h2 : ¬ c → B) : if c then A else B := by
  by_cases h : c
  · rw [if_pos h]
    exact h1 h
  · rw [if_neg h]
    exact h2 h

/-! ### heaps -/

/-! ### a dict's pairs: keys that differ -/
section
variable {κ : Type} [DecidableEq κ]
end
/-! ### lists -/
end L2

section
set_option Elab.async false
set_option linter.all false
set_option maxRecDepth 100000
set_option maxHeartbeats 2000000
namespace L2
open PySem PySem.Spec PyProof.Rows
open PySem.W (WData Codec OpenSpec Well WellAll ReadsW ReadsAllW)
/-! ### an answer as data -/
mutual
/-- x stands for the datum d, lists and tuples all the way -/
inductive Dw (K : PySem.W.Frag) (H : Hp) : V → WData → Prop
  | non : Dw K H .non .none
  | bl (b : Bool) : Dw K H (.bl b) (.bool b)
  | int (i : Int) : Dw K H (.int i) (.int i)
  | str (x : Str) : Dw K H (.str x) (.str x)
  | byt (b : Array UInt8) : Dw K H (.byt b) (.bytes b.toList)
  | lst {a : Addr} {xs : List V} {ds : List WData} : SqL K H a xs → DwAll K H xs ds → Dw K H (.ref a) (.list ds)
  | tup {a : Addr} {xs : List V} {ds : List WData} : SqT K H a xs → DwAll K H xs ds → Dw K H (.ref a) (.tuple ds)
inductive DwAll (K : PySem.W.Frag) (H : Hp) : List V → List WData → Prop
  | nil : DwAll K H [] []
  | cons {v : V} {vs : List V} {d : WData} {ds : List WData} : Dw K H v d → DwAll K H vs ds → DwAll K H (v :: vs) (d :: ds)
end
theorem dw_ints {K : PySem.W.Frag} {H : Hp} : ∀ ns : List Int, DwAll K H (ns.map V.int) (ns.map WData.int)
  | [] => .nil
  | n :: r => .cons (.int n) (dw_ints r)
theorem ints_dw {K : PySem.W.Frag} {H : Hp} : ∀ (ns : List Int) (xs : List V), DwAll K H xs (ns.map WData.int) → xs = ns.map V.int
  | [], xs, h => by
    cases h
    rfl
  | n :: r, xs, h => by
    cases h with
    | cons h1 h2 =>
      cases h1
      rw [ints_dw r _ h2] <;> rfl
section
variable {P : Program} {w : World} {K : PySem.W.Frag} {H : Hp} {h : Heap} {R : PySem.W.WRecords} {cl : Str → Option Addr}
theorem sqL_at {a : Addr} {xs : List V} (hok : HOk P w H h) (KX : K.In h) (q : SqL K H a xs) : ∃ (its : List Value) (o : Obj) (n : Nat), Vals xs its ∧ h.get? a = some o ∧ o.cls = .type "list" ∧ o.data = .seq its.toArray n := by
  rcases q with q | ⟨o, its, n, e, hc, _, hd, _, hv⟩
  · obtain ⟨_, its, n, hv, e⟩ := (show ObjOk P w H h a (.lst xs) from q.ok hok)
    exact ⟨its, _, n, hv, e, rfl, rfl⟩
  · exact ⟨its.toList, o, n, hv, KX _ _ e, hc, by simp [hd]⟩
theorem sqT_at {a : Addr} {xs : List V} (hok : HOk P w H h) (KX : K.In h) (q : SqT K H a xs) : ∃ (its : List Value) (o : Obj) (n : Nat), Vals xs its ∧ h.get? a = some o ∧ o.cls = .type "tuple" ∧ o.data = .seq its.toArray n := by
  rcases q with q | ⟨o, its, n, e, hc, hd, _, hv⟩
  · obtain ⟨_, its, hv, o, e, hc, n, hd⟩ := (show ObjOk P w H h a (.tup xs) from q.ok hok)
    exact ⟨its, o, n, hv, e, hc, hd⟩
  · exact ⟨its.toList, o, n, hv, KX _ _ e, hc, by simp [hd]⟩
mutual
theorem Dw.reads (hok : HOk P w H h) (KX : K.In h) : ∀ (d : WData) (v : V) (u : Value), Dw K H v d → RelV v u → ∃ as, ReadsW R cl h u d as
  | .none, _, _, x, r => by
    cases x
    cases r
    exact ⟨_, ReadsW.none⟩
  | .bool b, _, _, x, r => by
    cases x
    cases r
    exact ⟨_, ReadsW.bool b⟩
  | .int i, _, _, x, r => by
    cases x
    obtain ⟨t, rfl⟩ := r
    exact ⟨_, ReadsW.int i t⟩
  | .str s, _, _, x, r => by
    cases x
    obtain ⟨t, rfl⟩ := r
    exact ⟨_, ReadsW.str s t⟩
  | .bytes b, _, _, x, r => by
    cases x
    obtain ⟨t, rfl⟩ := r
    exact ⟨_, ReadsW.bytes _ t⟩
  | .list ds, _, _, x, r => by
    cases x with
    | lst hs ha =>
      cases r
      obtain ⟨its, o, n, rv, ho, hc, hd⟩ := sqL_at hok KX hs
      obtain ⟨as, hr⟩ := Dw.readsAll hok KX ds _ its ha rv
      exact ⟨_, ReadsW.list ho hc hd hr⟩
  | .tuple ds, _, _, x, r => by
    cases x with
    | tup hs ha =>
      cases r
      obtain ⟨its, o, n, rv, ho, hc, hd⟩ := sqT_at hok KX hs
      obtain ⟨as, hr⟩ := Dw.readsAll hok KX ds _ its ha rv
      exact ⟨_, ReadsW.tuple ho hc hd hr⟩
  | .float _, _, _, x, _ => by cases x
  | .dict _, _, _, x, _ => by cases x
  | .bytearray _, _, _, x, _ => by cases x
  | .set _, _, _, x, _ => by cases x
  | .frozenset _, _, _, x, _ => by cases x
  | .obj _ _, _, _, x, _ => by cases x
theorem Dw.readsAll (hok : HOk P w H h) (KX : K.In h) : ∀ (ds : List WData) (vs : List V) (us : List Value), DwAll K H vs ds → Vals vs us → ∃ as, ReadsAllW R cl h us ds as
  | [], _, _, x, r => by
    cases x
    cases r
    exact ⟨_, ReadsAllW.nil⟩
  | d :: ds, _, _, x, r => by
    cases x with
    | cons h1 h2 =>
      cases r with
      | cons r1 r2 =>
        obtain ⟨as, q1⟩ := Dw.reads hok KX d _ _ h1 r1
        obtain ⟨bs, q2⟩ := Dw.readsAll hok KX ds _ _ h2 r2
        exact ⟨_, ReadsAllW.cons q1 q2⟩
end
end
/-! ### the arguments -/
mutual
/-- data that a codec tells -/
def plW : WData → Bool
  | .none => true
  | .bool _ => true
  | .int _ => true
  | .str _ => true
  | .bytes _ => true
  | .list xs => plWs xs
  | .tuple xs => plWs xs
  | _ => false
def plWs : List WData → Bool
  | [] => true
  | x :: r => plW x && plWs r
end
theorem plWs_map {α : Type} {f : α → WData} (h : ∀ a, plW (f a) = true) : ∀ l : List α, plWs (l.map f) = true
  | [] => rfl
  | x :: r => by
    show (plW (f x) && plWs (r.map f)) = true
    rw [h x, plWs_map h r] <;> rfl
theorem pl_enc : ∀ (c : Codec) (a : c.denote), plW (c.enc a) = true
  | .unit, _ => rfl
  | .bool, _ => rfl
  | .int _ _, _ => rfl
  | .nat _ _, _ => rfl
  | .u8, _ => rfl
  | .bytes _ _, _ => rfl
  | .text _ _ _ _, _ => rfl
  | .list _ _ c, a => plWs_map (fun x => pl_enc c x) a
  | .pair c d, a => by
    show (plW (c.enc a.1) && (plW (d.enc a.2) && true)) = true
    rw [pl_enc c a.1, pl_enc d a.2] <;> rfl
  | .triple c d e, a => by
    show (plW (c.enc a.1) && (plW (d.enc a.2.1) && (plW (e.enc a.2.2) && true))) = true
    rw [pl_enc c a.1, pl_enc d a.2.1, pl_enc e a.2.2] <;> rfl
  | .option c, none => rfl
  | .option c, some x => pl_enc c x
theorem pl_encAll : ∀ (cs : List Codec) (a : Codec.denoteAll cs), plWs (Codec.encAll cs a) = true
  | [], _ => rfl
  | c :: cs, a => by
    show (plW (c.enc a.1) && plWs (Codec.encAll cs a.2)) = true
    rw [pl_enc c a.1, pl_encAll cs a.2] <;> rfl
theorem weight_mem : ∀ {xs : List WData} {d : WData}, d ∈ xs → d.weight ≤ WData.weightAll xs
  | [], d, h => absurd h (by simp)
  | x :: r, d, h => by
    show d.weight ≤ x.weight + 1 + WData.weightAll r
    rcases List.mem_cons.mp h with e | m
    · rw [e]
      omega
    · have z := weight_mem m
      omega
def toV : Value → V
  | .none => .non
  | .bool b => .bl b
  | .int i _ => .int i
  | .str x _ => .str x
  | .bytes b _ => .byt b
  | .ref a => .ref a
  | _ => .non
/-- a value of the arguments, its objects among A -/
def OkU (A : List Addr) : Value → Prop
  | .none => True
  | .bool _ => True
  | .int _ _ => True
  | .str _ _ => True
  | .bytes _ _ => True
  | .ref a => a ∈ A
  | _ => False
theorem OkU.mono {A B : List Addr} (h : ∀ a ∈ A, a ∈ B) : ∀ {u : Value}, OkU A u → OkU B u := fun {u} x => by
  cases u with
  | ref a => exact h a x
  | none => trivial
  | bool b => trivial
  | int i t => trivial
  | str s t => trivial
  | bytes b t => trivial
  | _ => exact False.elim x
theorem relV_toV {A : List Addr} {u : Value} (x : OkU A u) : RelV (toV u) u := by
  cases u with
  | ref a => rfl
  | none => rfl
  | bool b => rfl
  | int i t => exact ⟨t, rfl⟩
  | str s t => exact ⟨t, rfl⟩
  | bytes b t => exact ⟨t, rfl⟩
  | _ => exact False.elim x
theorem vals_toV {A : List Addr} : ∀ {vs : List Value}, (∀ u ∈ vs, OkU A u) → Vals (vs.map toV) vs
  | [], _ => .nil
  | u :: r, h => .cons (relV_toV (h u (List.mem_cons_self ..))) (vals_toV fun x hx => h x (List.mem_cons_of_mem _ hx))
/-- an object of the arguments -/
def ArgOb (h : Heap) (A : List Addr) (a : Addr) : Prop := ∃ vs : List Value, vs.length ≤ sizeLine ∧ (∀ u ∈ vs, OkU A u) ∧
  (h.get? a = some { cls := .type "list", data := .seq vs.toArray } ∨ h.get? a = some { cls := .type "tuple", data := .seq vs.toArray })
theorem ArgOb.mono {h : Heap} {A B : List Addr} {a : Addr} (k : ∀ a ∈ A, a ∈ B) (x : ArgOb h A a) : ArgOb h B a := by
  obtain ⟨vs, h1, h2, h3⟩ := x
  exact ⟨vs, h1, fun u hu => (h2 u hu).mono k, h3⟩
theorem wellAll_len {P : Params} {h : Heap} : ∀ {vs : List Value} {ds : List WData}, WellAll P h vs ds → vs.length = ds.length
  | _, _, .nil => rfl
  | _, _, .cons _ b => by
    show _ + 1 = _ + 1
    rw [wellAll_len b]
theorem well_list {P : Params} {h : Heap} {v : Value} {ds : List WData} (x : Well P h v (.list ds)) : ∃ (a : Addr) (vs : List Value), v = .ref a ∧ h.get? a = some { cls := .type "list", data := .seq vs.toArray } ∧ WellAll P h vs ds := by
  cases x with
  | list ho hall => exact ⟨_, _, rfl, ho, hall⟩
theorem well_tuple {P : Params} {h : Heap} {v : Value} {ds : List WData} (x : Well P h v (.tuple ds)) : ∃ (a : Addr) (vs : List Value), v = .ref a ∧ h.get? a = some { cls := .type "tuple", data := .seq vs.toArray } ∧ WellAll P h vs ds := by
  cases x with
  | tuple ho hall => exact ⟨_, _, rfl, ho, hall⟩
theorem well_cons {P : Params} {h : Heap} {us : List Value} {d : WData} {ds : List WData} (x : WellAll P h us (d :: ds)) : ∃ (v : Value) (vs : List Value), us = v :: vs ∧ Well P h v d ∧ WellAll P h vs ds := by
  cases x with
  | cons a b => exact ⟨_, _, rfl, a, b⟩
theorem line_of {n : Nat} (h : n ≤ 1048576) : n ≤ sizeLine := Nat.le_trans h (by decide)
section
variable {P : Params} {h : Heap}
mutual
theorem area_one : ∀ (d : WData) (v : Value), Well P h v d → plW d = true → d.weight ≤ 1048576 → ∃ A : List Addr, OkU A v ∧ ∀ a ∈ A, ArgOb h A a
  | .none, _, x, _, _ => by
    cases x
    exact ⟨[], trivial, fun a m => absurd m (by simp)⟩
  | .bool b, _, x, _, _ => by
    cases x
    exact ⟨[], trivial, fun a m => absurd m (by simp)⟩
  | .int i, _, x, _, _ => by
    cases x
    exact ⟨[], trivial, fun a m => absurd m (by simp)⟩
  | .str s, _, x, _, _ => by
    cases x
    exact ⟨[], trivial, fun a m => absurd m (by simp)⟩
  | .bytes b, _, x, _, _ => by
    cases x
    exact ⟨[], trivial, fun a m => absurd m (by simp)⟩
  | .list ds, _, x, p, z => by
    obtain ⟨a, vs, rfl, ho, hall⟩ := well_list x
    have z2 : WData.weightAll ds ≤ 1048576 := z
    obtain ⟨A, h1, h2⟩ := area_all ds _ hall p fun d hd => Nat.le_trans (weight_mem hd) z2
    have k : ∀ b ∈ A, b ∈ a :: A := fun b hb => List.mem_cons_of_mem _ hb
    refine ⟨a :: A, List.mem_cons_self .., fun b hb => ?_⟩
    rcases List.mem_cons.mp hb with e | m
    · rw [e]
      exact ⟨vs, line_of (by rw [wellAll_len hall]; exact Nat.le_trans (PySem.W.length_le_weightAllW ds) z2), fun u hu => (h1 u hu).mono k, .inl ho⟩
    · exact (h2 b m).mono k
  | .tuple ds, _, x, p, z => by
    obtain ⟨a, vs, rfl, ho, hall⟩ := well_tuple x
    have z2 : WData.weightAll ds ≤ 1048576 := z
    obtain ⟨A, h1, h2⟩ := area_all ds _ hall p fun d hd => Nat.le_trans (weight_mem hd) z2
    have k : ∀ b ∈ A, b ∈ a :: A := fun b hb => List.mem_cons_of_mem _ hb
    refine ⟨a :: A, List.mem_cons_self .., fun b hb => ?_⟩
    rcases List.mem_cons.mp hb with e | m
    · rw [e]
      exact ⟨vs, line_of (by rw [wellAll_len hall]; exact Nat.le_trans (PySem.W.length_le_weightAllW ds) z2), fun u hu => (h1 u hu).mono k, .inr ho⟩
    · exact (h2 b m).mono k
  | .float _, _, _, p, _ => Bool.noConfusion (show false = true from p)
  | .dict _, _, _, p, _ => Bool.noConfusion (show false = true from p)
  | .bytearray _, _, _, p, _ => Bool.noConfusion (show false = true from p)
  | .set _, _, _, p, _ => Bool.noConfusion (show false = true from p)
  | .frozenset _, _, _, p, _ => Bool.noConfusion (show false = true from p)
  | .obj _ _, _, _, p, _ => Bool.noConfusion (show false = true from p)
theorem area_all : ∀ (ds : List WData) (vs : List Value), WellAll P h vs ds → plWs ds = true → (∀ d ∈ ds, d.weight ≤ 1048576) → ∃ A : List Addr, (∀ u ∈ vs, OkU A u) ∧ ∀ a ∈ A, ArgOb h A a
  | [], _, x, _, _ => by
    cases x
    exact ⟨[], fun u m => absurd m (by simp), fun a m => absurd m (by simp)⟩
  | d :: ds, _, x, p, z => by
    obtain ⟨v, vs, rfl, x1, x2⟩ := well_cons x
    have q : plW d = true ∧ plWs ds = true := Bool.and_eq_true_iff.mp p
    obtain ⟨A, a1, a2⟩ := area_one d v x1 q.1 (z d (List.mem_cons_self ..))
    obtain ⟨B, b1, b2⟩ := area_all ds vs x2 q.2 fun e he => z e (List.mem_cons_of_mem _ he)
    have kA : ∀ b ∈ A, b ∈ A ++ B := fun b hb => List.mem_append.mpr (.inl hb)
    have kB : ∀ b ∈ B, b ∈ A ++ B := fun b hb => List.mem_append.mpr (.inr hb)
    refine ⟨A ++ B, fun u hu => ?_, fun b hb => ?_⟩
    · rcases List.mem_cons.mp hu with e | m
      · rw [e]
        exact a1.mono kA
      · exact (b1 u m).mono kB
    · rcases List.mem_append.mp hb with m | m
      · exact (a2 b m).mono kA
      · exact (b2 b m).mono kB
end
end
/-- what is tracked of an argument's object -/
def hoOf (o : Obj) : Option HO := match o.data with
  | .seq vs _ => if (o.cls == Value.type "list") = true then some (.frz o (.lst (vs.toList.map toV))) else some (.frz o (.tup (vs.toList.map toV)))
  | _ => none
def argH (K : PySem.W.Frag) (h : Heap) (A : List Addr) : Hp := fun b => if b ∈ A then (if (K.lookup b).isNone = true then (h.get? b).bind hoOf else none) else none
/-- nothing is tracked but what is known to the object -/
def OnlyF (H : Hp) : Prop := ∀ b, H b = none ∨ ∃ o u, H b = some (.frz o u)
theorem hoOf_lst (vs : List Value) : hoOf { cls := .type "list", data := .seq vs.toArray } = some (.frz { cls := .type "list", data := .seq vs.toArray } (.lst (vs.map toV))) := by
  show (if (Value.type "list" == Value.type "list") = true then some (HO.frz { cls := .type "list", data := .seq vs.toArray } (.lst (vs.toArray.toList.map toV))) else some (HO.frz { cls := .type "list", data := .seq vs.toArray } (.tup (vs.toArray.toList.map toV)))) = _
  rw [if_pos (beq_self_eq_true _)]
theorem hoOf_tup (vs : List Value) : hoOf { cls := .type "tuple", data := .seq vs.toArray } = some (.frz { cls := .type "tuple", data := .seq vs.toArray } (.tup (vs.map toV))) := by
  show (if (Value.type "tuple" == Value.type "list") = true then some (HO.frz { cls := .type "tuple", data := .seq vs.toArray } (.lst (vs.toArray.toList.map toV))) else some (HO.frz { cls := .type "tuple", data := .seq vs.toArray } (.tup (vs.toArray.toList.map toV)))) = _
  rw [if_neg (by decide)]
section
variable {P : Program} {w : World} {K : PySem.W.Frag} {h : Heap} {A : List Addr}
theorem argH_at {b : Addr} {o : Obj} (hb : b ∈ A) (hk : K.lookup b = none) (e : h.get? b = some o) : argH K h A b = hoOf o := by
  unfold argH
  rw [if_pos hb, hk, if_pos (show (none : Option Obj).isNone = true from rfl), e] <;> rfl
theorem of_argH {b : Addr} {u : HO} (q : argH K h A b = some u) : b ∈ A ∧ K.lookup b = none := by
  unfold argH at q
  by_cases hb : b ∈ A
  · rw [if_pos hb] at q
    cases hk : K.lookup b with
    | none => exact ⟨hb, rfl⟩
    | some o =>
      rw [hk, if_neg (by simp)] at q
      cases q
  · rw [if_neg hb] at q
    cases q
/-- what stands tracked -/
theorem argH_is (ar : ∀ a ∈ A, ArgOb h A a) {b : Addr} {u : HO} (q : argH K h A b = some u) : K.lookup b = none ∧ ∃ vs : List Value, vs.length ≤ sizeLine ∧ (∀ u ∈ vs, OkU A u) ∧
    ((h.get? b = some { cls := .type "list", data := .seq vs.toArray } ∧ u = .frz { cls := .type "list", data := .seq vs.toArray } (.lst (vs.map toV))) ∨
     (h.get? b = some { cls := .type "tuple", data := .seq vs.toArray } ∧ u = .frz { cls := .type "tuple", data := .seq vs.toArray } (.tup (vs.map toV)))) := by
  obtain ⟨hb, hk⟩ := of_argH q
  obtain ⟨vs, h1, h2, h3⟩ := ar b hb
  refine ⟨hk, vs, h1, h2, ?_⟩
  rcases h3 with e | e
  · rw [argH_at hb hk e, hoOf_lst] at q
    exact .inl ⟨e, (Option.some.inj q).symm⟩
  · rw [argH_at hb hk e, hoOf_tup] at q
    exact .inr ⟨e, (Option.some.inj q).symm⟩
theorem argH_only (ar : ∀ a ∈ A, ArgOb h A a) : OnlyF (argH K h A) := fun b => by
  cases q : argH K h A b with
  | none => exact .inl rfl
  | some u =>
    obtain ⟨_, vs, _, _, ⟨_, e⟩ | ⟨_, e⟩⟩ := argH_is ar q
    · exact .inr ⟨_, _, by rw [e]⟩
    · exact .inr ⟨_, _, by rw [e]⟩
theorem argH_ok (ar : ∀ a ∈ A, ArgOb h A a) : HOk P w (argH K h A) h := fun b u q => by
  obtain ⟨_, vs, h1, h2, ⟨e, rfl⟩ | ⟨e, rfl⟩⟩ := argH_is ar q
  · exact ⟨e, by rw [List.length_map]; exact h1, vs, _, vals_toV h2, e⟩
  · exact ⟨e, by rw [List.length_map]; exact h1, vs, vals_toV h2, _, e, rfl, _, rfl⟩
theorem seq_inj {c c' : Value} {vs us : List Value} (e : (some { cls := c, data := .seq vs.toArray } : Option Obj) = some { cls := c', data := .seq us.toArray }) : c = c' ∧ vs = us := by
  have e1 := Option.some.inj e
  have e2 : c = c' := congrArg Obj.cls e1
  have e3 : Data.seq vs.toArray = Data.seq us.toArray := congrArg Obj.data e1
  injection e3 with e4
  refine ⟨e2, ?_⟩
  have e5 := congrArg Array.toList e4
  simpa using e5
/-- a list argument -/
theorem argL (KX : K.In h) (ar : ∀ a ∈ A, ArgOb h A a) {a : Addr} {vs : List Value} (ha : a ∈ A) (e : h.get? a = some { cls := .type "list", data := .seq vs.toArray }) : (∀ u ∈ vs, OkU A u) ∧ SqL K (argH K h A) a (vs.map toV) := by
  obtain ⟨us, h1, h2, h3⟩ := ar a ha
  have hu : us = vs := by
    rcases h3 with q | q
    · rw [e] at q
      exact (seq_inj q).2.symm
    · rw [e] at q
      exact absurd (Value.type.inj (seq_inj q).1) (by decide)
  subst hu
  refine ⟨h2, ?_⟩
  cases hk : K.lookup a with
  | none => exact .inl (.inr ⟨_, by rw [argH_at ha hk e, hoOf_lst]⟩)
  | some o =>
    have e2 := KX a o hk
    rw [e] at e2
    obtain rfl := Option.some.inj e2
    exact .inr ⟨_, us.toArray, _, hk, rfl, rfl, rfl, by rw [List.size_toArray]; exact h1, by simpa using vals_toV h2⟩
theorem argT (KX : K.In h) (ar : ∀ a ∈ A, ArgOb h A a) {a : Addr} {vs : List Value} (ha : a ∈ A) (e : h.get? a = some { cls := .type "tuple", data := .seq vs.toArray }) : (∀ u ∈ vs, OkU A u) ∧ SqT K (argH K h A) a (vs.map toV) := by
  obtain ⟨us, h1, h2, h3⟩ := ar a ha
  have hu : us = vs := by
    rcases h3 with q | q
    · rw [e] at q
      exact absurd (Value.type.inj (seq_inj q).1) (by decide)
    · rw [e] at q
      exact (seq_inj q).2.symm
  subst hu
  refine ⟨h2, ?_⟩
  cases hk : K.lookup a with
  | none => exact .inl (.inr ⟨_, by rw [argH_at ha hk e, hoOf_tup]⟩)
  | some o =>
    have e2 := KX a o hk
    rw [e] at e2
    obtain rfl := Option.some.inj e2
    exact .inr ⟨_, us.toArray, _, hk, rfl, rfl, by rw [List.size_toArray]; exact h1, by simpa using vals_toV h2⟩
mutual
theorem dw_one {Pm : Params} (KX : K.In h) (ar : ∀ a ∈ A, ArgOb h A a) : ∀ (d : WData) (v : Value), Well Pm h v d → plW d = true → OkU A v → Dw K (argH K h A) (toV v) d
  | .none, _, x, _, _ => by
    cases x
    exact .non
  | .bool b, _, x, _, _ => by
    cases x
    exact .bl b
  | .int i, _, x, _, _ => by
    cases x
    exact .int i
  | .str s, _, x, _, _ => by
    cases x
    exact .str s
  | .bytes b, _, x, _, _ => by
    cases x
    have z := Dw.byt (K := K) (H := argH K h A) b.toArray
    exact z
  | .list ds, _, x, p, hu => by
    obtain ⟨a, vs, rfl, ho, hall⟩ := well_list x
    obtain ⟨h2, hs⟩ := argL KX ar hu ho
    exact .lst hs (dw_all KX ar ds _ hall p h2)
  | .tuple ds, _, x, p, hu => by
    obtain ⟨a, vs, rfl, ho, hall⟩ := well_tuple x
    obtain ⟨h2, hs⟩ := argT KX ar hu ho
    exact .tup hs (dw_all KX ar ds _ hall p h2)
  | .float _, _, _, p, _ => Bool.noConfusion (show false = true from p)
  | .dict _, _, _, p, _ => Bool.noConfusion (show false = true from p)
  | .bytearray _, _, _, p, _ => Bool.noConfusion (show false = true from p)
  | .set _, _, _, p, _ => Bool.noConfusion (show false = true from p)
  | .frozenset _, _, _, p, _ => Bool.noConfusion (show false = true from p)
  | .obj _ _, _, _, p, _ => Bool.noConfusion (show false = true from p)
theorem dw_all {Pm : Params} (KX : K.In h) (ar : ∀ a ∈ A, ArgOb h A a) : ∀ (ds : List WData) (vs : List Value), WellAll Pm h vs ds → plWs ds = true → (∀ u ∈ vs, OkU A u) → DwAll K (argH K h A) (vs.map toV) ds
  | [], _, x, _, _ => by
    cases x
    exact .nil
  | d :: ds, _, x, p, hu => by
    obtain ⟨v, vs, rfl, x1, x2⟩ := well_cons x
    have q : plW d = true ∧ plWs ds = true := Bool.and_eq_true_iff.mp p
    exact .cons (dw_one KX ar d v x1 q.1 (hu _ (List.mem_cons_self ..))) (dw_all KX ar ds vs x2 q.2 fun u m => hu u (List.mem_cons_of_mem _ m))
end
end
/-! ### the call -/
theorem spec_call {P : Program} {w : World} {K : PySem.W.Frag} {mg mb : Str → Option Value} {CX : CXT} {k : Nat} {fa : Addr} {fd : FuncData} {ps : List Str} {sp : Sp} {s₁ : Shared} {vals : List Value} {ds : List WData} {R : PySem.W.WRecords} {cl : Str → Option Addr} {d0 : WData}
    (KX : K.In s₁.heap) (hns : s₁.heap.Ns mainGlobals mg) (hb : s₁.heap.Ns builtinsNs mb) (hbb : ∀ x : Str, x ≠ "__name__" → mb x = bootBuiltins x) (hlim : s₁.heap.NoLimit) (hg : s₁.gens = #[])
    (hwl : WellAll w.params s₁.heap vals ds) (hpl : plWs ds = true) (hwt : ∀ d ∈ ds, d.weight ≤ 1048576) (hr : Room k callerA)
    (F : ∀ base : Heap, K.In base → base.Ns mainGlobals mg → FnOk P w K mg base CX k fa fd ps sp) (hbind : ∀ (s : Shared) (us : List Value), us.length = ps.length → BindsTo s fd ⟨us, []⟩ (ps.zip us)) (hlen : ds.length = ps.length)
    (hsp : ∀ (H : Hp) (xs : List V), OnlyF H → DwAll K H xs ds → sp xs H (fun v H' => Dw K H' v d0) fun _ _ _ => False)
    (hCX : ∀ H e s', CX [] H s₁ (fun _ _ _ => False) e s' → False) :
    codeAny (model P w) callerA (.call (.ref fa) ⟨vals, []⟩) (fun r s' => ∃ u as, r = .ok (.ret u) ∧ ReadsW R cl s'.heap u d0 as ∧ OldK s₁.heap s'.heap ∧ s'.os = s₁.os ∧ AllBare s'.gens) s₁ := by
  obtain ⟨A, ho, ar⟩ := area_all ds vals hwl hpl hwt
  have hO : OnlyF (argH K s₁.heap A) := argH_only ar
  have hok : HOk P w (argH K s₁.heap A) s₁.heap := argH_ok ar
  have hS := dw_all KX ar ds vals hwl hpl ho
  have hV := vals_toV ho
  have hK : ∀ b u, argH K s₁.heap A b = some u → K.lookup b = none := fun b u q => (argH_is ar q).1
  have noA : ∀ {b : Addr} {o : Obj} {es : Array DictEntry} {ep : Nat}, s₁.heap.get? b = some o → o.data = .dict es ep → argH K s₁.heap A b = none := fun {b o es ep} e d => by
    cases q : argH K s₁.heap A b with
    | none => rfl
    | some u =>
      obtain ⟨_, vs, _, _, ⟨e2, _⟩ | ⟨e2, _⟩⟩ := argH_is ar q
      · rw [e2] at e
        cases e
        have d' : Data.seq vs.toArray _ = Data.dict es ep := d
        cases d'
      · rw [e2] at e
        cases e
        have d' : Data.seq vs.toArray _ = Data.dict es ep := d
        cases d'
  generalize argH K s₁.heap A = H at hO hok hS hK noA
  have base_of : ∀ {b : Addr} {o : Obj}, s₁.heap.get? b = some o → H b = none → (hidT s₁.heap H).get? b = some o := fun e n => hidT_get e n
  have nsK : ∀ {b : Addr} {m : Str → Option Value}, s₁.heap.Ns b m → (hidT s₁.heap H).Ns b m := fun {b m} ⟨o, es, ep, e, d, r⟩ => ⟨o, es, ep, base_of e (noA e d), d, r⟩
  have nK : ∀ b o, K.lookup b = some o → H b = none := fun b o e => by
    cases q : H b with
    | none => rfl
    | some u =>
      rw [hK b u q] at e
      cases e
  have hKb : K.In (hidT s₁.heap H) := fun b o e => base_of (KX b o e) (nK b o e)
  have hM : Mod K mg (hidT s₁.heap H) := ⟨hKb, nsK hns, ⟨mb, nsK hb, hbb⟩, let ⟨mc, h1, h2⟩ := hlim; ⟨mc, nsK h1, h2⟩⟩
  have e0 : Env0 P w K mg (hidT s₁.heap H) callerA [] s₁ H := ⟨rfl, hM, fun b o e => of_hidT e, Nat.le_of_eq (hidT_size _ _), trivial, fun b hb => absurd (show b ∈ ([] : List Addr) from hb) (by simp), hok, .of_eq hg⟩
  have hl : vals.length = ps.length := by rw [wellAll_len hwl]; exact hlen
  refine codeAny_mono ((F _ hKb (nsK hns)).run callerA [] s₁ H ⟨vals, []⟩ vals (vals.map toV) _ _ hr e0 (hbind s₁ vals hl) hV (hsp H _ hO hS)) fun r s' x => ?_
  cases r with
  | error e => exact (hCX H e s' x).elim
  | ok fl =>
    cases fl with
    | next => exact False.elim x
    | brk => exact False.elim x
    | cont => exact False.elim x
    | ret u =>
      obtain ⟨v, H', os, bare, un, hok', r', q⟩ := x
      have kept : ∀ b o, s₁.heap.get? b = some o → s'.heap.get? b = some o := fun b o e => by
        cases q2 : H b with
        | none => exact un.keep b o e q2 (by intro z; exact absurd (show b ∈ ([] : List Addr) from z) (by simp)) (by simp)
        | some u2 =>
          rcases hO b with z | ⟨ob, u3, z⟩
          · rw [q2] at z
            cases z
          · have z2 := un.frzs b ob _ z
            obtain ⟨e1, _⟩ := hok b _ z
            obtain ⟨e2, _⟩ := hok' b _ z2
            rw [e] at e1
            cases e1
            exact e2
      have KX' : K.In s'.heap := fun b o e => kept b o (KX b o e)
      obtain ⟨as, hrd⟩ := Dw.reads (R := R) (cl := cl) hok' KX' d0 v u q r'
      exact ⟨u, as, rfl, hrd, OldK.of_keep kept, os, bare⟩
/-! ### the row -/
theorem layable_weight {ds : List WData} (h : WData.layableAll ds = true) : ∀ d ∈ ds, d.weight ≤ 1048576 := fun d hd =>
  (PySem.W.layableW_iff.mp (List.all_eq_true.mp h d hd)).2.2
theorem encAll_len : ∀ (cs : List Codec) (a : Codec.denoteAll cs), (Codec.encAll cs a).length = cs.length
  | [], _ => rfl
  | c :: cs, a => by
    show (Codec.encAll cs a.2).length + 1 = cs.length + 1
    rw [encAll_len cs a.2]
/-- the goal that k_headS leaves (case hc), from the promise of the row's def: whatever the arguments that the codecs let and the row asks for, the def gives what stands for enc (f ..) -/
theorem walk_spec {r : OpenSpec} {k : Nat} {q : Program} {loose : List Str} {XP : (Str → Option Value) → Heap → Prop} {YP : World → Heap → Prop} {d : DefRec} {K : Params → PySem.W.Frag} {CX : World → CXT} {ps : List Str} {sp : World → Sp}
    (hwell : r.wellSaid = true) (hdf : d.params.defaults = []) (hlen : r.args.length = ps.length) (hr : Room k callerA)
    (hY : ∀ (w : World) (h : Heap), YP w h → (K w.params).In h)
    (F : ∀ (w : World) (mg : Str → Option Value) (fa : Addr) (h : Heap), YP w h → (K w.params).In h → h.Ns mainGlobals mg → mg d.name = some (.ref fa) →
      ∃ fd : FuncData, (∀ (s : Shared) (us : List Value), us.length = ps.length → BindsTo s fd ⟨us, []⟩ (ps.zip us)) ∧
        ∀ base : Heap, (K w.params).In base → base.Ns mainGlobals mg → FnOk r.prog w (K w.params) mg base (CX w) k fa fd ps (sp w))
    (hsp : ∀ (w : World) (H : Hp) (xs : List V) (a : Codec.denoteAll r.args), OnlyF H → Codec.withinAll r.args a = true → Codec.app r.args r.asked a = true → DwAll (K w.params) H xs (Codec.encAll r.args a) →
      sp w xs H (fun v H' => Dw (K w.params) H' v (r.ret.enc (Codec.app r.args r.f a))) fun _ _ _ => False)
    (hCX : ∀ (w : World) (H : Hp) (s : Shared) (e : Value) (s' : Shared), CX w [] H s (fun _ _ _ => False) e s' → False) :
    PySem.W.WalkOS q loose XP YP r d [] (fun f vs => PySem.call f vs) := by
  intro w s_0 s₁ mg mb G Y fa o pm cd doc dV kV ho hd hcd hD hmg hg args vals as hpre hlay hrd hwl hlo
  obtain ⟨a, e1, e2⟩ := PySem.W.os_pre_some hpre
  obtain ⟨e3, hwi⟩ := Codec.encAll_of_decAll r.args args a e1
  subst e3
  have KX := hY w _ Y
  obtain ⟨fd, hb, hF⟩ := F w mg fa _ Y KX G.T.g hmg
  refine PySem.W.enter_call (codeAny_mono (spec_call (R := []) (cl := classAt s_0.heap) (d0 := r.ret.enc (Codec.app r.args r.f a)) KX G.T.g G.T.b G.T.builtins G.T.nolimit hg hwl (pl_encAll _ _) (layable_weight hlay) hr hF hb (by rw [encAll_len]; exact hlen)
    (fun H xs hO hS => hsp w H xs a hO hwi e2 hS) fun H e s' => hCX w H s₁ e s') fun r' s' hq => ?_)
  obtain ⟨u, as', rfl, h1, h2, h3, h4⟩ := hq
  exact ⟨.inl ⟨u, _, as', rfl, fun _ => rfl, h1, (OpenSpec.post_iff hwell hwi _ _).mpr rfl, fun z => Bool.noConfusion (show false = true from z)⟩, h2, h3, h4⟩
/-- the same where the promise hangs on the written part alone -/
theorem walk_specK {r : OpenSpec} {k : Nat} {q : Program} {loose : List Str} {XP : (Str → Option Value) → Heap → Prop} {YP : World → Heap → Prop} {d : DefRec} {K : Params → PySem.W.Frag} {CX : CXT} {ps : List Str} {sp : PySem.W.Frag → Sp}
    (hwell : r.wellSaid = true) (hdf : d.params.defaults = []) (hlen : r.args.length = ps.length) (hr : Room k callerA)
    (hY : ∀ (w : World) (h : Heap), YP w h → (K w.params).In h)
    (F : ∀ (w : World) (mg : Str → Option Value) (fa : Addr) (h : Heap), YP w h → (K w.params).In h → h.Ns mainGlobals mg → mg d.name = some (.ref fa) →
      ∃ fd : FuncData, (∀ (s : Shared) (us : List Value), us.length = ps.length → BindsTo s fd ⟨us, []⟩ (ps.zip us)) ∧
        ∀ base : Heap, (K w.params).In base → base.Ns mainGlobals mg → FnOk r.prog w (K w.params) mg base CX k fa fd ps (sp (K w.params)))
    (hsp : ∀ (K : PySem.W.Frag) (H : Hp) (xs : List V) (a : Codec.denoteAll r.args), OnlyF H → Codec.withinAll r.args a = true → Codec.app r.args r.asked a = true → DwAll K H xs (Codec.encAll r.args a) →
      sp K xs H (fun v H' => Dw K H' v (r.ret.enc (Codec.app r.args r.f a))) fun _ _ _ => False)
    (hCX : ∀ (H : Hp) (s : Shared) (e : Value) (s' : Shared), CX [] H s (fun _ _ _ => False) e s' → False) :
    PySem.W.WalkOS q loose XP YP r d [] (fun f vs => PySem.call f vs) :=
  walk_spec (K := K) (CX := fun _ => CX) (sp := fun w => sp (K w.params)) hwell hdf hlen hr hY F (fun w H xs a h1 h2 h3 h4 => hsp (K w.params) H xs a h1 h2 h3 h4) fun _ H s e s' => hCX H s e s'
end L2
-- rests on (row put in by the clerk, for the bench that shows a file only what it spells): KE.SpHead KE.OsShapes
end

set_option Elab.async false
namespace Wr
/-! ### memory as a list -/
@[irreducible] def memI (f : Nat → Nat) : List Int := (List.range 65536).map fun i => ((f i : Nat) : Int)
theorem memI_length (f : Nat → Nat) : (memI f).length = 65536 := by
  unfold memI
  rw [List.length_map, List.length_range]
theorem memI_get {f : Nat → Nat} {i : Nat} (h : i < 65536) : (memI f)[i]? = some ((f i : Nat) : Int) := by
  unfold memI
  rw [List.getElem?_map, List.getElem?_range h]
  rfl
theorem memI_get_none {f : Nat → Nat} {i : Nat} (h : 65536 ≤ i) : (memI f)[i]? = none := by
  rw [List.getElem?_eq_none_iff, memI_length]
  exact h
theorem memI_ext {f g : Nat → Nat} (h : ∀ i, i < 65536 → f i = g i) : memI f = memI g := by
  apply List.ext_getElem?
  intro i
  by_cases hi : i < 65536
  · rw [memI_get hi, memI_get hi, h i hi]
  · rw [memI_get_none (by omega), memI_get_none (by omega)]
theorem memI_set {f : Nat → Nat} {j x : Nat} : (memI f).set j ((x : Nat) : Int) = memI (fun i => if i = j then x else f i) := by
  apply List.ext_getElem?
  intro i
  rw [List.getElem?_set, memI_length]
  by_cases hi : i < 65536
  · rw [memI_get hi, memI_get hi]
    by_cases e : j = i
    · subst e
      rw [if_pos rfl, if_pos hi, if_pos rfl]
    · rw [if_neg e, if_neg (fun q => e q.symm)]
  · rw [memI_get_none (by omega), memI_get_none (by omega)]
    by_cases e : j = i
    · subst e
      rw [if_pos rfl, if_neg hi]
    · rw [if_neg e]
theorem memI_zero : List.replicate 65536 (0 : Int) = memI fun _ => 0 := by
  apply List.ext_getElem?
  intro i
  rw [List.getElem?_replicate]
  by_cases hi : i < 65536
  · rw [if_pos hi, memI_get hi]
    rfl
  · rw [if_neg hi, memI_get_none (by omega)]
theorem memI_cut {f : Nat → Nat} {a n : Nat} (h : a + n ≤ 65536) : ((memI f).drop a).take n = (List.range n).map fun i => ((f (a + i) : Nat) : Int) := by
  apply List.ext_getElem?
  intro i
  rw [List.getElem?_take, List.getElem?_map]
  by_cases hi : i < n
  · rw [if_pos hi, List.getElem?_drop, memI_get (by omega), List.getElem?_range hi]
    rfl
  · rw [if_neg hi, List.getElem?_eq_none_iff.mpr (by rw [List.length_range]; omega)]
    rfl

theorem drop_get {l : List Int} {i : Nat} {x : Int} {t : List Int} (h : l.drop i = x :: t) : l[i]? = some x ∧ l.drop (i + 1) = t := by
  have h1 : (l.drop i)[0]? = some x := by rw [h]; rfl
  rw [List.getElem?_drop] at h1
  refine ⟨h1, ?_⟩
  rw [← List.drop_drop, h]
  rfl
/-! ### the calls, one by one -/
/-- what is left of the list holds just the calls cs -/
def Rest (l : List Int) (cs : List (List (List Int))) : Prop := ∃ f, PyFlat.calls PySz20.shape f l = some cs
theorem Rest.nil {cs : List (List (List Int))} (h : Rest [] cs) : cs = [] := by
  obtain ⟨f, e⟩ := h
  cases f <;> exact (Option.some.inj e).symm
theorem Rest.cons {p : Int} {r : List Int} {cs : List (List (List Int))} (h : Rest (p :: r) cs) : ∃ c t cs', PyFlat.call PySz20.shape (p :: r) = some (c, t) ∧ cs = c :: cs' ∧ Rest t cs' := by
  obtain ⟨f, e⟩ := h
  cases f with
  | zero => cases e
  | succ f =>
    unfold PyFlat.calls at e
    cases q : PyFlat.call PySz20.shape (p :: r) with
    | none => rw [q] at e; cases e
    | some ct =>
      obtain ⟨c, t⟩ := ct
      rw [q] at e
      dsimp only at e
      cases q2 : PyFlat.calls PySz20.shape f t with
      | none => rw [q2] at e; cases e
      | some cs' =>
        rw [q2] at e
        exact ⟨c, t, cs', rfl, (Option.some.inj e).symm, f, q2⟩
/-- one call, by its number -/
inductive One : List Int → List (List Int) → List Int → Prop
  | clear (t : List Int) : One (1 :: t) [[1]] t
  | load (a : Int) (x t : List Int) : One (2 :: a :: (x.length : Int) :: (x ++ t)) [[2, a], x] t
  | look (a b : Int) (t : List Int) : One (3 :: a :: b :: t) [[3, a, b]] t
  | set (a b : Int) (t : List Int) : One (4 :: a :: b :: t) [[4, a, b]] t
  | get (a : Int) (t : List Int) : One (5 :: a :: t) [[5, a]] t
  | run (a : Int) (t : List Int) : One (6 :: a :: t) [[6, a]] t
  | interrupt (a : Int) (t : List Int) : One (7 :: a :: t) [[7, a]] t
theorem one_of {l : List Int} {c : List (List Int)} {t : List Int} (h : PyFlat.call PySz20.shape l = some (c, t)) : One l c t := by
  cases l with
  | nil => cases h
  | cons p r =>
    unfold PyFlat.call at h
    dsimp only at h
    by_cases h1 : p = 1
    · subst h1
      rw [show PySz20.shape 1 = some (0, 0) by decide] at h
      dsimp only [PyFlat.rows] at h
      rw [if_neg (by omega)] at h
      simp only [List.take_zero, List.drop_zero, Option.some.injEq, Prod.mk.injEq] at h
      obtain ⟨rfl, rfl⟩ := h
      exact .clear _
    by_cases h2 : p = 2
    · subst h2
      rw [show PySz20.shape 2 = some (1, 1) by decide] at h
      match r with
      | [] => simp at h
      | a :: r =>
        simp only [List.length_cons, List.drop_succ_cons, List.drop_zero, List.take_succ_cons, List.take_zero, PyFlat.rows] at h
        rw [if_neg (by omega)] at h
        cases r with
        | nil => simp [PyFlat.row] at h
        | cons n r =>
          unfold PyFlat.row at h
          dsimp only at h
          by_cases hn : 0 ≤ n ∧ n.toNat ≤ r.length
          · rw [if_pos hn] at h
            simp only [Option.some.injEq, Prod.mk.injEq] at h
            obtain ⟨rfl, rfl⟩ := h
            have e : One (2 :: a :: ((r.take n.toNat).length : Int) :: (r.take n.toNat ++ r.drop n.toNat)) [[2, a], r.take n.toNat] (r.drop n.toNat) := .load _ _ _
            rw [List.take_append_drop, List.length_take, Nat.min_eq_left hn.2] at e
            rw [show ((n.toNat : Nat) : Int) = n by omega] at e
            exact e
          · rw [if_neg hn] at h
            simp at h
    by_cases h3 : p = 3
    · subst h3
      rw [show PySz20.shape 3 = some (2, 0) by decide] at h
      match r with
      | [] => simp at h
      | [_] => simp at h
      | a :: b :: t' =>
        dsimp only [PyFlat.rows] at h
        rw [if_neg (by simp only [List.length_cons]; omega)] at h
        simp only [List.drop_succ_cons, List.drop_zero, List.take_succ_cons, List.take_zero, Option.some.injEq, Prod.mk.injEq] at h
        obtain ⟨rfl, rfl⟩ := h
        exact .look _ _ _
    by_cases h4 : p = 4
    · subst h4
      rw [show PySz20.shape 4 = some (2, 0) by decide] at h
      match r with
      | [] => simp at h
      | [_] => simp at h
      | a :: b :: t' =>
        dsimp only [PyFlat.rows] at h
        rw [if_neg (by simp only [List.length_cons]; omega)] at h
        simp only [List.drop_succ_cons, List.drop_zero, List.take_succ_cons, List.take_zero, Option.some.injEq, Prod.mk.injEq] at h
        obtain ⟨rfl, rfl⟩ := h
        exact .set _ _ _
    by_cases h5 : p = 5
    · subst h5
      rw [show PySz20.shape 5 = some (1, 0) by decide] at h
      match r with
      | [] => simp at h
      | a :: t' =>
        dsimp only [PyFlat.rows] at h
        rw [if_neg (by simp only [List.length_cons]; omega)] at h
        simp only [List.drop_succ_cons, List.drop_zero, List.take_succ_cons, List.take_zero, Option.some.injEq, Prod.mk.injEq] at h
        obtain ⟨rfl, rfl⟩ := h
        exact .get _ _
    by_cases h6 : p = 6
    · subst h6
      rw [show PySz20.shape 6 = some (1, 0) by decide] at h
      match r with
      | [] => simp at h
      | a :: t' =>
        dsimp only [PyFlat.rows] at h
        rw [if_neg (by simp only [List.length_cons]; omega)] at h
        simp only [List.drop_succ_cons, List.drop_zero, List.take_succ_cons, List.take_zero, Option.some.injEq, Prod.mk.injEq] at h
        obtain ⟨rfl, rfl⟩ := h
        exact .run _ _
    by_cases h7 : p = 7
    · subst h7
      rw [show PySz20.shape 7 = some (1, 0) by decide] at h
      match r with
      | [] => simp at h
      | a :: t' =>
        dsimp only [PyFlat.rows] at h
        rw [if_neg (by simp only [List.length_cons]; omega)] at h
        simp only [List.drop_succ_cons, List.drop_zero, List.take_succ_cons, List.take_zero, Option.some.injEq, Prod.mk.injEq] at h
        obtain ⟨rfl, rfl⟩ := h
        exact .interrupt _ _
    rw [show PySz20.shape p = none by unfold PySz20.shape; rw [if_neg h1, if_neg h2, if_neg h3, if_neg h4, if_neg h5, if_neg h6, if_neg h7]] at h
    simp at h
/-! ### what is due, call by call -/
/-- the document's step on a call as it is handed in -/
def stepW (s : Sz20.St) (c : List (List Int)) : Sz20.St × List Int := Sz20Neutral.step s (PySz20.whole c)
def due (s : Sz20.St) (cs : List (List (List Int))) : List Int := PyFlat.told (PyFlat.played Sz20Neutral.step s (cs.map PySz20.whole))
theorem due_nil (s : Sz20.St) : due s [] = [] := rfl
theorem due_cons (s : Sz20.St) (c : List (List Int)) (cs : List (List (List Int))) : due s (c :: cs) = ((stepW s c).2.length : Int) :: (stepW s c).2 ++ due (stepW s c).1 cs := rfl
/-- what is asked of each call, as it is handed in -/
def okW (c : List (List Int)) : Bool := Sz20Neutral.asked1 (PySz20.whole c)
theorem asked_of {l : List Int} (h : PySz20.answers_asked l = true) : ∃ cs, Rest l cs ∧ cs.length ≤ 400 ∧ (∀ c ∈ cs, okW c = true) ∧ PySz20.answers l = due Sz20.blank cs ∧ cs.head?.map PySz20.whole = some [[1]] := by
  unfold PySz20.answers_asked at h
  unfold PySz20.answers
  unfold PySz20.calls at h ⊢
  cases e : PyFlat.calls PySz20.shape l.length l with
  | none => rw [e] at h; cases h
  | some cs =>
    rw [e] at h
    dsimp only at h ⊢
    rw [Bool.and_eq_true] at h
    obtain ⟨h1, h2⟩ := h
    unfold PyFlat.atMost at h1
    have h1 := of_decide_eq_true h1
    rw [List.length_map] at h1
    unfold Sz20Neutral.asked at h2
    rw [Bool.and_eq_true, Bool.and_eq_true] at h2
    obtain ⟨⟨h3, _⟩, h4⟩ := h2
    refine ⟨cs, ⟨_, e⟩, h1, fun c hc => ?_, rfl, ?_⟩
    · have := List.all_eq_true.mp h3 (PySz20.whole c) (List.mem_map.mpr ⟨c, hc, rfl⟩)
      exact this
    · cases cs with
      | nil => cases h4
      | cons c cs =>
        have h5 : (PySz20.whole c == [[1]]) = true := h4
        have h6 := eq_of_beq h5
        show some (PySz20.whole c) = some [[1]]
        rw [h6]
end Wr

set_option Elab.async false
namespace Wr
section
open Sz20
/-! ### what holds of every state -/
structure Good (s : St) : Prop where
  len : s.r.length = 16
  r0 : s.reg 0 % 2 = 0
  r1 : s.reg 1 % 2 = 0
  r2 : s.reg 2 < 512
  r3 : s.reg 3 = 0
  rk : ∀ k, s.reg k < 65536
  mem : ∀ i, s.mem i < 256
theorem getD_set {l : List Nat} {k j x : Nat} : (l.set k x).getD j 0 = if j = k ∧ k < l.length then x else l.getD j 0 := by
  rw [List.getD_eq_getElem?_getD, List.getElem?_set, List.getD_eq_getElem?_getD]
  by_cases e : k = j
  · subst e
    by_cases h : k < l.length
    · rw [if_pos rfl, if_pos h, if_pos ⟨rfl, h⟩]
      rfl
    · rw [if_pos rfl, if_neg h, if_neg (fun q => h q.2), List.getElem?_eq_none_iff.mpr (by omega)]
  · rw [if_neg e, if_neg (fun q => e q.1.symm)]
/-- what a register keeps of a number -/
def kept (k x : Nat) : Nat := if k < 2 then w16 x / 2 * 2 else if k = 2 then x % 512 else if k = 3 then 0 else w16 x
theorem setReg_def (m : St) (k x : Nat) : m.setReg k x = { m with r := m.r.set k (kept k x) } := rfl
theorem reg_setReg {m : St} {k j x : Nat} : (m.setReg k x).reg j = if j = k ∧ k < m.r.length then kept k x else m.reg j := by
  show (m.r.set k (kept k x)).getD j 0 = _
  rw [getD_set]
  rfl
theorem mem_setReg {m : St} {k x : Nat} : (m.setReg k x).mem = m.mem := rfl
theorem len_setReg {m : St} {k x : Nat} : (m.setReg k x).r.length = m.r.length := by
  show (m.r.set k _).length = _
  rw [List.length_set]
theorem kept_lt (k x : Nat) : kept k x < 65536 := by
  unfold kept w16
  split
  · omega
  · split
    · omega
    · split <;> omega
theorem Good.setReg {m : St} (g : Good m) (k x : Nat) : Good (m.setReg k x) := by
  refine ⟨by rw [len_setReg]; exact g.len, ?_, ?_, ?_, ?_, fun j => ?_, g.mem⟩
  · rw [reg_setReg]
    split
    · rename_i h
      rw [← h.1]
      unfold kept
      rw [if_pos (by omega)]
      omega
    · exact g.r0
  · rw [reg_setReg]
    split
    · rename_i h
      rw [← h.1]
      unfold kept
      rw [if_pos (by omega)]
      omega
    · exact g.r1
  · rw [reg_setReg]
    split
    · rename_i h
      rw [← h.1]
      unfold kept
      rw [if_neg (by omega), if_pos rfl]
      omega
    · exact g.r2
  · rw [reg_setReg]
    split
    · rename_i h
      rw [← h.1]
      rfl
    · exact g.r3
  · rw [reg_setReg]
    split
    · exact kept_lt _ _
    · exact g.rk j
theorem reg_putByte {m : St} {a x k : Nat} : (m.putByte a x).reg k = m.reg k := rfl
theorem r_putByte {m : St} {a x : Nat} : (m.putByte a x).r = m.r := rfl
theorem Good.putByte {m : St} (g : Good m) (a x : Nat) : Good (m.putByte a x) := by
  refine ⟨g.len, g.r0, g.r1, g.r2, g.r3, g.rk, fun i => ?_⟩
  show (if i = w16 a then x % 256 else m.mem i) < 256
  split
  · omega
  · exact g.mem i
theorem Good.putWord {m : St} (g : Good m) (a x : Nat) : Good (m.putWord a x) := (g.putByte _ _).putByte _ _
theorem Good.byte {m : St} (g : Good m) (a : Nat) : m.byte a < 256 := g.mem _
theorem Good.word {m : St} (g : Good m) (a : Nat) : m.word a < 65536 := by
  have h1 := g.byte (w16 a / 2 * 2)
  have h2 := g.byte (w16 a / 2 * 2 + 1)
  show m.byte (w16 a / 2 * 2) + 256 * m.byte (w16 a / 2 * 2 + 1) < 65536
  omega
theorem Good.fetch {m : St} (g : Good m) : Good m.fetch.1 := g.setReg _ _
theorem Good.push {m : St} (g : Good m) (x : Nat) : Good (m.push x) := (g.setReg _ _).putWord _ _
theorem Good.pull {m : St} (g : Good m) : Good m.pull.1 := g.setReg _ _
theorem Good.flags {m : St} (g : Good m) (c z n v : Bool) : Good (m.flags c z n v) := g.setReg _ _
theorem Good.source {m : St} (g : Good m) (k way : Nat) (b : Bool) : Good (source m k way b).1 := by
  unfold Sz20.source
  dsimp only
  split
  · exact g
  · split
    · exact g
    · split
      · exact g
      · exact g.fetch
      · exact g
      · exact g.setReg _ _
theorem Good.second {m : St} (g : Good m) (k way : Nat) : Good (second m k way).1 := by
  unfold Sz20.second
  split
  · exact g
  · exact g.fetch
theorem Good.store {m : St} (g : Good m) (p : Place) (b : Bool) (x : Nat) : Good (store m p b x) := by
  unfold Sz20.store
  split
  · exact g.setReg _ _
  · split
    · exact g.putByte _ _
    · exact g.putWord _ _
  · exact g
theorem Good.two {m : St} (g : Good m) (op : Nat) (b : Bool) (s d : Nat) : Good (two m op b s d).1 := by
  unfold Sz20.two
  dsimp only
  split <;> first | exact g | exact g.flags _ _ _ _
theorem Good.one {m : St} (g : Good m) (op : Nat) (b : Bool) (p : Place) : Good (one m op b p) := by
  unfold Sz20.one
  dsimp only
  split
  · exact (g.flags _ _ _ _).store _ _ _
  · exact g.store _ _ _
  · exact (g.flags _ _ _ _).store _ _ _
  · exact (g.flags _ _ _ _).store _ _ _
  · split
    · exact (g.setReg _ _).putByte _ _
    · exact (g.setReg _ _).putWord _ _
  · exact (g.push _).setReg _ _
theorem Good.step {m n : St} (g : Good m) (h : step m = some n) : Good n := by
  unfold Sz20.step at h
  dsimp only at h
  split at h
  · have h := Option.some.inj h
    rw [← h]
    split
    · split
      · exact (((g.fetch).source _ _ _).second _ _).store _ _ _
      · exact ((((g.fetch).source _ _ _).second _ _).two _ _ _ _).store _ _ _
    · exact (((g.fetch).source _ _ _).second _ _).two _ _ _ _
  · split at h
    · have h := Option.some.inj h
      rw [← h]
      split
      · exact g.fetch.setReg _ _
      · exact g.fetch
    · split at h
      · split at h
        · have h := Option.some.inj h
          rw [← h]
          exact ((g.fetch.pull.setReg _ _).pull).setReg _ _
        · split at h
          · cases h
          · have h := Option.some.inj h
            rw [← h]
            exact (g.fetch.source _ _ _).one _ _ _
      · cases h
theorem Good.steps : ∀ (k : Nat) {m : St}, Good m → Good (steps k m).1
  | 0, _, g => g
  | k + 1, m, g => by
    unfold Sz20.steps
    split
    · exact g
    · split
      · rename_i n e
        exact Good.steps k (g.step e)
      · exact g
theorem steps_le : ∀ (k : Nat) (m : St), (steps k m).2 ≤ k
  | 0, _ => Nat.le_refl _
  | k + 1, m => by
    unfold Sz20.steps
    split
    · exact Nat.zero_le _
    · split
      · rename_i n e
        exact Nat.succ_le_succ (steps_le k n)
      · exact Nat.zero_le _
theorem good_blank : Good blank := by
  refine ⟨rfl, rfl, rfl, by decide, rfl, fun k => ?_, fun _ => (by decide : 0 < 256)⟩
  show (List.replicate 16 0).getD k 0 < 65536
  rw [List.getD_eq_getElem?_getD, List.getElem?_replicate]
  split <;> decide
theorem Good.putAll : ∀ (l : List UInt8) {m : St} (a : Nat), Good m → Good (putAll m a l)
  | [], _, _, g => g
  | b :: r, m, a, g => Good.putAll r (a + 1) (g.putByte a b.toNat)
theorem Good.does {m : St} (g : Good m) (c : Call) : Good (does m c).1 := by
  unfold Sz20.does
  split
  · exact good_blank
  · split
    · exact g
    · exact Good.putAll _ _ g
  · split <;> exact g
  · split
    · exact g
    · exact g.setReg _ _
  · split <;> exact g
  · split
    · exact g
    · exact Good.steps _ g
  · split
    · exact g
    · split
      · exact g
      · exact (((g.push _).push _).setReg _ _).setReg _ _
theorem Good.stepW {m : St} (g : Good m) (c : List (List Int)) : Good (stepW m c).1 := by
  unfold Wr.stepW Sz20Neutral.step
  split
  · exact g.does _
  · exact g
/-- no answer is long -/
theorem short_stepW {m : St} {c : List (List Int)} (h : okW c = true) : (stepW m c).2.length ≤ 2001 := by
  unfold Wr.stepW Sz20Neutral.step
  unfold okW at h
  generalize PySz20.whole c = d at h ⊢
  cases e : Sz20Neutral.callTo d with
  | none => exact Nat.zero_le _
  | some x =>
    show ((does m x).2.value :: (does m x).2.bytes.map fun (b : UInt8) => (b.toNat : Int)).length ≤ 2001
    rw [List.length_cons, List.length_map]
    have key : (does m x).2.bytes.length ≤ 2000 := by
      unfold Sz20Neutral.callTo at e
      split at e
      all_goals first | cases e | (have e := Option.some.inj e; subst e)
      all_goals unfold Sz20.does
      all_goals dsimp only
      · exact Nat.zero_le _
      · split <;> exact Nat.zero_le _
      · rename_i a b
        split
        · exact Nat.zero_le _
        · rename_i hn
          show ((List.range b.toNat).map _).length ≤ 2000
          rw [List.length_map, List.length_range]
          have h : (Sz20Neutral.whole32 a && (Sz20Neutral.whole32 b && (decide (b ≤ 2000) || decide (65536 < b)))) = true := h
          simp only [Bool.and_eq_true, Bool.or_eq_true, decide_eq_true_eq] at h
          omega
      · split <;> exact Nat.zero_le _
      · split <;> exact Nat.zero_le _
      · split <;> exact Nat.zero_le _
      · split
        · exact Nat.zero_le _
        · split <;> exact Nat.zero_le _
    omega
theorem step_load (s : St) (x : Int) (y : List Int) : Wr.stepW s [[2, x], y] = ((Sz20.does s (.load x (Sz20Neutral.octets y) y.length)).1, [(Sz20.does s (.load x (Sz20Neutral.octets y) y.length)).2.value]) := by
  show ((Sz20.does s (.load x (Sz20Neutral.octets y) y.length)).1, (Sz20.does s (.load x (Sz20Neutral.octets y) y.length)).2.value :: (Sz20.does s (.load x (Sz20Neutral.octets y) y.length)).2.bytes.map fun (b : UInt8) => (b.toNat : Int)) = _
  rw [show (Sz20.does s (.load x (Sz20Neutral.octets y) y.length)).2.bytes = [] by
    unfold Sz20.does
    dsimp only
    split <;> rfl]
  rfl
theorem step_look (s : St) (g : Good s) (x n : Int) : Wr.stepW s [[3, x, n]] = (s, if n < 0 ∨ x < 0 ∨ 65536 < x + n then [-1] else 0 :: (List.range n.toNat).map fun i => ((s.mem (x.toNat + i) : Nat) : Int)) := by
  show ((Sz20.does s (.look x n)).1, (Sz20.does s (.look x n)).2.value :: (Sz20.does s (.look x n)).2.bytes.map fun (b : UInt8) => (b.toNat : Int)) = _
  unfold Sz20.does
  dsimp only
  split
  · rfl
  · dsimp only
    rw [List.map_map]
    refine congrArg (fun z => (s, (0 : Int) :: z)) (List.map_congr_left fun i hi => ?_)
    have hi : i < n.toNat := List.mem_range.mp hi
    show (((UInt8.ofNat (s.byte (x.toNat + i))).toNat : Nat) : Int) = _
    rw [UInt8.toNat_ofNat', Nat.mod_eq_of_lt (g.byte _)]
    show ((s.mem ((x.toNat + i) % 65536) : Nat) : Int) = _
    rw [Nat.mod_eq_of_lt (by omega)]
theorem step_set (s : St) (k x : Int) : Wr.stepW s [[4, k, x]] = if 0 ≤ k ∧ k < 16 ∧ k ≠ 3 then (s.setReg k.toNat (x % 65536).toNat, [0]) else (s, [-1]) := by
  show ((Sz20.does s (.set k x)).1, (Sz20.does s (.set k x)).2.value :: (Sz20.does s (.set k x)).2.bytes.map fun (b : UInt8) => (b.toNat : Int)) = _
  unfold Sz20.does
  dsimp only
  by_cases h : 0 ≤ k ∧ k < 16 ∧ k ≠ 3
  · rw [if_neg (by omega), if_pos h]
    rfl
  · rw [if_pos (by omega), if_neg h]
    rfl
theorem step_get (s : St) (k : Int) : Wr.stepW s [[5, k]] = (s, if 0 ≤ k ∧ k < 16 ∧ k ≠ 3 then [((s.reg k.toNat : Nat) : Int)] else [-1]) := by
  show ((Sz20.does s (.get k)).1, (Sz20.does s (.get k)).2.value :: (Sz20.does s (.get k)).2.bytes.map fun (b : UInt8) => (b.toNat : Int)) = _
  unfold Sz20.does
  dsimp only
  by_cases h : 0 ≤ k ∧ k < 16 ∧ k ≠ 3
  · rw [if_neg (by omega), if_pos h]
    rfl
  · rw [if_pos (by omega), if_neg h]
    rfl
theorem step_run (s : St) (n : Int) : Wr.stepW s [[6, n]] = if 0 ≤ n ∧ n ≤ 1000000 then ((Sz20.steps n.toNat s).1, [(((Sz20.steps n.toNat s).2 : Nat) : Int)]) else (s, [-1]) := by
  show ((Sz20.does s (.run n)).1, (Sz20.does s (.run n)).2.value :: (Sz20.does s (.run n)).2.bytes.map fun (b : UInt8) => (b.toNat : Int)) = _
  unfold Sz20.does
  dsimp only
  by_cases h : 0 ≤ n ∧ n ≤ 1000000
  · rw [if_neg (by omega), if_pos h]
    rfl
  · rw [if_pos (by omega), if_neg h]
    rfl
theorem step_interrupt (s : St) (v : Int) : Wr.stepW s [[7, v]] = if 65472 ≤ v ∧ v ≤ 65535 ∧ v % 2 = 0 then
    (if s.flag 3 = true then (((((s.push (s.reg 0)).push (s.reg 2)).setReg 2 0).setReg 0 (((s.push (s.reg 0)).push (s.reg 2)).word v.toNat)), [1]) else (s, [0])) else (s, [-1]) := by
  show ((Sz20.does s (.interrupt v)).1, (Sz20.does s (.interrupt v)).2.value :: (Sz20.does s (.interrupt v)).2.bytes.map fun (b : UInt8) => (b.toNat : Int)) = _
  unfold Sz20.does
  dsimp only
  by_cases h : 65472 ≤ v ∧ v ≤ 65535 ∧ v % 2 = 0
  · rw [if_neg (by omega), if_pos h]
    cases s.flag 3
    · rfl
    · rfl
  · rw [if_pos (by omega), if_neg h]
    rfl
/-- the steps, one more -/
theorem steps_succ (k : Nat) (m : St) : Sz20.steps (k + 1) m = if m.flag 4 = true then (m, 0) else match Sz20.step m with
    | some n => ((Sz20.steps k n).1, (Sz20.steps k n).2 + 1)
    | none => (m, 0) := by
  rfl
theorem putAll_snoc : ∀ (l : List UInt8) (m : St) (a : Nat) (b : UInt8), Sz20.putAll m a (l ++ [b]) = (Sz20.putAll m a l).putByte (a + l.length) b.toNat
  | [], m, a, b => rfl
  | c :: l, m, a, b => by
    show Sz20.putAll (m.putByte a c.toNat) (a + 1) (l ++ [b]) = (Sz20.putAll (m.putByte a c.toNat) (a + 1) l).putByte (a + (l.length + 1)) b.toNat
    rw [putAll_snoc l, show a + 1 + l.length = a + (l.length + 1) by omega]
theorem take_snoc {α : Type} : ∀ {l : List α} {i : Nat} {x : α}, l[i]? = some x → l.take (i + 1) = l.take i ++ [x]
  | [], i, x, h => by simp at h
  | a :: l, 0, x, h => by
    have e : a = x := Option.some.inj h
    subst e
    rfl
  | a :: l, i + 1, x, h => by
    have ih := take_snoc (l := l) (i := i) (x := x) h
    show a :: l.take (i + 1) = a :: l.take i ++ [x]
    rw [ih]
    rfl
end
end Wr

set_option Elab.async false
namespace Wr
section
open PySem PyProof.Rows
/-! ### bits -/
theorem land_compl {M n : Nat} (hM : M < 65536) (hn : n < 65536) : (M &&& n) + (M &&& (65535 - n)) = M := by
  have t : ∀ i, (65535 - n).testBit i = (decide (i < 16) && !n.testBit i) := fun i => by
    rw [show 65535 - n = 2 ^ 16 - (n + 1) by omega]
    exact Nat.testBit_two_pow_sub_succ (n := 16) (by omega) i
  have hi : ∀ i, ¬ i < 16 → M.testBit i = false := fun i h => Nat.testBit_lt_two_pow (Nat.lt_of_lt_of_le hM (by
    have : 2 ^ 16 ≤ 2 ^ i := Nat.pow_le_pow_right (by decide) (by omega)
    omega))
  have e1 : (M &&& n) ||| (M &&& (65535 - n)) = M := by
    apply Nat.eq_of_testBit_eq
    intro i
    rw [Nat.testBit_or, Nat.testBit_and, Nat.testBit_and, t]
    by_cases h : i < 16
    · cases M.testBit i <;> cases n.testBit i <;> simp [h]
    · rw [hi i h]
      rfl
  have e2 : (M &&& n) &&& (M &&& (65535 - n)) = 0 := by
    apply Nat.eq_of_testBit_eq
    intro i
    rw [Nat.testBit_and, Nat.testBit_and, Nat.testBit_and, t, Nat.zero_testBit]
    cases M.testBit i <;> cases n.testBit i <;> simp
  have := nat_or_add_and (M &&& n) (M &&& (65535 - n))
  omega
theorem land_mod {x M : Nat} (hM : M < 65536) : (x % 65536) &&& M = x &&& M := by
  apply Nat.eq_of_testBit_eq
  intro i
  rw [Nat.testBit_and, Nat.testBit_and, show 65536 = 2 ^ 16 by rfl, Nat.testBit_mod_two_pow]
  by_cases h : i < 16
  · simp [h]
  · rw [Nat.testBit_lt_two_pow (x := M) (Nat.lt_of_lt_of_le hM (by
      have : 2 ^ 16 ≤ 2 ^ i := Nat.pow_le_pow_right (by decide) (by omega)
      omega))]
    simp
/-- a mask of sixteen bits on any whole number -/
theorem bitAnd_16 (v : Int) {M : Nat} (hM : M < 65536) : Builtin.bitAnd v (M : Int) = (((v % 65536).toNat &&& M : Nat) : Int) := by
  by_cases hv : 0 ≤ v
  · rw [bitAnd_pp hv (by omega), Int.toNat_natCast, ← land_mod hM]
    rw [show v.toNat % 65536 = (v % 65536).toNat by omega]
  · rw [bitAnd_np hv (by omega), Int.toNat_natCast, Nat.and_comm, ← land_mod hM, Nat.and_comm]
    have h := land_compl (M := M) (n := (Builtin.bitNot v).toNat % 65536) hM (by omega)
    have e : 65535 - (Builtin.bitNot v).toNat % 65536 = (v % 65536).toNat := by
      unfold Builtin.bitNot
      omega
    rw [e, Nat.and_comm M (v % 65536).toNat] at h
    omega
theorem land_even {x : Nat} (h : x < 65536) : x &&& 65534 = x / 2 * 2 := by
  have h1 := land_compl (M := x) (n := 1) h (by decide)
  have h2 : x &&& 1 = x % 2 := Nat.and_two_pow_sub_one_eq_mod x 1
  have h3 : (65535 - 1 : Nat) = 65534 := rfl
  rw [h3, h2] at h1
  omega
end
end Wr

set_option Elab.async false
set_option linter.all false
namespace Wr
section
open PySem PyProof.Rows
/-! ### bits of natural numbers -/
theorem nand (x y : Nat) : Builtin.bitAnd (x : Int) (y : Int) = ((x &&& y : Nat) : Int) := by
  rw [bitAnd_pp (by omega) (by omega), Int.toNat_natCast, Int.toNat_natCast]
theorem nor (x y : Nat) : Builtin.bitOr (x : Int) (y : Int) = ((x ||| y : Nat) : Int) := by
  have h : Builtin.bitAnd (Builtin.bitNot (x : Int)) (Builtin.bitNot (y : Int)) = Builtin.bitNot ((x ||| y : Nat) : Int) := by
    unfold Builtin.bitAnd
    have h1 : decide (0 ≤ Builtin.bitNot (x : Int)) = false := decide_eq_false (by unfold Builtin.bitNot; omega)
    have h2 : decide (0 ≤ Builtin.bitNot (y : Int)) = false := decide_eq_false (by unfold Builtin.bitNot; omega)
    rw [h1, h2]
    dsimp only
    have h3 : ∀ z : Nat, (Builtin.bitNot (Builtin.bitNot (z : Int))).toNat = z := fun z => by unfold Builtin.bitNot; omega
    rw [h3, h3]
  unfold Builtin.bitOr
  rw [h]
  unfold Builtin.bitNot
  omega
theorem nat_xor (x y : Nat) : (x ^^^ y) + (x &&& y) = (x ||| y) := by
  have e1 : (x ^^^ y) ||| (x &&& y) = x ||| y := by
    apply Nat.eq_of_testBit_eq
    intro i
    rw [Nat.testBit_or, Nat.testBit_and, Nat.testBit_xor, Nat.testBit_or]
    cases x.testBit i <;> cases y.testBit i <;> rfl
  have e2 : (x ^^^ y) &&& (x &&& y) = 0 := by
    apply Nat.eq_of_testBit_eq
    intro i
    rw [Nat.testBit_and, Nat.testBit_and, Nat.testBit_xor, Nat.zero_testBit]
    cases x.testBit i <;> cases y.testBit i <;> rfl
  have := nat_or_add_and (x ^^^ y) (x &&& y)
  omega
theorem nxor (x y : Nat) : Builtin.bitXor (x : Int) (y : Int) = ((x ^^^ y : Nat) : Int) := by
  unfold Builtin.bitXor
  rw [nand, nor]
  have := nat_xor x y
  omega
theorem and_pow (x i : Nat) : x &&& 2 ^ i = (x.testBit i).toNat * 2 ^ i := by
  apply Nat.eq_of_testBit_eq
  intro j
  rw [Nat.testBit_and, Nat.testBit_two_pow]
  by_cases h : i = j
  · subst h
    cases e : x.testBit i
    · simp
    · simp [Nat.testBit_two_pow]
  · cases e : x.testBit i
    · simp [h]
    · simp [h, Nat.testBit_two_pow]
theorem fl (x i : Nat) : Builtin.bitAnd (x : Int) ((2 ^ i : Nat) : Int) = (((x.testBit i).toNat * 2 ^ i : Nat) : Int) := by rw [nand, and_pow]
theorem fl1 (x : Nat) : Builtin.bitAnd (x : Int) 1 = (((x.testBit 0).toNat : Nat) : Int) := by
  have h := fl x 0
  rw [Nat.pow_zero, Nat.mul_one] at h
  exact h
theorem fl2 (x : Nat) : Builtin.bitAnd (x : Int) 2 = (((x.testBit 1).toNat * 2 : Nat) : Int) := fl x 1
theorem fl4 (x : Nat) : Builtin.bitAnd (x : Int) 4 = (((x.testBit 2).toNat * 4 : Nat) : Int) := fl x 2
theorem fl8 (x : Nat) : Builtin.bitAnd (x : Int) 8 = (((x.testBit 3).toNat * 8 : Nat) : Int) := fl x 3
theorem fl16 (x : Nat) : Builtin.bitAnd (x : Int) 16 = (((x.testBit 4).toNat * 16 : Nat) : Int) := fl x 4
theorem fl64 (x : Nat) : Builtin.bitAnd (x : Int) 64 = (((x.testBit 6).toNat * 64 : Nat) : Int) := fl x 6
theorem fl256 (x : Nat) : Builtin.bitAnd (x : Int) 256 = (((x.testBit 8).toNat * 256 : Nat) : Int) := fl x 8
theorem fl_ne {b : Bool} {n : Nat} (h : 0 < n) : (!decide ((((b.toNat * n : Nat)) : Int) = 0)) = b := by
  cases b
  · simp
  · simp only [Bool.toNat_true, Nat.one_mul]
    rw [decide_eq_false (by omega)]
    rfl
theorem fl_eq {b : Bool} {n : Nat} (h : 0 < n) : decide ((((b.toNat * n : Nat)) : Int) = 0) = !b := by
  have := fl_ne (b := b) h
  cases b <;> simp_all
theorem f248 {x : Nat} (h : x < 512) : Builtin.bitAnd (x : Int) 248 = ((x % 256 / 8 * 8 : Nat) : Int) := by
  have e := nand x 248
  rw [show x &&& 248 = x % 256 / 8 * 8 from (by decide +kernel : ∀ x, x < 512 → x &&& 248 = x % 256 / 8 * 8) x h] at e
  exact e
theorem even16 (x : Nat) : Builtin.bitAnd (x : Int) 65534 = ((x % 65536 / 2 * 2 : Nat) : Int) := by
  rw [show (65534 : Int) = ((65534 : Nat) : Int) by rfl, bitAnd_16 _ (by decide), land_even (by omega)]
  omega
theorem m1 (x : Nat) : Builtin.bitAnd (x : Int) 1 = ((x % 2 : Nat) : Int) := by rw [bitAnd_m1]; omega
theorem m3 (x : Nat) : Builtin.bitAnd (x : Int) 3 = ((x % 4 : Nat) : Int) := by rw [bitAnd_m2]; omega
theorem m7 (x : Nat) : Builtin.bitAnd (x : Int) 7 = ((x % 8 : Nat) : Int) := by rw [bitAnd_m3]; omega
theorem m15 (x : Nat) : Builtin.bitAnd (x : Int) 15 = ((x % 16 : Nat) : Int) := by rw [bitAnd_m4]; omega
theorem m255 (x : Nat) : Builtin.bitAnd (x : Int) 255 = ((x % 256 : Nat) : Int) := by rw [bitAnd_m8]; omega
theorem shr (x k : Nat) : (x : Int) / 2 ^ k = ((x / 2 ^ k : Nat) : Int) := by
  rw [show (2 : Int) ^ k = ((2 ^ k : Nat) : Int) by rw [Int.natCast_pow]; rfl]
  omega
end
/-! ### registers, memory -/
section
open Sz20
theorem kept_congr {k x y : Nat} (h : x % 65536 = y % 65536) : kept k x = kept k y := by
  unfold kept w16
  rw [h]
  split
  · rfl
  · split
    · omega
    · rfl
theorem setReg_congr {s : St} {k x y : Nat} (h : x % 65536 = y % 65536) : s.setReg k x = s.setReg k y := by
  rw [setReg_def, setReg_def, kept_congr h]
theorem setReg_int {s : St} {k x : Nat} {v : Int} (h : v % 65536 = (x : Int) % 65536) : s.setReg k (v % 65536).toNat = s.setReg k x := setReg_congr (by omega)
theorem setReg_twice {s : St} {k x y : Nat} : (s.setReg k x).setReg k y = s.setReg k y := by
  rw [setReg_def, setReg_def, setReg_def, List.set_set]
theorem setReg_own {s : St} (g : Good s) : s.setReg 2 (s.reg 2) = s := by
  have h : kept 2 (s.reg 2) = s.reg 2 := by
    unfold kept
    rw [if_neg (by decide), if_pos rfl]
    exact Nat.mod_eq_of_lt g.r2
  rw [setReg_def, h]
  have e : s.r.set 2 (s.reg 2) = s.r := by
    apply List.ext_getElem?
    intro i
    rw [List.getElem?_set]
    by_cases hi : 2 = i
    · subst hi
      rw [if_pos rfl, if_pos (by rw [g.len]; decide)]
      show some (s.r.getD 2 0) = _
      rw [List.getD_eq_getElem?_getD, List.getElem?_eq_getElem (by rw [g.len]; decide)]
      rfl
    · rw [if_neg hi]
  rw [e]
theorem putWord_congr {s : St} {a b x : Nat} (h : w16 a / 2 * 2 = w16 b / 2 * 2) : s.putWord a x = s.putWord b x := by
  unfold Sz20.St.putWord
  rw [h]
theorem push_eq {s : St} (g : Good s) (x : Nat) {y : Nat} (hy : y % 65536 = (s.reg 1 + 65534) % 65536) : (s.setReg 1 y).putWord ((s.setReg 1 y).reg 1) x = s.push x := by
  have h0 := g.r1
  unfold Sz20.St.push
  dsimp only
  rw [reg_setReg, if_pos ⟨rfl, by rw [g.len]; decide⟩, setReg_congr (y := w16 (s.reg 1 + 65534)) (by unfold w16; omega)]
  refine putWord_congr ?_
  unfold kept
  rw [if_pos (by decide)]
  unfold w16
  omega
theorem pushB_eq {s : St} (g : Good s) (x : Nat) {y : Nat} (hy : y % 65536 = (s.reg 1 + 65534) % 65536) : (s.setReg 1 y).putByte ((s.setReg 1 y).reg 1) x = (s.setReg 1 (w16 (s.reg 1 + 65534))).putByte (w16 (s.reg 1 + 65534)) x := by
  have h0 := g.r1
  rw [reg_setReg, if_pos ⟨rfl, by rw [g.len]; decide⟩, setReg_congr (y := w16 (s.reg 1 + 65534)) (by unfold w16; omega)]
  have e : kept 1 y = w16 (s.reg 1 + 65534) := by
    unfold kept
    rw [if_pos (by decide)]
    unfold w16
    omega
  rw [e]
/-! ### operands -/
theorem size_pos (b : Bool) : 0 < size b ∧ (size b = 256 ∨ size b = 65536) ∧ size b ≤ 65536 := by
  cases b <;> decide
def PlOk (b : Bool) : Place → Prop
  | .reg k => k < 16
  | .mem a => a < 65536
  | .number x => x < size b
theorem source_ok {s : St} (g : Good s) {k way : Nat} (hk : k < 16) (hw : way < 4) (b : Bool) : PlOk b (source s k way b).2 := by
  unfold Sz20.source
  dsimp only
  have := size_pos b
  split
  · show (if way = 3 then size b - 1 else way) < size b
    split <;> omega
  · split
    · show (if way = 2 then 4 else 8) < size b
      split <;> omega
    · split
      · exact hk
      · show w16 _ < 65536
        unfold w16
        omega
      · exact g.rk k
      · exact g.rk k
theorem second_ok {s : St} (g : Good s) {k way : Nat} (hk : k < 16) (b : Bool) : PlOk b (second s k way).2 := by
  unfold Sz20.second
  split
  · exact hk
  · show w16 _ < 65536
    unfold w16
    omega
theorem load_lt {s : St} (g : Good s) {b : Bool} {p : Place} (h : PlOk b p) : load s p b < size b := by
  cases p with
  | reg k =>
    have := g.rk k
    show (if b = true then s.reg k % 256 else s.reg k) < size b
    cases b
    · exact this
    · show s.reg k % 256 < 256
      omega
  | mem a =>
    show (if b = true then s.byte a else s.word a) < size b
    cases b
    · exact g.word a
    · exact g.byte a
  | number x => exact h
theorem load_reg {s : St} (g : Good s) (b : Bool) (k : Nat) : load s (.reg k) b = s.reg k % size b := by
  have := g.rk k
  cases b
  · show s.reg k = s.reg k % 65536
    omega
  · rfl
theorem source_3 (s : St) {k : Nat} (way : Nat) (b : Bool) (h : k = 3) : source s k way b = (s, .number (if way = 3 then size b - 1 else way)) := by
  unfold Sz20.source
  rw [if_pos h]
theorem source_2 (s : St) {k way : Nat} (b : Bool) (h : k = 2 ∧ 2 ≤ way) : source s k way b = (s, .number (if way = 2 then 4 else 8)) := by
  unfold Sz20.source
  rw [if_neg (by omega), if_pos h]
def srcW (s : St) (k way : Nat) (b : Bool) : St × Place := match way with
  | 0 => (s, .reg k)
  | 1 => (s.fetch.1, .mem (w16 ((if k = 2 then 0 else s.reg k) + s.fetch.2)))
  | 2 => (s, .mem (s.reg k))
  | _ => (s.setReg k (s.reg k + if b = true ∧ 2 ≤ k then 1 else 2), .mem (s.reg k))
theorem source_w {s : St} {k way : Nat} {b : Bool} (h : k ≠ 3) (h2 : ¬ (k = 2 ∧ 2 ≤ way)) : source s k way b = srcW s k way b := by
  unfold Sz20.source
  rw [if_neg h, if_neg h2]
  rfl
/-! ### flags -/
def flagN (st : Nat) (c z n v : Bool) : Nat := (st % 256) / 8 * 8 + c.toNat + 2 * z.toNat + 4 * n.toNat + 256 * v.toNat
theorem flags_eq (s : St) (c z n v : Bool) : s.flags c z n v = s.setReg 2 (flagN (s.reg 2) c z n v) := rfl
theorem top_lt {q x : Nat} (h : x < q) : top q x = decide (q / 2 ≤ x) := by
  unfold top
  rw [Nat.mod_eq_of_lt h]
theorem top_mod {q x : Nat} : top q (x % q) = top q x := by
  unfold top
  rw [Nat.mod_mod]
/-! ### two operands: the result, the status -/
def sumO (st q d a c : Nat) : Nat × Nat := ((d + a + c) % q, flagN st (decide (q ≤ d + a + c)) (decide ((d + a + c) % q = 0)) (top q (d + a + c)) ((top q a == top q d) && (top q (d + a + c) != top q d)))
def decO (st : Nat) (b : Bool) (x d : Nat) : Nat × Nat := ((decimal (if b = true then 2 else 4) x d (st.testBit 0).toNat).1, flagN st (decide ((decimal (if b = true then 2 else 4) x d (st.testBit 0).toNat).2 = 1)) (decide ((decimal (if b = true then 2 else 4) x d (st.testBit 0).toNat).1 = 0)) (top (size b) (decimal (if b = true then 2 else 4) x d (st.testBit 0).toNat).1) (st.testBit 8))
def andO (st q x d : Nat) : Nat × Nat := (x &&& d, flagN st (decide (x &&& d ≠ 0)) (decide (x &&& d = 0)) (top q (x &&& d)) false)
def xorO (st q x d : Nat) : Nat × Nat := (x ^^^ d, flagN st (decide (x ^^^ d ≠ 0)) (decide (x ^^^ d = 0)) (top q (x ^^^ d)) (top q x && top q d))
def twoO (st op : Nat) (b : Bool) (x d : Nat) : Nat × Nat :=
  match op with
  | 4 => (x, st)
  | 5 => sumO st (size b) d x 0
  | 6 => sumO st (size b) d x (st.testBit 0).toNat
  | 7 => sumO st (size b) d (size b - 1 - x) (st.testBit 0).toNat
  | 8 => sumO st (size b) d (size b - 1 - x) 1
  | 9 => sumO st (size b) d (size b - 1 - x) 1
  | 10 => decO st b x d
  | 12 => (d &&& (size b - 1 - x), st)
  | 13 => (d ||| x, st)
  | 14 => xorO st (size b) x d
  | _ => andO st (size b) x d
theorem two_eq {s : St} (g : Good s) {op : Nat} (h1 : 4 ≤ op) (h2 : op < 16) (b : Bool) (x d : Nat) : two s op b x d = (s.setReg 2 (twoO (s.reg 2) op b x d).2, if op = 9 ∨ op = 11 then none else some (twoO (s.reg 2) op b x d).1) := by
  have own := setReg_own g
  match op, h1, h2 with
  | 4, _, _ => show (s, some x) = (s.setReg 2 (s.reg 2), some x); rw [own]
  | 5, _, _ => rfl
  | 6, _, _ => rfl
  | 7, _, _ => rfl
  | 8, _, _ => rfl
  | 9, _, _ => rfl
  | 10, _, _ => rfl
  | 11, _, _ => rfl
  | 12, _, _ => show (s, some (d &&& (size b - 1 - x))) = (s.setReg 2 (s.reg 2), some (d &&& (size b - 1 - x))); rw [own]
  | 13, _, _ => show (s, some (d ||| x)) = (s.setReg 2 (s.reg 2), some (d ||| x)); rw [own]
  | 14, _, _ => rfl
  | 15, _, _ => rfl
  | n + 16, _, h => exact absurd h (by omega)
theorem decimal_lt : ∀ (n x y c : Nat), c ≤ 1 → (decimal n x y c).1 < 16 ^ n ∧ (decimal n x y c).2 ≤ 1
  | 0, _, _, c, h => ⟨Nat.zero_lt_one, h⟩
  | n + 1, x, y, c, h => by
    have ih := decimal_lt n (x / 16) (y / 16) (if 10 ≤ x % 16 + y % 16 + c then 1 else 0) (by split <;> omega)
    refine ⟨?_, ih.2⟩
    show (if 10 ≤ x % 16 + y % 16 + c then (x % 16 + y % 16 + c - 10) % 16 else x % 16 + y % 16 + c) + 16 * (decimal n (x / 16) (y / 16) (if 10 ≤ x % 16 + y % 16 + c then 1 else 0)).1 < 16 ^ (n + 1)
    have h1 := ih.1
    generalize (decimal n (x / 16) (y / 16) (if 10 ≤ x % 16 + y % 16 + c then 1 else 0)).1 = r at h1 ⊢
    rw [Nat.pow_succ]
    split <;> omega
theorem pow16 (b : Bool) : 16 ^ (if b = true then 2 else 4) = size b := by cases b <;> rfl
theorem bits_lt {b : Bool} {x : Nat} : x < size b ↔ x < 2 ^ (if b = true then 8 else 16) := by cases b <;> exact Iff.rfl
theorem twoO_lt {st op : Nat} {b : Bool} {x d : Nat} (hx : x < size b) (hd : d < size b) : (twoO st op b x d).1 < size b := by
  have hp := (size_pos b).1
  have hs : ∀ a c, (sumO st (size b) d a c).1 < size b := fun a c => Nat.mod_lt _ hp
  have ha : (x &&& d) < size b := Nat.lt_of_le_of_lt Nat.and_le_left hx
  unfold twoO
  split
  · exact hx
  · exact hs _ _
  · exact hs _ _
  · exact hs _ _
  · exact hs _ _
  · exact hs _ _
  · show (decimal _ _ _ _).1 < _
    rw [← pow16 b]
    refine (decimal_lt _ _ _ _ ?_).1
    cases st.testBit 0 <;> decide
  · exact Nat.lt_of_le_of_lt Nat.and_le_left hd
  · exact bits_lt.mpr (Nat.or_lt_two_pow (bits_lt.mp hd) (bits_lt.mp hx))
  · exact bits_lt.mpr (Nat.xor_lt_two_pow (bits_lt.mp hx) (bits_lt.mp hd))
  · exact ha
/-- digit by digit, from the lowest: one digit more -/
theorem decimal_succ (n x y c : Nat) : decimal (n + 1) x y c = ((if 10 ≤ x % 16 + y % 16 + c then (x % 16 + y % 16 + c - 10) % 16 else x % 16 + y % 16 + c) + 16 * (decimal n (x / 16) (y / 16) (if 10 ≤ x % 16 + y % 16 + c then 1 else 0)).1, (decimal n (x / 16) (y / 16) (if 10 ≤ x % 16 + y % 16 + c then 1 else 0)).2) := rfl
/-! ### one operand -/
def oneO (st k : Nat) (b : Bool) (x : Nat) : Nat × Nat :=
  match k with
  | 0 => (x / 2 + (st.testBit 0).toNat * (size b / 2), flagN st (decide (x % 2 = 1)) (decide (x / 2 + (st.testBit 0).toNat * (size b / 2) = 0)) (st.testBit 0) false)
  | 1 => (x % 256 * 256 + x / 256, st)
  | 2 => (x / 2 + (if top (size b) x = true then size b / 2 else 0), flagN st (decide (x % 2 = 1)) (decide (x / 2 + (if top (size b) x = true then size b / 2 else 0) = 0)) (top (size b) (x / 2 + (if top (size b) x = true then size b / 2 else 0))) false)
  | _ => (x % 256 + (if 128 ≤ x % 256 then 65280 else 0), flagN st (decide (x % 256 + (if 128 ≤ x % 256 then 65280 else 0) ≠ 0)) (decide (x % 256 + (if 128 ≤ x % 256 then 65280 else 0) = 0)) (top 65536 (x % 256 + (if 128 ≤ x % 256 then 65280 else 0))) false)
theorem one_eq {s : St} (g : Good s) {k : Nat} (h : k < 4) {b : Bool} (hb : b = true → k ≠ 1 ∧ k ≠ 3) (p : Place) : one s k b p = store (s.setReg 2 (oneO (s.reg 2) k b (load s p b)).2) p b (oneO (s.reg 2) k b (load s p b)).1 := by
  have own := setReg_own g
  match k, h with
  | 0, _ => rfl
  | 1, _ =>
    cases b
    · show store s p false (load s p false % 256 * 256 + load s p false / 256) = store (s.setReg 2 (s.reg 2)) p false (load s p false % 256 * 256 + load s p false / 256)
      rw [own]
    · exact absurd rfl (hb rfl).1
  | 2, _ => rfl
  | 3, _ =>
    cases b
    · rfl
    · exact absurd rfl (hb rfl).2
theorem oneO_lt {st k : Nat} {b : Bool} {x : Nat} (h : k < 4) (hb : b = true → k ≠ 1 ∧ k ≠ 3) (hx : x < size b) : (oneO st k b x).1 < size b := by
  have hp := size_pos b
  match k, h with
  | 0, _ =>
    show x / 2 + (st.testBit 0).toNat * (size b / 2) < size b
    rcases hp.2.1 with e | e <;> rw [e] at hx ⊢ <;> cases st.testBit 0 <;> simp only [Bool.toNat_true, Bool.toNat_false] <;> omega
  | 1, _ =>
    cases b
    · show x % 256 * 256 + x / 256 < 65536
      have hx : x < 65536 := hx
      omega
    · exact absurd rfl (hb rfl).1
  | 2, _ =>
    show x / 2 + (if top (size b) x = true then size b / 2 else 0) < size b
    split <;> rcases hp.2.1 with e | e <;> rw [e] at hx ⊢ <;> omega
  | 3, _ =>
    cases b
    · show x % 256 + (if 128 ≤ x % 256 then 65280 else 0) < 65536
      split <;> omega
    · exact absurd rfl (hb rfl).2
/-! ### a step behind the fetch -/
def doTwo (m : St) (w : Nat) : St :=
  let byte := w.testBit 6
  let s := source m (w / 256 % 16) (w / 16 % 4) byte
  let x := load s.1 s.2 byte
  let d := second s.1 (w % 16) (w / 128 % 2)
  let r := two d.1 (w / 4096) byte x (load d.1 d.2 byte)
  match r.2 with
  | some y => if w % 16 = 2 ∧ w / 128 % 2 = 0 then store d.1 d.2 byte y else store r.1 d.2 byte y
  | none => r.1
def jumpBy (w : Nat) : Int := if w % 1024 < 512 then ((w % 1024 : Nat) : Int) else ((w % 1024 : Nat) : Int) - 1024
def doJump (m : St) (w : Nat) : St := if taken m (w / 1024 % 8) = true then m.setReg 0 (((m.reg 0 : Int) + 2 * jumpBy w).emod 65536).toNat else m
def doBack (m : St) : St := ((m.pull.1.setReg 2 m.pull.2).pull.1).setReg 0 (m.pull.1.setReg 2 m.pull.2).pull.2
def doOne (m : St) (w : Nat) : St := one (source m (w % 16) (w / 16 % 4) (w.testBit 6)).1 (w / 128 % 8) (w.testBit 6) (source m (w % 16) (w / 16 % 4) (w.testBit 6)).2
def stepO (m : St) (w : Nat) : Option St :=
  if 4 ≤ w / 4096 then some (doTwo m w)
  else if 2 ≤ w / 4096 then some (doJump m w)
  else if w / 1024 = 4 then
    if w / 128 % 8 = 6 ∧ w % 128 = 0 then some (doBack m)
    else if 6 ≤ w / 128 % 8 ∨ (w.testBit 6 = true ∧ (w / 128 % 8 = 1 ∨ w / 128 % 8 = 3 ∨ w / 128 % 8 = 5)) then none
    else some (doOne m w)
  else none
theorem step_eq (m : St) : step m = stepO m.fetch.1 m.fetch.2 := rfl
def isOne (w : Nat) : Bool := decide (w = 4864) || (decide (w / 128 % 8 < 6) && !(w.testBit 6 && (decide (w / 128 % 8 = 1) || decide (w / 128 % 8 = 3) || decide (w / 128 % 8 = 5))))
def isIns (w : Nat) : Bool := decide (8192 ≤ w) || (decide (4096 ≤ w ∧ w < 5120) && isOne w)
def doIns (m : St) (w : Nat) : St := if 16384 ≤ w then doTwo m w else if 8192 ≤ w then doJump m w else if w = 4864 then doBack m else doOne m w
theorem stepO_eq (m : St) (w : Nat) : stepO m w = if isIns w = true then some (doIns m w) else none := by
  unfold stepO isIns doIns
  by_cases h1 : 16384 ≤ w
  · rw [if_pos (by omega), if_pos (by simp only [Bool.or_eq_true, decide_eq_true_eq]; left; omega), if_pos h1]
  · rw [if_neg (by omega)]
    by_cases h2 : 8192 ≤ w
    · rw [if_pos (by omega), if_pos (by simp only [Bool.or_eq_true, decide_eq_true_eq]; left; omega), if_neg h1, if_pos h2]
    · rw [if_neg (by omega), if_neg h1, if_neg h2, decide_eq_false h2, Bool.false_or]
      by_cases h3 : 4096 ≤ w ∧ w < 5120
      · rw [if_pos (by omega), decide_eq_true h3, Bool.true_and]
        unfold isOne
        by_cases h4 : w = 4864
        · rw [if_pos (by omega), if_pos h4, decide_eq_true h4, Bool.true_or, if_pos rfl]
        · rw [if_neg (by omega), if_neg h4, decide_eq_false h4, Bool.false_or]
          by_cases h5 : w / 128 % 8 < 6
          · rw [decide_eq_true h5, Bool.true_and]
            cases w.testBit 6
            · rw [if_neg (by simp; omega)]
              simp
            · by_cases h6 : w / 128 % 8 = 1 ∨ w / 128 % 8 = 3 ∨ w / 128 % 8 = 5
              · rw [if_pos (.inr ⟨rfl, h6⟩), if_neg]
                simp only [Bool.true_and, Bool.not_eq_true', Bool.or_eq_false_iff, decide_eq_false_iff_not]
                omega
              · rw [if_neg (by simp only [true_and]; omega), if_pos]
                simp only [Bool.true_and, Bool.not_eq_true', Bool.or_eq_false_iff, decide_eq_false_iff_not]
                omega
          · rw [if_pos (.inl (by omega)), decide_eq_false h5, Bool.false_and, if_neg (by decide)]
      · rw [if_neg (by omega), decide_eq_false h3, Bool.false_and, if_neg (by decide)]
theorem step_ins (s : St) : step s = if isIns (s.word (s.reg 0)) = true then some (doIns (s.setReg 0 (s.reg 0 + 2)) (s.word (s.reg 0))) else none := by
  rw [step_eq]
  exact stepO_eq _ _
/-- the second is the status itself: what is kept there takes the flags' place -/
theorem store_over {s : St} {b : Bool} {y f : Nat} {k : Nat} (h : k = 2) : store (s.setReg 2 f) (.reg k) b y = store s (.reg k) b y := by
  subst h
  exact setReg_twice
theorem doTwo_eq {m : St} (g : Good m) {w : Nat} (h1 : 16384 ≤ w) (h2 : w < 65536) :
    let b := w.testBit 6
    let s := source m (w / 256 % 16) (w / 16 % 4) b
    let d := second s.1 (w % 16) (w / 128 % 2)
    let o := twoO (d.1.reg 2) (w / 4096) b (load s.1 s.2 b) (load d.1 d.2 b)
    doTwo m w = if w / 4096 = 9 ∨ w / 4096 = 11 then d.1.setReg 2 o.2 else store (d.1.setReg 2 o.2) d.2 b o.1 := by
  intro b s d o
  have gd : Good d.1 := (g.source _ _ _).second _ _
  have e := two_eq gd (op := w / 4096) (by omega) (by omega) b (load s.1 s.2 b) (load d.1 d.2 b)
  unfold doTwo
  dsimp only
  rw [show two (second (source m (w / 256 % 16) (w / 16 % 4) (w.testBit 6)).1 (w % 16) (w / 128 % 2)).1 (w / 4096) (w.testBit 6) (load (source m (w / 256 % 16) (w / 16 % 4) (w.testBit 6)).1 (source m (w / 256 % 16) (w / 16 % 4) (w.testBit 6)).2 (w.testBit 6)) (load (second (source m (w / 256 % 16) (w / 16 % 4) (w.testBit 6)).1 (w % 16) (w / 128 % 2)).1 (second (source m (w / 256 % 16) (w / 16 % 4) (w.testBit 6)).1 (w % 16) (w / 128 % 2)).2 (w.testBit 6)) = _ from e]
  by_cases h : w / 4096 = 9 ∨ w / 4096 = 11
  · rw [if_pos h, if_pos h]
  · rw [if_neg h, if_neg h]
    dsimp only
    by_cases h3 : w % 16 = 2 ∧ w / 128 % 2 = 0
    · rw [if_pos h3]
      have e2 : d.2 = .reg (w % 16) := by
        show (second s.1 (w % 16) (w / 128 % 2)).2 = _
        unfold Sz20.second
        rw [if_pos h3.2]
      show store d.1 d.2 b o.1 = store (d.1.setReg 2 o.2) d.2 b o.1
      rw [e2, store_over h3.1]
    · rw [if_neg h3]
end
end Wr

set_option Elab.async false
set_option linter.all false
set_option maxRecDepth 100000
set_option maxHeartbeats 4000000
namespace Wr
open PySem PySem.Spec PyProof.Rows L2
open PySem.W (Codec)
/-! ### rules of my own -/
section
variable {X : Cx}
theorem pe_gint {x : Str} {v : Int} {pos : Pos} (hg : Gl X x) (h : ∃ t, X.mg x = some (.int v t)) (hd : (x == ("__debug__" : Str)) = false := by decide) : PE X (.Name x pos) (tC (.int v)) := by
  obtain ⟨t, h⟩ := h
  exact pe_glob hg h ⟨t, rfl⟩ hd
theorem pe_gref {x : Str} {c : Addr} {pos : Pos} (hg : Gl X x) (h : X.mg x = some (.ref c)) (hd : (x == ("__debug__" : Str)) = false := by decide) : PE X (.Name x pos) (tC (.ref c)) := pe_glob (v := .ref c) hg h rfl hd
theorem upd_upd {H : Hp} {b : Addr} {x y : HO} : upd (upd H b x) b y = upd H b y := by
  funext c
  by_cases e : c = b
  · subst e
    rw [upd_same, upd_same]
  · rw [upd_ne e, upd_ne e, upd_ne e]
theorem sqL_ins {K : PySem.W.Frag} {H : Hp} {q c C dx : Addr} {fs : List (Str × V)} {xs : List V} {o : HO} (h : SqL K H c xs) (hq : H q = some (.ins C dx fs)) : SqL K (upd H q o) c xs := by
  rcases h with (h | ⟨u, h⟩) | h
  · exact .inl (.inl (by rw [upd_ne (ne_of h hq (by intro z; cases z))]; exact h))
  · exact .inl (.inr ⟨u, by rw [upd_ne (ne_of h hq (by intro z; cases z))]; exact h⟩)
  · exact .inr h
theorem sqL_new {K : PySem.W.Frag} {H : Hp} {q c : Addr} {xs : List V} {o : HO} (h : SqL K H c xs) (hq : H q = none) : SqL K (upd H q o) c xs := by
  rcases h with (h | ⟨u, h⟩) | h
  · exact .inl (.inl (by rw [upd_ne (ne_of_none h hq)]; exact h))
  · exact .inl (.inr ⟨u, by rw [upd_ne (ne_of_none h hq)]; exact h⟩)
  · exact .inr h
theorem sqL_keep {K : PySem.W.Frag} {H H' : Hp} {c m : Addr} {xs : List V} (h : SqL K H c xs) (k : ∀ b o, b ≠ m → H b = some o → H' b = some o) (n : c ≠ m) : SqL K H' c xs := by
  rcases h with (h | ⟨u, h⟩) | h
  · exact .inl (.inl (k _ _ n h))
  · exact .inl (.inr ⟨u, k _ _ n h⟩)
  · exact .inr h
theorem none_back {H H' : Hp} {m d : Addr} (k : ∀ b o, b ≠ m → H b = some o → H' b = some o) (hm : ∃ o, H' m = some o) (h : H' d = none) : H d = none := by
  by_cases e : d = m
  · obtain ⟨o, hm⟩ := hm
    rw [e, hm] at h
    cases h
  · cases q : H d with
    | none => rfl
    | some o =>
      rw [k d o e q] at h
      cases h
/-- a list that is read alone, apart from r, m and g -/
def Far (K : PySem.W.Frag) (H : Hp) (c : Addr) (xs : List V) (r m g : Addr) : Prop := (∀ H', SqL K H' c xs) ∨ (Rd H c (.lst xs) ∧ c ≠ r ∧ c ≠ m ∧ c ≠ g)
theorem Rd.there {H : Hp} {c : Addr} {xs : List V} (h : Rd H c (.lst xs)) : ∃ o, H c = some o ∧ ∀ C dx fs, o ≠ .ins C dx fs := by
  rcases h with h | ⟨o, h⟩
  · exact ⟨_, h, by intro _ _ _ z; cases z⟩
  · exact ⟨_, h, by intro _ _ _ z; cases z⟩
theorem Rd.move {H H' : Hp} {c : Addr} {xs : List V} (h : Rd H c (.lst xs)) (k : ∀ o, H c = some o → H' c = some o) : Rd H' c (.lst xs) := by
  rcases h with h | ⟨o, h⟩
  · exact .inl (k _ h)
  · exact .inr ⟨o, k _ h⟩
section
variable {K : PySem.W.Frag} {H H' : Hp} {c r m g r' m' p q : Addr} {xs : List V}
theorem Far.sq (h : Far K H c xs r m g) : SqL K H c xs := by
  rcases h with h | ⟨h, _⟩
  · exact h H
  · exact .inl h
theorem Far.step {C dx C' dx' : Addr} {fs fs' : List (Str × V)} (h : Far K H c xs r m g) (hp : H p = some (.ins C dx fs)) (hq : H q = some (.ins C' dx' fs'))
    (hr : r' = r ∨ H r' = none) (hm : m' = m ∨ H m' = none) (k : ∀ d o, d ≠ p → d ≠ r → d ≠ m → d ≠ q → H d = some o → H' d = some o) : Far K H' c xs r' m' g := by
  rcases h with h | ⟨h, nr, nm, ng⟩
  · exact .inl h
  · obtain ⟨o, ho, hi⟩ := Rd.there h
    refine .inr ⟨Rd.move h fun o e => k c o (ne_of ho hp (hi _ _ _)) nr nm (ne_of ho hq (hi _ _ _)) e, ?_, ?_, ng⟩
    · rcases hr with e | e
      · rw [e]; exact nr
      · exact ne_of_none ho e
    · rcases hm with e | e
      · rw [e]; exact nm
      · exact ne_of_none ho e
theorem Far.of (h : SqL K H c xs) (hr : H r = none) (hm : H m = none) (hg : H g = none) : Far K H c xs r m g := by
  rcases h with h | h
  · obtain ⟨o, ho, _⟩ := Rd.there h
    exact .inr ⟨h, ne_of_none ho hr, ne_of_none ho hm, ne_of_none ho hg⟩
  · exact .inl fun _ => .inr h
theorem Far.same (h : Far K H c xs r m g) (k : ∀ d o, H d = some o → H' d = some o) : Far K H' c xs r m g := by
  rcases h with h | ⟨h, n⟩
  · exact .inl h
  · exact .inr ⟨Rd.move h fun o e => k _ _ e, n⟩
theorem Far.write {o : HO} (h : Far K H c xs r m g) : Far K (upd H g o) c xs r m g := by
  rcases h with h | ⟨h, n⟩
  · exact .inl h
  · exact .inr ⟨Rd.move h fun o e => by rw [upd_ne n.2.2]; exact e, n⟩
end
theorem cut_int {l : List Int} {i n : Nat} (h : i ≤ l.length) : cutV (l.map V.int) (some (i : Int)) (some ((i + n : Nat) : Int)) = ((l.drop i).take n).map V.int := by
  unfold cutV
  rw [HT.sIx_nat, HT.sIx_nat, List.length_map, Nat.min_eq_left h, ← List.map_drop, ← List.map_take]
  congr 1
  apply List.ext_getElem?
  intro j
  rw [List.getElem?_take, List.getElem?_take, List.getElem?_drop]
  by_cases h1 : j < n
  · rw [if_pos h1]
    by_cases h2 : i + j < l.length
    · rw [if_pos (by omega)]
    · rw [List.getElem?_eq_none_iff.mpr (by omega)]
      split <;> rfl
  · rw [if_neg h1, if_neg (by omega)]
def nones : Nat → L2.St
  | 0 => []
  | n + 1 => none :: nones n
theorem nones_eq : ∀ n, nones n = List.replicate n none
  | 0 => rfl
  | n + 1 => congrArg (List.cons none) (nones_eq n)
theorem start_eq (N : List Str) (vs : List V) : L2.start N vs = vs.map some ++ nones (N.length - vs.length) := by
  rw [nones_eq]
  rfl
theorem upd_none {H : Hp} {b c : Addr} {o : HO} : upd H b o c = none ↔ c ≠ b ∧ H c = none := by
  by_cases e : c = b
  · subst e
    rw [upd_same]
    simp
  · rw [upd_ne e]
    simp [e]
theorem scal_ii {i j : Int} : scal (.int i) (.int j) = true := rfl
theorem truv_bl {K : PySem.W.Frag} {b k : Bool} {H : Hp} : TruV K (.bl b) H k ↔ k = b := Iff.rfl
theorem truv_int {K : PySem.W.Frag} {i : Int} {k : Bool} {H : Hp} : TruV K (.int i) H k ↔ k = (i != 0) := Iff.rfl
theorem cxOf_K {CX : CXT} {P : Program} {w : World} {K : PySem.W.Frag} {mg : Str → Option Value} {base : Heap} {N : List Str} {qual : Str} {scope : Scope} {f : Addr} {cd : Value} {A : Around} {outer : List Env} {s : Shared} {H : Hp} {E : XK} : (cxOf CX P w K mg base N qual scope f cd A outer s H E).K = K := rfl
end
section
variable {K : PySem.W.Frag} {H : Hp} {Q : VK}
theorem rd_ixL {p : Addr} {xs : List V} {i : Int} {v : V} (h : SqL K H p xs) (e : atI xs i = some v) (q : Q v H) : rIxL K (.ref p) (.int i) H Q := ⟨p, xs, i, v, rfl, rfl, h, e, q⟩
theorem rd_ixT {p : Addr} {xs : List V} {i : Int} {v : V} (h : SqT K H p xs) (e : atI xs i = some v) (q : Q v H) : rIxT K (.ref p) (.int i) H Q := ⟨p, xs, i, v, rfl, rfl, h, e, q⟩
theorem rd_slL {p : Addr} {xs : List V} {lo hi : Option Int} (h : SqL K H p xs) (q : ∀ b, H b = none → Q (.ref b) (upd H b (.lst (cutV xs lo hi)))) : rSlL K (.ref p) lo hi H Q := ⟨p, xs, rfl, h, q⟩
theorem rd_fld {p C dx : Addr} {f : Str} {fs : List (Str × V)} {v : V} (h : H p = some (.ins C dx fs)) (c : Cls K C) (n : NoAttr K C f) (l : fs.lookup f = some v) (q : Q v H) :
    ∃ a C dx fs v, V.ref p = .ref a ∧ H a = some (.ins C dx fs) ∧ Cls K C ∧ NoAttr K C f ∧ fs.lookup f = some v ∧ Q v H := ⟨p, C, dx, fs, v, rfl, h, c, n, l, q⟩
theorem atI_int {l : List Int} {i : Nat} {x : Int} (h : l[i]? = some x) : atI (l.map V.int) (i : Int) = some (.int x) := atI_nat (by rw [List.getElem?_map, h]; rfl)
theorem atI_of {l : List Int} {i : Int} {x : Int} (h0 : 0 ≤ i) (h : l[i.toNat]? = some x) : atI (l.map V.int) i = some (.int x) := by
  have e : i = ((i.toNat : Nat) : Int) := by omega
  rw [e]
  exact atI_int h
theorem ixN_of {n : Nat} {i : Int} (h0 : 0 ≤ i) (h : i < n) : ixN n i = some i.toNat := by
  unfold ixN
  rw [if_pos h0, if_pos h]
end
/-- over enumerate of a list that the body leaves as it is -/
theorem for_enum {K : PySem.W.Frag} {a : Addr} {xs : List V} {g : TG} {tb : TS} {D : Ends} {σ : L2.St} {H : Hp} (Pv : Nat → L2.St → Hp → Prop) (h0 : Pv 0 σ H) (hl : ∀ i σ H, i ≤ xs.length → Pv i σ H → SqL K H a xs)
    (hs : ∀ (i : Nat) x σ H T, xs[i]? = some x → Pv i σ H → H T = none → g (.ref T) σ (upd H T (.tup [.int (i : Nat), x])) fun σ2 H2 => tb { D with nx := Pv (i + 1), ct := Pv (i + 1), bk := D.nx } σ2 H2) (hd : ∀ σ H, Pv xs.length σ H → D.nx σ H) :
    ∃ W : Nat → Nat → L2.St → Hp → Prop, (∃ m, W 0 m σ H) ∧ ∀ i m σ H, W i m σ H →
      ((Ite K a).stop i H ∧ D.nx σ H) ∨ ((Ite K a).go i H ∧ ∃ N : L2.St → Hp → Prop, (∀ σ' H', N σ' H' → ∃ m', m' < m ∧ W (i + 1) m' σ' H') ∧ ∀ x H', (Ite K a).yld i H x H' → g x σ H' fun σ2 H2 => tb { D with nx := N, ct := N, bk := D.nx } σ2 H2) := by
  refine ⟨fun i m σ H => m = xs.length - i ∧ i ≤ xs.length ∧ Pv i σ H, ⟨xs.length, by simp, Nat.zero_le _, h0⟩, ?_⟩
  rintro i m σ H ⟨rfl, hi, p⟩
  have q := hl i σ H hi p
  by_cases hlt : i < xs.length
  · refine .inr ⟨⟨xs, xs[i], q, by simp [hlt]⟩, Pv (i + 1), fun σ' H' p' => ⟨xs.length - (i + 1), by omega, rfl, hlt, p'⟩, fun x H' y => ?_⟩
    obtain ⟨T, z, rfl, hT, rfl, y⟩ := y
    exact hs i z σ _ T (y xs q) p hT
  · have e : i = xs.length := by omega
    subst e
    exact .inl ⟨⟨xs, q, Nat.le_refl _⟩, hd σ H p⟩
local macro_rules
  | `(tactic| simp only [RDX, $ts,*]) => `(tactic| simp only [tVar, tC, tOp, rI, rI0, tTest, tChain, tAnd, tOr, tNot, tAndV, tNotV, tIf, tNext, tSeq, tDrop, tRet, tIfS, gName, gSub, gCons, gNil, tAsg, tAug, ipI, tNil, tCons, tTup, tLst, tCall, tMeth, tMake, tCB, tFld, sFld, sFldAug, rAdd, rEq, rNe, scal_ii, eq_self, tNever, tSl, tPart, rSetL, tBM, rAppend, rExtend, rCat, rRep, start_eq, nones, List.map_cons, List.map_nil, List.length_cons, List.length_nil, List.append_nil, List.nil_append, List.cons_append, List.getElem?_cons_zero, List.getElem?_cons_succ, List.set_cons_zero, List.set_cons_succ, Nat.reduceAdd, Nat.reduceSub, Nat.zero_add, Option.some.injEq, V.int.injEq, V.bl.injEq, V.ref.injEq, HO.ins.injEq, HO.lst.injEq, List.cons.injEq, and_true, true_and, and_assoc, exists_eq_left, exists_eq_left', exists_eq_right, exists_eq_right', exists_and_left, exists_const, decide_eq_true_eq, Bool.not_eq_true', decide_eq_false_iff_not, upd_same, upd_upd, truv_bl, truv_int, if_true, if_false, reduceCtorEq, cxOf_K, Int.reduceNeg, Int.reduceEq, $ts,*])
def top (i : Nat) : Stmt := PySem.Challenge.pw_wordrunnerdesk_s01_answers.main.body.getD i (.Pass ⟨0, 0, 0, 0⟩)
abbrev s_in_memory : Stmt := top 10
theorem sc_in_memory : FnScope ["at", "n"] ["at", "n"] (defScope s_in_memory) := ⟨rfl, rfl, rfl, by decide +kernel, rfl, by decide +kernel, by decide +kernel⟩
abbrev s_can_be_asked : Stmt := top 11
theorem sc_can_be_asked : FnScope ["which"] ["which"] (defScope s_can_be_asked) := ⟨rfl, rfl, rfl, by decide +kernel, rfl, by decide +kernel, by decide +kernel⟩
abbrev s_Processor_init : Stmt := inClass (top 12) 0
theorem sc_Processor_init : FnScope ["self"] ["self"] (defScope s_Processor_init) := ⟨rfl, rfl, rfl, by decide +kernel, rfl, by decide +kernel, by decide +kernel⟩
abbrev s_Processor_wipe : Stmt := inClass (top 12) 1
theorem sc_Processor_wipe : FnScope ["self"] ["self"] (defScope s_Processor_wipe) := ⟨rfl, rfl, rfl, by decide +kernel, rfl, by decide +kernel, by decide +kernel⟩
abbrev s_Processor_load : Stmt := inClass (top 12) 2
theorem sc_Processor_load : FnScope ["self", "at", "row", "offset", "byte"] ["self", "at", "row"] (defScope s_Processor_load) := ⟨rfl, rfl, rfl, by decide +kernel, rfl, by decide +kernel, by decide +kernel⟩
abbrev s_Processor_look : Stmt := inClass (top 12) 3
theorem sc_Processor_look : FnScope ["self", "at", "n"] ["self", "at", "n"] (defScope s_Processor_look) := ⟨rfl, rfl, rfl, by decide +kernel, rfl, by decide +kernel, by decide +kernel⟩
abbrev s_Processor_keep : Stmt := inClass (top 12) 4
theorem sc_Processor_keep : FnScope ["self", "which", "value"] ["self", "which", "value"] (defScope s_Processor_keep) := ⟨rfl, rfl, rfl, by decide +kernel, rfl, by decide +kernel, by decide +kernel⟩
abbrev s_Processor_put : Stmt := inClass (top 12) 5
theorem sc_Processor_put : FnScope ["self", "which", "value"] ["self", "which", "value"] (defScope s_Processor_put) := ⟨rfl, rfl, rfl, by decide +kernel, rfl, by decide +kernel, by decide +kernel⟩
abbrev s_Processor_held : Stmt := inClass (top 12) 6
theorem sc_Processor_held : FnScope ["self", "which"] ["self", "which"] (defScope s_Processor_held) := ⟨rfl, rfl, rfl, by decide +kernel, rfl, by decide +kernel, by decide +kernel⟩
abbrev s_Processor_word_at : Stmt := inClass (top 12) 7
theorem sc_Processor_word_at : FnScope ["self", "at", "lower"] ["self", "at"] (defScope s_Processor_word_at) := ⟨rfl, rfl, rfl, by decide +kernel, rfl, by decide +kernel, by decide +kernel⟩
abbrev s_Processor_keep_word : Stmt := inClass (top 12) 8
theorem sc_Processor_keep_word : FnScope ["self", "at", "word", "lower"] ["self", "at", "word"] (defScope s_Processor_keep_word) := ⟨rfl, rfl, rfl, by decide +kernel, rfl, by decide +kernel, by decide +kernel⟩
abbrev s_Processor_next_word : Stmt := inClass (top 12) 9
theorem sc_Processor_next_word : FnScope ["self", "word"] ["self"] (defScope s_Processor_next_word) := ⟨rfl, rfl, rfl, by decide +kernel, rfl, by decide +kernel, by decide +kernel⟩
abbrev s_Processor_push : Stmt := inClass (top 12) 10
theorem sc_Processor_push : FnScope ["self", "word"] ["self", "word"] (defScope s_Processor_push) := ⟨rfl, rfl, rfl, by decide +kernel, rfl, by decide +kernel, by decide +kernel⟩
abbrev s_Processor_pull : Stmt := inClass (top 12) 11
theorem sc_Processor_pull : FnScope ["self", "word"] ["self"] (defScope s_Processor_pull) := ⟨rfl, rfl, rfl, by decide +kernel, rfl, by decide +kernel, by decide +kernel⟩
abbrev s_CallReader_init : Stmt := inClass (top 14) 0
theorem sc_CallReader_init : FnScope ["self", "calls"] ["self", "calls"] (defScope s_CallReader_init) := ⟨rfl, rfl, rfl, by decide +kernel, rfl, by decide +kernel, by decide +kernel⟩
abbrev s_CallReader_has_more : Stmt := inClass (top 14) 1
theorem sc_CallReader_has_more : FnScope ["self"] ["self"] (defScope s_CallReader_has_more) := ⟨rfl, rfl, rfl, by decide +kernel, rfl, by decide +kernel, by decide +kernel⟩
abbrev s_CallReader_take : Stmt := inClass (top 14) 2
theorem sc_CallReader_take : FnScope ["self", "number"] ["self"] (defScope s_CallReader_take) := ⟨rfl, rfl, rfl, by decide +kernel, rfl, by decide +kernel, by decide +kernel⟩
abbrev s_CallReader_take_row : Stmt := inClass (top 14) 3
theorem sc_CallReader_take_row : FnScope ["self", "length", "start"] ["self"] (defScope s_CallReader_take_row) := ⟨rfl, rfl, rfl, by decide +kernel, rfl, by decide +kernel, by decide +kernel⟩
abbrev s_has_sign : Stmt := top 23
theorem sc_has_sign : FnScope ["number", "q"] ["number", "q"] (defScope s_has_sign) := ⟨rfl, rfl, rfl, by decide +kernel, rfl, by decide +kernel, by decide +kernel⟩
abbrev s_with_flags : Stmt := top 24
theorem sc_with_flags : FnScope ["status", "result", "q", "carry", "overflow", "flags"] ["status", "result", "q", "carry", "overflow"] (defScope s_with_flags) := ⟨rfl, rfl, rfl, by decide +kernel, rfl, by decide +kernel, by decide +kernel⟩
abbrev s_differ : Stmt := top 26
theorem sc_differ : FnScope ["status"] ["status"] (defScope s_differ) := ⟨rfl, rfl, rfl, by decide +kernel, rfl, by decide +kernel, by decide +kernel⟩
abbrev s_is_taken : Stmt := top 27
theorem sc_is_taken : FnScope ["k", "status"] ["k", "status"] (defScope s_is_taken) := ⟨rfl, rfl, rfl, by decide +kernel, rfl, by decide +kernel, by decide +kernel⟩
abbrev s_words_on : Stmt := top 28
theorem sc_words_on : FnScope ["word", "number"] ["word"] (defScope s_words_on) := ⟨rfl, rfl, rfl, by decide +kernel, rfl, by decide +kernel, by decide +kernel⟩
abbrev s_do_jump : Stmt := top 29
theorem sc_do_jump : FnScope ["processor", "word"] ["processor", "word"] (defScope s_do_jump) := ⟨rfl, rfl, rfl, by decide +kernel, rfl, by decide +kernel, by decide +kernel⟩
abbrev s_numbers_below : Stmt := top 37
theorem sc_numbers_below : FnScope ["word"] ["word"] (defScope s_numbers_below) := ⟨rfl, rfl, rfl, by decide +kernel, rfl, by decide +kernel, by decide +kernel⟩
abbrev s_free_number : Stmt := top 38
theorem sc_free_number : FnScope ["which", "way", "q"] ["which", "way", "q"] (defScope s_free_number) := ⟨rfl, rfl, rfl, by decide +kernel, rfl, by decide +kernel, by decide +kernel⟩
abbrev s_beyond_register : Stmt := top 39
theorem sc_beyond_register : FnScope ["processor", "which", "base"] ["processor", "which"] (defScope s_beyond_register) := ⟨rfl, rfl, rfl, by decide +kernel, rfl, by decide +kernel, by decide +kernel⟩
abbrev s_step_of : Stmt := top 40
theorem sc_step_of : FnScope ["which", "q"] ["which", "q"] (defScope s_step_of) := ⟨rfl, rfl, rfl, by decide +kernel, rfl, by decide +kernel, by decide +kernel⟩
abbrev s_first_operand : Stmt := top 41
theorem sc_first_operand : FnScope ["processor", "which", "way", "q", "number", "at"] ["processor", "which", "way", "q"] (defScope s_first_operand) := ⟨rfl, rfl, rfl, by decide +kernel, rfl, by decide +kernel, by decide +kernel⟩
abbrev s_second_operand : Stmt := top 42
theorem sc_second_operand : FnScope ["processor", "which", "way"] ["processor", "which", "way"] (defScope s_second_operand) := ⟨rfl, rfl, rfl, by decide +kernel, rfl, by decide +kernel, by decide +kernel⟩
abbrev s_value_of : Stmt := top 43
theorem sc_value_of : FnScope ["processor", "operand", "q"] ["processor", "operand", "q"] (defScope s_value_of) := ⟨rfl, rfl, rfl, by decide +kernel, rfl, by decide +kernel, by decide +kernel⟩
abbrev s_keep_result : Stmt := top 44
theorem sc_keep_result : FnScope ["processor", "operand", "result", "q"] ["processor", "operand", "result", "q"] (defScope s_keep_result) := ⟨rfl, rfl, rfl, by decide +kernel, rfl, by decide +kernel, by decide +kernel⟩
abbrev s_kind_of : Stmt := top 55
theorem sc_kind_of : FnScope ["word"] ["word"] (defScope s_kind_of) := ⟨rfl, rfl, rfl, by decide +kernel, rfl, by decide +kernel, by decide +kernel⟩
abbrev s_has_one_operand : Stmt := top 56
theorem sc_has_one_operand : FnScope ["word", "k"] ["word"] (defScope s_has_one_operand) := ⟨rfl, rfl, rfl, by decide +kernel, rfl, by decide +kernel, by decide +kernel⟩
abbrev s_moved_right : Stmt := top 57
theorem sc_moved_right : FnScope ["x", "top", "status", "q", "result"] ["x", "top", "status", "q"] (defScope s_moved_right) := ⟨rfl, rfl, rfl, by decide +kernel, rfl, by decide +kernel, by decide +kernel⟩
abbrev s_widened : Stmt := top 58
theorem sc_widened : FnScope ["x", "status", "q", "result"] ["x", "status", "q"] (defScope s_widened) := ⟨rfl, rfl, rfl, by decide +kernel, rfl, by decide +kernel, by decide +kernel⟩
abbrev s_outcome_of_one : Stmt := top 59
theorem sc_outcome_of_one : FnScope ["k", "x", "status", "q"] ["k", "x", "status", "q"] (defScope s_outcome_of_one) := ⟨rfl, rfl, rfl, by decide +kernel, rfl, by decide +kernel, by decide +kernel⟩
abbrev s_push_byte : Stmt := top 60
theorem sc_push_byte : FnScope ["processor", "byte"] ["processor", "byte"] (defScope s_push_byte) := ⟨rfl, rfl, rfl, by decide +kernel, rfl, by decide +kernel, by decide +kernel⟩
abbrev s_do_return : Stmt := top 61
theorem sc_do_return : FnScope ["processor"] ["processor"] (defScope s_do_return) := ⟨rfl, rfl, rfl, by decide +kernel, rfl, by decide +kernel, by decide +kernel⟩
abbrev s_do_one : Stmt := top 62
theorem sc_do_one : FnScope ["processor", "word", "q", "k", "operand", "x", "outcome"] ["processor", "word"] (defScope s_do_one) := ⟨rfl, rfl, rfl, by decide +kernel, rfl, by decide +kernel, by decide +kernel⟩
abbrev s_added : Stmt := top 74
theorem sc_added : FnScope ["d", "s", "more", "status", "q", "total", "result", "sign", "overflow"] ["d", "s", "more", "status", "q"] (defScope s_added) := ⟨rfl, rfl, rfl, by decide +kernel, rfl, by decide +kernel, by decide +kernel⟩
abbrev s_sum_of : Stmt := top 75
theorem sc_sum_of : FnScope ["what", "d", "s", "status", "q", "carry"] ["what", "d", "s", "status", "q"] (defScope s_sum_of) := ⟨rfl, rfl, rfl, by decide +kernel, rfl, by decide +kernel, by decide +kernel⟩
abbrev s_added_decimal : Stmt := top 76
theorem sc_added_decimal : FnScope ["d", "s", "status", "q", "carry", "result", "weight", "digit"] ["d", "s", "status", "q"] (defScope s_added_decimal) := ⟨rfl, rfl, rfl, by decide +kernel, rfl, by decide +kernel, by decide +kernel⟩
abbrev s_common_bits : Stmt := top 77
theorem sc_common_bits : FnScope ["d", "s", "status", "q", "result"] ["d", "s", "status", "q"] (defScope s_common_bits) := ⟨rfl, rfl, rfl, by decide +kernel, rfl, by decide +kernel, by decide +kernel⟩
abbrev s_exclusive_or : Stmt := top 78
theorem sc_exclusive_or : FnScope ["d", "s", "status", "q", "result", "overflow"] ["d", "s", "status", "q"] (defScope s_exclusive_or) := ⟨rfl, rfl, rfl, by decide +kernel, rfl, by decide +kernel, by decide +kernel⟩
abbrev s_outcome_of_two : Stmt := top 79
theorem sc_outcome_of_two : FnScope ["what", "d", "s", "status", "q"] ["what", "d", "s", "status", "q"] (defScope s_outcome_of_two) := ⟨rfl, rfl, rfl, by decide +kernel, rfl, by decide +kernel, by decide +kernel⟩
abbrev s_do_two : Stmt := top 80
theorem sc_do_two : FnScope ["processor", "word", "q", "what", "first", "s", "second", "d", "outcome"] ["processor", "word"] (defScope s_do_two) := ⟨rfl, rfl, rfl, by decide +kernel, rfl, by decide +kernel, by decide +kernel⟩
abbrev s_is_instruction : Stmt := top 91
theorem sc_is_instruction : FnScope ["word"] ["word"] (defScope s_is_instruction) := ⟨rfl, rfl, rfl, by decide +kernel, rfl, by decide +kernel, by decide +kernel⟩
abbrev s_do_instruction : Stmt := top 92
theorem sc_do_instruction : FnScope ["processor", "word"] ["processor", "word"] (defScope s_do_instruction) := ⟨rfl, rfl, rfl, by decide +kernel, rfl, by decide +kernel, by decide +kernel⟩
abbrev s_goes_on : Stmt := top 93
theorem sc_goes_on : FnScope ["processor", "at", "word"] ["processor"] (defScope s_goes_on) := ⟨rfl, rfl, rfl, by decide +kernel, rfl, by decide +kernel, by decide +kernel⟩
abbrev s_run : Stmt := top 94
theorem sc_run : FnScope ["processor", "n", "done"] ["processor", "n"] (defScope s_run) := ⟨rfl, rfl, rfl, by decide +kernel, rfl, by decide +kernel, by decide +kernel⟩
abbrev s_interrupt : Stmt := top 95
theorem sc_interrupt : FnScope ["processor", "vector"] ["processor", "vector"] (defScope s_interrupt) := ⟨rfl, rfl, rfl, by decide +kernel, rfl, by decide +kernel, by decide +kernel⟩
abbrev s_answer_call : Stmt := top 105
theorem sc_answer_call : FnScope ["processor", "reader", "kind", "at", "which"] ["processor", "reader"] (defScope s_answer_call) := ⟨rfl, rfl, rfl, by decide +kernel, rfl, by decide +kernel, by decide +kernel⟩
abbrev s_answers : Stmt := top 106
theorem sc_answers : FnScope ["calls", "processor", "reader", "given", "answer"] ["calls"] (defScope s_answers) := ⟨rfl, rfl, rfl, by decide +kernel, rfl, by decide +kernel, by decide +kernel⟩
structure Ad where
  C_Processor : Addr
  C_CallReader : Addr
  f_in_memory : Addr
  d_in_memory : FuncData
  f_can_be_asked : Addr
  d_can_be_asked : FuncData
  f_Processor_init : Addr
  d_Processor_init : FuncData
  f_Processor_wipe : Addr
  d_Processor_wipe : FuncData
  f_Processor_load : Addr
  d_Processor_load : FuncData
  f_Processor_look : Addr
  d_Processor_look : FuncData
  f_Processor_keep : Addr
  d_Processor_keep : FuncData
  f_Processor_put : Addr
  d_Processor_put : FuncData
  f_Processor_held : Addr
  d_Processor_held : FuncData
  f_Processor_word_at : Addr
  d_Processor_word_at : FuncData
  f_Processor_keep_word : Addr
  d_Processor_keep_word : FuncData
  f_Processor_next_word : Addr
  d_Processor_next_word : FuncData
  f_Processor_push : Addr
  d_Processor_push : FuncData
  f_Processor_pull : Addr
  d_Processor_pull : FuncData
  f_CallReader_init : Addr
  d_CallReader_init : FuncData
  f_CallReader_has_more : Addr
  d_CallReader_has_more : FuncData
  f_CallReader_take : Addr
  d_CallReader_take : FuncData
  f_CallReader_take_row : Addr
  d_CallReader_take_row : FuncData
  f_has_sign : Addr
  d_has_sign : FuncData
  f_with_flags : Addr
  d_with_flags : FuncData
  f_differ : Addr
  d_differ : FuncData
  f_is_taken : Addr
  d_is_taken : FuncData
  f_words_on : Addr
  d_words_on : FuncData
  f_do_jump : Addr
  d_do_jump : FuncData
  f_numbers_below : Addr
  d_numbers_below : FuncData
  f_free_number : Addr
  d_free_number : FuncData
  f_beyond_register : Addr
  d_beyond_register : FuncData
  f_step_of : Addr
  d_step_of : FuncData
  f_first_operand : Addr
  d_first_operand : FuncData
  f_second_operand : Addr
  d_second_operand : FuncData
  f_value_of : Addr
  d_value_of : FuncData
  f_keep_result : Addr
  d_keep_result : FuncData
  f_kind_of : Addr
  d_kind_of : FuncData
  f_has_one_operand : Addr
  d_has_one_operand : FuncData
  f_moved_right : Addr
  d_moved_right : FuncData
  f_widened : Addr
  d_widened : FuncData
  f_outcome_of_one : Addr
  d_outcome_of_one : FuncData
  f_push_byte : Addr
  d_push_byte : FuncData
  f_do_return : Addr
  d_do_return : FuncData
  f_do_one : Addr
  d_do_one : FuncData
  f_added : Addr
  d_added : FuncData
  f_sum_of : Addr
  d_sum_of : FuncData
  f_added_decimal : Addr
  d_added_decimal : FuncData
  f_common_bits : Addr
  d_common_bits : FuncData
  f_exclusive_or : Addr
  d_exclusive_or : FuncData
  f_outcome_of_two : Addr
  d_outcome_of_two : FuncData
  f_do_two : Addr
  d_do_two : FuncData
  f_is_instruction : Addr
  d_is_instruction : FuncData
  f_do_instruction : Addr
  d_do_instruction : FuncData
  f_goes_on : Addr
  d_goes_on : FuncData
  f_run : Addr
  d_run : FuncData
  f_interrupt : Addr
  d_interrupt : FuncData
  f_answer_call : Addr
  d_answer_call : FuncData
  f_answers : Addr
  d_answers : FuncData
  a_KEPT_BITS : Addr
structure Txt (K : PySem.W.Frag) (mg : Str → Option Value) (a : Ad) : Prop where
  cl_Processor : Cls K a.C_Processor
  g_Processor : mg "Processor" = some (.ref a.C_Processor)
  mk_Processor : Mk K a.C_Processor a.f_Processor_init
  cl_CallReader : Cls K a.C_CallReader
  g_CallReader : mg "CallReader" = some (.ref a.C_CallReader)
  mk_CallReader : Mk K a.C_CallReader a.f_CallReader_init
  n_CallReader_calls : NoAttr K a.C_CallReader "calls"
  n_CallReader_place : NoAttr K a.C_CallReader "place"
  n_Processor_memory : NoAttr K a.C_Processor "memory"
  n_Processor_registers : NoAttr K a.C_Processor "registers"
  F_in_memory : Fun K "in_memory" "in_memory" s_in_memory a.f_in_memory a.d_in_memory
  k_in_memory : PySem.W.keepIn K (.ref a.f_in_memory) = true
  bd_in_memory : Binds K a.d_in_memory ["at", "n"] []
  g_in_memory : mg "in_memory" = some (.ref a.f_in_memory)
  F_can_be_asked : Fun K "can_be_asked" "can_be_asked" s_can_be_asked a.f_can_be_asked a.d_can_be_asked
  k_can_be_asked : PySem.W.keepIn K (.ref a.f_can_be_asked) = true
  bd_can_be_asked : Binds K a.d_can_be_asked ["which"] []
  g_can_be_asked : mg "can_be_asked" = some (.ref a.f_can_be_asked)
  F_Processor_init : Fun K "__init__" "Processor.__init__" s_Processor_init a.f_Processor_init a.d_Processor_init
  k_Processor_init : PySem.W.keepIn K (.ref a.f_Processor_init) = true
  bd_Processor_init : Binds K a.d_Processor_init ["self"] []
  m_Processor_init : Meth K a.C_Processor "__init__" a.f_Processor_init
  F_Processor_wipe : Fun K "wipe" "Processor.wipe" s_Processor_wipe a.f_Processor_wipe a.d_Processor_wipe
  k_Processor_wipe : PySem.W.keepIn K (.ref a.f_Processor_wipe) = true
  bd_Processor_wipe : Binds K a.d_Processor_wipe ["self"] []
  m_Processor_wipe : Meth K a.C_Processor "wipe" a.f_Processor_wipe
  F_Processor_load : Fun K "load" "Processor.load" s_Processor_load a.f_Processor_load a.d_Processor_load
  k_Processor_load : PySem.W.keepIn K (.ref a.f_Processor_load) = true
  bd_Processor_load : Binds K a.d_Processor_load ["self", "at", "row"] []
  m_Processor_load : Meth K a.C_Processor "load" a.f_Processor_load
  F_Processor_look : Fun K "look" "Processor.look" s_Processor_look a.f_Processor_look a.d_Processor_look
  k_Processor_look : PySem.W.keepIn K (.ref a.f_Processor_look) = true
  bd_Processor_look : Binds K a.d_Processor_look ["self", "at", "n"] []
  m_Processor_look : Meth K a.C_Processor "look" a.f_Processor_look
  F_Processor_keep : Fun K "keep" "Processor.keep" s_Processor_keep a.f_Processor_keep a.d_Processor_keep
  k_Processor_keep : PySem.W.keepIn K (.ref a.f_Processor_keep) = true
  bd_Processor_keep : Binds K a.d_Processor_keep ["self", "which", "value"] []
  m_Processor_keep : Meth K a.C_Processor "keep" a.f_Processor_keep
  F_Processor_put : Fun K "put" "Processor.put" s_Processor_put a.f_Processor_put a.d_Processor_put
  k_Processor_put : PySem.W.keepIn K (.ref a.f_Processor_put) = true
  bd_Processor_put : Binds K a.d_Processor_put ["self", "which", "value"] []
  m_Processor_put : Meth K a.C_Processor "put" a.f_Processor_put
  F_Processor_held : Fun K "held" "Processor.held" s_Processor_held a.f_Processor_held a.d_Processor_held
  k_Processor_held : PySem.W.keepIn K (.ref a.f_Processor_held) = true
  bd_Processor_held : Binds K a.d_Processor_held ["self", "which"] []
  m_Processor_held : Meth K a.C_Processor "held" a.f_Processor_held
  F_Processor_word_at : Fun K "word_at" "Processor.word_at" s_Processor_word_at a.f_Processor_word_at a.d_Processor_word_at
  k_Processor_word_at : PySem.W.keepIn K (.ref a.f_Processor_word_at) = true
  bd_Processor_word_at : Binds K a.d_Processor_word_at ["self", "at"] []
  m_Processor_word_at : Meth K a.C_Processor "word_at" a.f_Processor_word_at
  F_Processor_keep_word : Fun K "keep_word" "Processor.keep_word" s_Processor_keep_word a.f_Processor_keep_word a.d_Processor_keep_word
  k_Processor_keep_word : PySem.W.keepIn K (.ref a.f_Processor_keep_word) = true
  bd_Processor_keep_word : Binds K a.d_Processor_keep_word ["self", "at", "word"] []
  m_Processor_keep_word : Meth K a.C_Processor "keep_word" a.f_Processor_keep_word
  F_Processor_next_word : Fun K "next_word" "Processor.next_word" s_Processor_next_word a.f_Processor_next_word a.d_Processor_next_word
  k_Processor_next_word : PySem.W.keepIn K (.ref a.f_Processor_next_word) = true
  bd_Processor_next_word : Binds K a.d_Processor_next_word ["self"] []
  m_Processor_next_word : Meth K a.C_Processor "next_word" a.f_Processor_next_word
  F_Processor_push : Fun K "push" "Processor.push" s_Processor_push a.f_Processor_push a.d_Processor_push
  k_Processor_push : PySem.W.keepIn K (.ref a.f_Processor_push) = true
  bd_Processor_push : Binds K a.d_Processor_push ["self", "word"] []
  m_Processor_push : Meth K a.C_Processor "push" a.f_Processor_push
  F_Processor_pull : Fun K "pull" "Processor.pull" s_Processor_pull a.f_Processor_pull a.d_Processor_pull
  k_Processor_pull : PySem.W.keepIn K (.ref a.f_Processor_pull) = true
  bd_Processor_pull : Binds K a.d_Processor_pull ["self"] []
  m_Processor_pull : Meth K a.C_Processor "pull" a.f_Processor_pull
  F_CallReader_init : Fun K "__init__" "CallReader.__init__" s_CallReader_init a.f_CallReader_init a.d_CallReader_init
  k_CallReader_init : PySem.W.keepIn K (.ref a.f_CallReader_init) = true
  bd_CallReader_init : Binds K a.d_CallReader_init ["self", "calls"] []
  m_CallReader_init : Meth K a.C_CallReader "__init__" a.f_CallReader_init
  F_CallReader_has_more : Fun K "has_more" "CallReader.has_more" s_CallReader_has_more a.f_CallReader_has_more a.d_CallReader_has_more
  k_CallReader_has_more : PySem.W.keepIn K (.ref a.f_CallReader_has_more) = true
  bd_CallReader_has_more : Binds K a.d_CallReader_has_more ["self"] []
  m_CallReader_has_more : Meth K a.C_CallReader "has_more" a.f_CallReader_has_more
  F_CallReader_take : Fun K "take" "CallReader.take" s_CallReader_take a.f_CallReader_take a.d_CallReader_take
  k_CallReader_take : PySem.W.keepIn K (.ref a.f_CallReader_take) = true
  bd_CallReader_take : Binds K a.d_CallReader_take ["self"] []
  m_CallReader_take : Meth K a.C_CallReader "take" a.f_CallReader_take
  F_CallReader_take_row : Fun K "take_row" "CallReader.take_row" s_CallReader_take_row a.f_CallReader_take_row a.d_CallReader_take_row
  k_CallReader_take_row : PySem.W.keepIn K (.ref a.f_CallReader_take_row) = true
  bd_CallReader_take_row : Binds K a.d_CallReader_take_row ["self"] []
  m_CallReader_take_row : Meth K a.C_CallReader "take_row" a.f_CallReader_take_row
  F_has_sign : Fun K "has_sign" "has_sign" s_has_sign a.f_has_sign a.d_has_sign
  k_has_sign : PySem.W.keepIn K (.ref a.f_has_sign) = true
  bd_has_sign : Binds K a.d_has_sign ["number", "q"] []
  g_has_sign : mg "has_sign" = some (.ref a.f_has_sign)
  F_with_flags : Fun K "with_flags" "with_flags" s_with_flags a.f_with_flags a.d_with_flags
  k_with_flags : PySem.W.keepIn K (.ref a.f_with_flags) = true
  bd_with_flags : Binds K a.d_with_flags ["status", "result", "q", "carry", "overflow"] []
  g_with_flags : mg "with_flags" = some (.ref a.f_with_flags)
  F_differ : Fun K "differ" "differ" s_differ a.f_differ a.d_differ
  k_differ : PySem.W.keepIn K (.ref a.f_differ) = true
  bd_differ : Binds K a.d_differ ["status"] []
  g_differ : mg "differ" = some (.ref a.f_differ)
  F_is_taken : Fun K "is_taken" "is_taken" s_is_taken a.f_is_taken a.d_is_taken
  k_is_taken : PySem.W.keepIn K (.ref a.f_is_taken) = true
  bd_is_taken : Binds K a.d_is_taken ["k", "status"] []
  g_is_taken : mg "is_taken" = some (.ref a.f_is_taken)
  F_words_on : Fun K "words_on" "words_on" s_words_on a.f_words_on a.d_words_on
  k_words_on : PySem.W.keepIn K (.ref a.f_words_on) = true
  bd_words_on : Binds K a.d_words_on ["word"] []
  g_words_on : mg "words_on" = some (.ref a.f_words_on)
  F_do_jump : Fun K "do_jump" "do_jump" s_do_jump a.f_do_jump a.d_do_jump
  k_do_jump : PySem.W.keepIn K (.ref a.f_do_jump) = true
  bd_do_jump : Binds K a.d_do_jump ["processor", "word"] []
  g_do_jump : mg "do_jump" = some (.ref a.f_do_jump)
  F_numbers_below : Fun K "numbers_below" "numbers_below" s_numbers_below a.f_numbers_below a.d_numbers_below
  k_numbers_below : PySem.W.keepIn K (.ref a.f_numbers_below) = true
  bd_numbers_below : Binds K a.d_numbers_below ["word"] []
  g_numbers_below : mg "numbers_below" = some (.ref a.f_numbers_below)
  F_free_number : Fun K "free_number" "free_number" s_free_number a.f_free_number a.d_free_number
  k_free_number : PySem.W.keepIn K (.ref a.f_free_number) = true
  bd_free_number : Binds K a.d_free_number ["which", "way", "q"] []
  g_free_number : mg "free_number" = some (.ref a.f_free_number)
  F_beyond_register : Fun K "beyond_register" "beyond_register" s_beyond_register a.f_beyond_register a.d_beyond_register
  k_beyond_register : PySem.W.keepIn K (.ref a.f_beyond_register) = true
  bd_beyond_register : Binds K a.d_beyond_register ["processor", "which"] []
  g_beyond_register : mg "beyond_register" = some (.ref a.f_beyond_register)
  F_step_of : Fun K "step_of" "step_of" s_step_of a.f_step_of a.d_step_of
  k_step_of : PySem.W.keepIn K (.ref a.f_step_of) = true
  bd_step_of : Binds K a.d_step_of ["which", "q"] []
  g_step_of : mg "step_of" = some (.ref a.f_step_of)
  F_first_operand : Fun K "first_operand" "first_operand" s_first_operand a.f_first_operand a.d_first_operand
  k_first_operand : PySem.W.keepIn K (.ref a.f_first_operand) = true
  bd_first_operand : Binds K a.d_first_operand ["processor", "which", "way", "q"] []
  g_first_operand : mg "first_operand" = some (.ref a.f_first_operand)
  F_second_operand : Fun K "second_operand" "second_operand" s_second_operand a.f_second_operand a.d_second_operand
  k_second_operand : PySem.W.keepIn K (.ref a.f_second_operand) = true
  bd_second_operand : Binds K a.d_second_operand ["processor", "which", "way"] []
  g_second_operand : mg "second_operand" = some (.ref a.f_second_operand)
  F_value_of : Fun K "value_of" "value_of" s_value_of a.f_value_of a.d_value_of
  k_value_of : PySem.W.keepIn K (.ref a.f_value_of) = true
  bd_value_of : Binds K a.d_value_of ["processor", "operand", "q"] []
  g_value_of : mg "value_of" = some (.ref a.f_value_of)
  F_keep_result : Fun K "keep_result" "keep_result" s_keep_result a.f_keep_result a.d_keep_result
  k_keep_result : PySem.W.keepIn K (.ref a.f_keep_result) = true
  bd_keep_result : Binds K a.d_keep_result ["processor", "operand", "result", "q"] []
  g_keep_result : mg "keep_result" = some (.ref a.f_keep_result)
  F_kind_of : Fun K "kind_of" "kind_of" s_kind_of a.f_kind_of a.d_kind_of
  k_kind_of : PySem.W.keepIn K (.ref a.f_kind_of) = true
  bd_kind_of : Binds K a.d_kind_of ["word"] []
  g_kind_of : mg "kind_of" = some (.ref a.f_kind_of)
  F_has_one_operand : Fun K "has_one_operand" "has_one_operand" s_has_one_operand a.f_has_one_operand a.d_has_one_operand
  k_has_one_operand : PySem.W.keepIn K (.ref a.f_has_one_operand) = true
  bd_has_one_operand : Binds K a.d_has_one_operand ["word"] []
  g_has_one_operand : mg "has_one_operand" = some (.ref a.f_has_one_operand)
  F_moved_right : Fun K "moved_right" "moved_right" s_moved_right a.f_moved_right a.d_moved_right
  k_moved_right : PySem.W.keepIn K (.ref a.f_moved_right) = true
  bd_moved_right : Binds K a.d_moved_right ["x", "top", "status", "q"] []
  g_moved_right : mg "moved_right" = some (.ref a.f_moved_right)
  F_widened : Fun K "widened" "widened" s_widened a.f_widened a.d_widened
  k_widened : PySem.W.keepIn K (.ref a.f_widened) = true
  bd_widened : Binds K a.d_widened ["x", "status", "q"] []
  g_widened : mg "widened" = some (.ref a.f_widened)
  F_outcome_of_one : Fun K "outcome_of_one" "outcome_of_one" s_outcome_of_one a.f_outcome_of_one a.d_outcome_of_one
  k_outcome_of_one : PySem.W.keepIn K (.ref a.f_outcome_of_one) = true
  bd_outcome_of_one : Binds K a.d_outcome_of_one ["k", "x", "status", "q"] []
  g_outcome_of_one : mg "outcome_of_one" = some (.ref a.f_outcome_of_one)
  F_push_byte : Fun K "push_byte" "push_byte" s_push_byte a.f_push_byte a.d_push_byte
  k_push_byte : PySem.W.keepIn K (.ref a.f_push_byte) = true
  bd_push_byte : Binds K a.d_push_byte ["processor", "byte"] []
  g_push_byte : mg "push_byte" = some (.ref a.f_push_byte)
  F_do_return : Fun K "do_return" "do_return" s_do_return a.f_do_return a.d_do_return
  k_do_return : PySem.W.keepIn K (.ref a.f_do_return) = true
  bd_do_return : Binds K a.d_do_return ["processor"] []
  g_do_return : mg "do_return" = some (.ref a.f_do_return)
  F_do_one : Fun K "do_one" "do_one" s_do_one a.f_do_one a.d_do_one
  k_do_one : PySem.W.keepIn K (.ref a.f_do_one) = true
  bd_do_one : Binds K a.d_do_one ["processor", "word"] []
  g_do_one : mg "do_one" = some (.ref a.f_do_one)
  F_added : Fun K "added" "added" s_added a.f_added a.d_added
  k_added : PySem.W.keepIn K (.ref a.f_added) = true
  bd_added : Binds K a.d_added ["d", "s", "more", "status", "q"] []
  g_added : mg "added" = some (.ref a.f_added)
  F_sum_of : Fun K "sum_of" "sum_of" s_sum_of a.f_sum_of a.d_sum_of
  k_sum_of : PySem.W.keepIn K (.ref a.f_sum_of) = true
  bd_sum_of : Binds K a.d_sum_of ["what", "d", "s", "status", "q"] []
  g_sum_of : mg "sum_of" = some (.ref a.f_sum_of)
  F_added_decimal : Fun K "added_decimal" "added_decimal" s_added_decimal a.f_added_decimal a.d_added_decimal
  k_added_decimal : PySem.W.keepIn K (.ref a.f_added_decimal) = true
  bd_added_decimal : Binds K a.d_added_decimal ["d", "s", "status", "q"] []
  g_added_decimal : mg "added_decimal" = some (.ref a.f_added_decimal)
  F_common_bits : Fun K "common_bits" "common_bits" s_common_bits a.f_common_bits a.d_common_bits
  k_common_bits : PySem.W.keepIn K (.ref a.f_common_bits) = true
  bd_common_bits : Binds K a.d_common_bits ["d", "s", "status", "q"] []
  g_common_bits : mg "common_bits" = some (.ref a.f_common_bits)
  F_exclusive_or : Fun K "exclusive_or" "exclusive_or" s_exclusive_or a.f_exclusive_or a.d_exclusive_or
  k_exclusive_or : PySem.W.keepIn K (.ref a.f_exclusive_or) = true
  bd_exclusive_or : Binds K a.d_exclusive_or ["d", "s", "status", "q"] []
  g_exclusive_or : mg "exclusive_or" = some (.ref a.f_exclusive_or)
  F_outcome_of_two : Fun K "outcome_of_two" "outcome_of_two" s_outcome_of_two a.f_outcome_of_two a.d_outcome_of_two
  k_outcome_of_two : PySem.W.keepIn K (.ref a.f_outcome_of_two) = true
  bd_outcome_of_two : Binds K a.d_outcome_of_two ["what", "d", "s", "status", "q"] []
  g_outcome_of_two : mg "outcome_of_two" = some (.ref a.f_outcome_of_two)
  F_do_two : Fun K "do_two" "do_two" s_do_two a.f_do_two a.d_do_two
  k_do_two : PySem.W.keepIn K (.ref a.f_do_two) = true
  bd_do_two : Binds K a.d_do_two ["processor", "word"] []
  g_do_two : mg "do_two" = some (.ref a.f_do_two)
  F_is_instruction : Fun K "is_instruction" "is_instruction" s_is_instruction a.f_is_instruction a.d_is_instruction
  k_is_instruction : PySem.W.keepIn K (.ref a.f_is_instruction) = true
  bd_is_instruction : Binds K a.d_is_instruction ["word"] []
  g_is_instruction : mg "is_instruction" = some (.ref a.f_is_instruction)
  F_do_instruction : Fun K "do_instruction" "do_instruction" s_do_instruction a.f_do_instruction a.d_do_instruction
  k_do_instruction : PySem.W.keepIn K (.ref a.f_do_instruction) = true
  bd_do_instruction : Binds K a.d_do_instruction ["processor", "word"] []
  g_do_instruction : mg "do_instruction" = some (.ref a.f_do_instruction)
  F_goes_on : Fun K "goes_on" "goes_on" s_goes_on a.f_goes_on a.d_goes_on
  k_goes_on : PySem.W.keepIn K (.ref a.f_goes_on) = true
  bd_goes_on : Binds K a.d_goes_on ["processor"] []
  g_goes_on : mg "goes_on" = some (.ref a.f_goes_on)
  F_run : Fun K "run" "run" s_run a.f_run a.d_run
  k_run : PySem.W.keepIn K (.ref a.f_run) = true
  bd_run : Binds K a.d_run ["processor", "n"] []
  g_run : mg "run" = some (.ref a.f_run)
  F_interrupt : Fun K "interrupt" "interrupt" s_interrupt a.f_interrupt a.d_interrupt
  k_interrupt : PySem.W.keepIn K (.ref a.f_interrupt) = true
  bd_interrupt : Binds K a.d_interrupt ["processor", "vector"] []
  g_interrupt : mg "interrupt" = some (.ref a.f_interrupt)
  F_answer_call : Fun K "answer_call" "answer_call" s_answer_call a.f_answer_call a.d_answer_call
  k_answer_call : PySem.W.keepIn K (.ref a.f_answer_call) = true
  bd_answer_call : Binds K a.d_answer_call ["processor", "reader"] []
  g_answer_call : mg "answer_call" = some (.ref a.f_answer_call)
  F_answers : Fun K "answers" "answers" s_answers a.f_answers a.d_answers
  k_answers : PySem.W.keepIn K (.ref a.f_answers) = true
  bd_answers : Binds K a.d_answers ["calls"] []
  g_answers : mg "answers" = some (.ref a.f_answers)
  c_ADD : ∃ t, mg "ADD" = some (.int 5 t)
  c_ADD_DECIMAL : ∃ t, mg "ADD_DECIMAL" = some (.int 10 t)
  c_ADD_WITH_CARRY : ∃ t, mg "ADD_WITH_CARRY" = some (.int 6 t)
  c_ALLOWED : ∃ t, mg "ALLOWED" = some (.int 8 t)
  c_BEHIND_ONE_OPERAND : ∃ t, mg "BEHIND_ONE_OPERAND" = some (.int 5120 t)
  c_BITS_TOGETHER : ∃ t, mg "BITS_TOGETHER" = some (.int 13 t)
  c_BYTES : ∃ t, mg "BYTES" = some (.int 256 t)
  c_CALL : ∃ t, mg "CALL" = some (.int 5 t)
  c_CARRY : ∃ t, mg "CARRY" = some (.int 1 t)
  c_CLEAR : ∃ t, mg "CLEAR" = some (.int 1 t)
  c_COMMON_BITS_TEST : ∃ t, mg "COMMON_BITS_TEST" = some (.int 11 t)
  c_COMPARE : ∃ t, mg "COMPARE" = some (.int 9 t)
  c_DONE : ∃ t, mg "DONE" = some (.int 0 t)
  c_EXCLUSIVE_OR : ∃ t, mg "EXCLUSIVE_OR" = some (.int 14 t)
  c_FIRST_VECTOR : ∃ t, mg "FIRST_VECTOR" = some (.int 65472 t)
  c_GET : ∃ t, mg "GET" = some (.int 5 t)
  c_HALVE : ∃ t, mg "HALVE" = some (.int 2 t)
  c_INTERRUPT : ∃ t, mg "INTERRUPT" = some (.int 7 t)
  c_INTERRUPTED : ∃ t, mg "INTERRUPTED" = some (.int 1 t)
  c_IN_MEMORY : ∃ t, mg "IN_MEMORY" = some (.int 1 t)
  c_IN_REGISTER : ∃ t, mg "IN_REGISTER" = some (.int 0 t)
  c_JUMPS : ∃ t, mg "JUMPS" = some (.int 8192 t)
  c_LAST_VECTOR : ∃ t, mg "LAST_VECTOR" = some (.int 65535 t)
  c_LOAD : ∃ t, mg "LOAD" = some (.int 2 t)
  c_LOOK : ∃ t, mg "LOOK" = some (.int 3 t)
  c_MEMORY_SIZE : ∃ t, mg "MEMORY_SIZE" = some (.int 65536 t)
  c_MOST_INSTRUCTIONS : ∃ t, mg "MOST_INSTRUCTIONS" = some (.int 1000000 t)
  c_MOVE : ∃ t, mg "MOVE" = some (.int 4 t)
  c_NEGATIVE : ∃ t, mg "NEGATIVE" = some (.int 4 t)
  c_NOTHING : ∃ t, mg "NOTHING" = some (.int 7 t)
  c_NOT_ALLOWED : ∃ t, mg "NOT_ALLOWED" = some (.int 0 t)
  c_ONE_OPERAND : ∃ t, mg "ONE_OPERAND" = some (.int 4096 t)
  c_ON_BYTES : ∃ t, mg "ON_BYTES" = some (.int 64 t)
  c_OTHER_BITS : ∃ t, mg "OTHER_BITS" = some (.int 248 t)
  c_OVERFLOW : ∃ t, mg "OVERFLOW" = some (.int 256 t)
  c_PC : ∃ t, mg "PC" = some (.int 0 t)
  c_PLAIN_NUMBER : ∃ t, mg "PLAIN_NUMBER" = some (.int 2 t)
  c_PUSH : ∃ t, mg "PUSH" = some (.int 4 t)
  c_REFUSED : ∃ t, mg "REFUSED" = some (.int (-1) t)
  c_RETURN : ∃ t, mg "RETURN" = some (.int 6 t)
  c_RETURN_WORD : ∃ t, mg "RETURN_WORD" = some (.int 4864 t)
  c_ROTATE : ∃ t, mg "ROTATE" = some (.int 0 t)
  c_RUN : ∃ t, mg "RUN" = some (.int 6 t)
  c_SET : ∃ t, mg "SET" = some (.int 4 t)
  c_SP : ∃ t, mg "SP" = some (.int 1 t)
  c_SR : ∃ t, mg "SR" = some (.int 2 t)
  c_STOPPED : ∃ t, mg "STOPPED" = some (.int 16 t)
  c_SUBTRACT_WITH_CARRY : ∃ t, mg "SUBTRACT_WITH_CARRY" = some (.int 7 t)
  c_SWAP_BYTES : ∃ t, mg "SWAP_BYTES" = some (.int 1 t)
  c_TWO_OPERANDS : ∃ t, mg "TWO_OPERANDS" = some (.int 16384 t)
  c_WIDEN_SIGN : ∃ t, mg "WIDEN_SIGN" = some (.int 3 t)
  c_WITHOUT_BITS : ∃ t, mg "WITHOUT_BITS" = some (.int 12 t)
  c_WORDS : ∃ t, mg "WORDS" = some (.int 65536 t)
  c_WORD_PLACE : ∃ t, mg "WORD_PLACE" = some (.int 65534 t)
  c_ZERO : ∃ t, mg "ZERO" = some (.int 3 t)
  c_ZERO_RESULT : ∃ t, mg "ZERO_RESULT" = some (.int 2 t)
  g_KEPT_BITS : mg "KEPT_BITS" = some (.ref a.a_KEPT_BITS)
  v_KEPT_BITS : ∀ H : Hp, SqT K H a.a_KEPT_BITS (([65534, 65534, 511, 0, 65535, 65535, 65535, 65535, 65535, 65535, 65535, 65535, 65535, 65535, 65535, 65535] : List Int).map V.int)
  b_enumerate : mg "enumerate" = none
  b_len : mg "len" = none
/-! ### the reader -/
def rdF (c : Addr) (p : Int) : List (Str × V) := [("calls", .ref c), ("place", .int p)]
theorem rdF_calls (c : Addr) (p : Int) : (rdF c p).lookup ("calls" : Str) = some (.ref c) := rfl
theorem rdF_place (c : Addr) (p : Int) : (rdF c p).lookup ("place" : Str) = some (.int p) := rfl
theorem rdF_take (c : Addr) (p : Int) : (rdF c p).lookup ("take" : Str) = none := rfl
theorem rdF_take_row (c : Addr) (p : Int) : (rdF c p).lookup ("take_row" : Str) = none := rfl
theorem rdF_has_more (c : Addr) (p : Int) : (rdF c p).lookup ("has_more" : Str) = none := rfl
theorem rdF_put (c : Addr) (p q : Int) : putF "place" (.int q) (rdF c p) = rdF c q := rfl
theorem rdF_len (c : Addr) (p : Int) : (rdF c p).length = 2 := rfl
section
variable {P : Program} {w : World} {K : PySem.W.Frag} {mg : Str → Option Value} {base : Heap} {a : Ad}
def sp_in_memory : Sp := fun vs H Q _ => ∃ x n : Int, vs = [.int x, .int n] ∧ Q (.bl (decide (0 ≤ n ∧ 0 ≤ x ∧ x + n ≤ 65536))) H
theorem ok_in_memory (T : Txt K mg a) : FnOk P w K mg base CX0 1 a.f_in_memory a.d_in_memory ["at", "n"] sp_in_memory := by
  refine T.F_in_memory.ok sc_in_memory (fun vs H Q E h => ?_) (fun cdv A outer s H vs Q E hr h => ?_)
  · obtain ⟨x, n, rfl, _⟩ := h
    rfl
  · obtain ⟨x, n, rfl, k⟩ := h
    refine ⟨_, (pss_one (ps_ret (pe_and (pe_cmpR op_ge (pv 1) pe_int (nomark _)) (pe_and (pe_cmpR op_ge (pv 0) pe_int (nomark _)) (pe_one (pe_cmpR op_le (pe_op op_add (pv 0) (pv 1)) (pe_gint rfl T.c_MEMORY_SIZE) (nomark _))))))), ?_⟩
    try simp only [RDX, rdF_calls, rdF_place, rdF_take, rdF_take_row, rdF_has_more, rdF_put, rdF_len]
    by_cases h1 : 0 ≤ n <;> by_cases h2 : 0 ≤ x <;> by_cases h3 : x + n ≤ 65536 <;> simp only [h1, h2, h3, if_true, if_false, true_and, and_true, false_and, and_false, decide_true, decide_false] at k ⊢ <;> exact k
def sp_can_be_asked : Sp := fun vs H Q _ => ∃ x : Int, vs = [.int x] ∧ Q (.bl (decide (0 ≤ x ∧ x < 16 ∧ x ≠ 3))) H
theorem ok_can_be_asked (T : Txt K mg a) : FnOk P w K mg base CX0 1 a.f_can_be_asked a.d_can_be_asked ["which"] sp_can_be_asked := by
  refine T.F_can_be_asked.ok sc_can_be_asked (fun vs H Q E h => ?_) (fun cdv A outer s H vs Q E hr h => ?_)
  · obtain ⟨x, rfl, _⟩ := h
    rfl
  · obtain ⟨x, rfl, k⟩ := h
    refine ⟨_, (pss_one (ps_ret (pe_and (pe_chain op_le op_lt pe_int (pv 0) (pe_callB call_len_seq (by rfl) T.b_len PySem.boot_len (pa_cons (pe_gref rfl T.g_KEPT_BITS) pa_nil))) (pe_one (pe_cmpR op_ne (pv 0) (pe_gint rfl T.c_ZERO) (nomark _)))))), ?_⟩
    try simp only [RDX, rdF_calls, rdF_place, rdF_take, rdF_take_row, rdF_has_more, rdF_put, rdF_len]
    refine ite2 (fun h1 => ⟨_, .inr (T.v_KEPT_BITS H), ?_⟩) (fun h1 => ?_)
    · have e : ((List.map V.int [65534, 65534, 511, 0, 65535, 65535, 65535, 65535, 65535, 65535, 65535, 65535, 65535, 65535, 65535, 65535]).length : Int) = 16 := rfl
      rw [e]
      refine ite2 (fun h2 => ?_) (fun h2 => ?_)
      · by_cases h3 : x = 3 <;> simp only [h1, h2, h3, true_and, ne_eq, not_true, not_false_iff, decide_true, decide_false, Bool.not_true, Bool.not_false] at k ⊢ <;> exact k
      · simp only [h2, false_and, and_false, decide_false] at k
        exact k
    · simp only [h1, false_and, decide_false] at k
      exact k
def sp_take (K : PySem.W.Frag) (a : Ad) : Sp := fun vs H Q _ => ∃ (q dx c : Addr) (p : Nat) (l : List Int) (x : Int), vs = [.ref q] ∧ H q = some (.ins a.C_CallReader dx (rdF c p)) ∧ SqL K H c (l.map V.int) ∧ l[p]? = some x ∧
  Q (.int x) (upd H q (.ins a.C_CallReader dx (rdF c (p + 1 : Nat))))
theorem ok_CallReader_take (T : Txt K mg a) : FnOk P w K mg base CX0 1 a.f_CallReader_take a.d_CallReader_take ["self"] (sp_take K a) := by
  refine T.F_CallReader_take.ok sc_CallReader_take (fun vs H Q E h => ?_) (fun cdv A outer s H vs Q E hr h => ?_)
  · obtain ⟨q, dx, c, p, l, x, rfl, _⟩ := h
    rfl
  · obtain ⟨q, dx, c, p, l, x, rfl, hq, hS, hx, k⟩ := h
    refine ⟨_, (pss_cons (ps_set (i := 1) sc_CallReader_take.nd rfl (Or.inl rfl) (pe_ix ix_list (pe_fld (pv 0) rfl) (pe_fld (pv 0) rfl) (fun _ _ => rfl)))
        (pss_cons (ps_fldaug (pv 0) pe_int in_add)
        (pss_one (ps_ret (pv 1))))), ?_⟩
    try simp only [RDX, T.cl_CallReader, T.n_CallReader_calls, T.n_CallReader_place, rdF_calls, rdF_place, rdF_take, rdF_take_row, rdF_has_more, rdF_put, rdF_len, hq]
    refine rd_ixL hS (atI_int hx) ?_
    try simp only [RDX, T.cl_CallReader, T.n_CallReader_calls, T.n_CallReader_place, rdF_calls, rdF_place, rdF_take, rdF_take_row, rdF_has_more, rdF_put, rdF_len, hq]
    exact ⟨by decide, k⟩
def sp_has_more (K : PySem.W.Frag) (a : Ad) : Sp := fun vs H Q _ => ∃ (q dx c : Addr) (p : Nat) (l : List Int), vs = [.ref q] ∧ H q = some (.ins a.C_CallReader dx (rdF c p)) ∧ SqL K H c (l.map V.int) ∧ 
  Q (.bl (decide (p < l.length))) H
theorem ok_CallReader_has_more (T : Txt K mg a) : FnOk P w K mg base CX0 1 a.f_CallReader_has_more a.d_CallReader_has_more ["self"] (sp_has_more K a) := by
  refine T.F_CallReader_has_more.ok sc_CallReader_has_more (fun vs H Q E h => ?_) (fun cdv A outer s H vs Q E hr h => ?_)
  · obtain ⟨q, dx, c, p, l, rfl, _⟩ := h
    rfl
  · obtain ⟨q, dx, c, p, l, rfl, hq, hS, k⟩ := h
    refine ⟨_, (pss_one (ps_ret (pe_cmpR op_lt (pe_fld (pv 0) rfl) (pe_callB call_len_seq (by rfl) T.b_len PySem.boot_len (pa_cons (pe_fld (pv 0) rfl) pa_nil)) (nomark _)))), ?_⟩
    try simp only [RDX, T.cl_CallReader, T.n_CallReader_calls, T.n_CallReader_place, rdF_calls, rdF_place, rdF_take, rdF_take_row, rdF_has_more, rdF_put, rdF_len, hq]
    exact ⟨_, .inl hS, by rw [List.length_map]; simpa using k⟩
def sp_take_row (K : PySem.W.Frag) (a : Ad) : Sp := fun vs H Q _ => ∃ (q dx c : Addr) (p n : Nat) (l : List Int), vs = [.ref q] ∧ H q = some (.ins a.C_CallReader dx (rdF c p)) ∧ SqL K H c (l.map V.int) ∧ l[p]? = some (n : Int) ∧
  ∀ b, H b = none → Q (.ref b) (upd (upd H q (.ins a.C_CallReader dx (rdF c (p + 1 + n : Nat)))) b (.lst (((l.drop (p + 1)).take n).map V.int)))
theorem ok_CallReader_take_row (T : Txt K mg a) : FnOk P w K mg base CX0 2 a.f_CallReader_take_row a.d_CallReader_take_row ["self"] (sp_take_row K a) := by
  refine T.F_CallReader_take_row.ok sc_CallReader_take_row (fun vs H Q E h => ?_) (fun cdv A outer s H vs Q E hr h => ?_)
  · obtain ⟨q, dx, c, p, n, l, rfl, _⟩ := h
    rfl
  · obtain ⟨q, dx, c, p, n, l, rfl, hq, hS, hx, k⟩ := h
    refine ⟨_, (pss_cons (ps_set (i := 1) sc_CallReader_take_row.nd rfl (Or.inl rfl) (pe_meth0 (pv 0) T.cl_CallReader T.m_CallReader_take ((ok_CallReader_take T).mono (by decide)) hr T.bd_CallReader_take .nil pass0))
        (pss_cons (ps_set (i := 2) sc_CallReader_take_row.nd rfl (Or.inl rfl) (pe_fld (pv 0) rfl))
        (pss_cons (ps_fld (pv 0) (pe_op op_add (pv 2) (pv 1)) rfl)
        (pss_one (ps_ret (pe_slice sl_list (pe_fld (pv 0) rfl) (po_some (pv 2)) (po_some (pe_fld (pv 0) rfl)))))))), ?_⟩
    try simp only [RDX, T.cl_CallReader, T.n_CallReader_calls, T.n_CallReader_place, rdF_calls, rdF_place, rdF_take, rdF_take_row, rdF_has_more, rdF_put, rdF_len, hq]
    refine ⟨q, dx, c, p, l, n, rfl, hq, hS, hx, ?_⟩
    try simp only [RDX, T.cl_CallReader, T.n_CallReader_calls, T.n_CallReader_place, rdF_calls, rdF_place, rdF_take, rdF_take_row, rdF_has_more, rdF_put, rdF_len]
    refine ⟨by decide, rd_slL (sqL_ins hS hq) fun b hb => ?_⟩
    have hle : p + 1 ≤ l.length := (List.getElem?_eq_some_iff.mp hx).1
    rw [show ((p + 1 : Nat) : Int) + (n : Int) = ((p + 1 + n : Nat) : Int) by omega, cut_int hle]
    refine k b ?_
    by_cases e : b = q
    · subst e
      rw [upd_same] at hb
      cases hb
    · rw [upd_ne e] at hb
      exact hb
def sp_rdinit (K : PySem.W.Frag) (a : Ad) : Sp := fun vs H Q _ => ∃ (q dx c : Addr), vs = [.ref q, .ref c] ∧ H q = some (.ins a.C_CallReader dx []) ∧
  ∀ H' : Hp, H' q = some (.ins a.C_CallReader dx (rdF c 0)) → (∀ b, b ≠ q → H' b = H b) → Q .non H'
theorem ok_CallReader_init (T : Txt K mg a) : FnOk P w K mg base CX0 1 a.f_CallReader_init a.d_CallReader_init ["self", "calls"] (sp_rdinit K a) := by
  refine T.F_CallReader_init.ok sc_CallReader_init (fun vs H Q E h => ?_) (fun cdv A outer s H vs Q E hr h => ?_)
  · obtain ⟨q, dx, c, rfl, _⟩ := h
    rfl
  · obtain ⟨q, dx, c, rfl, hq, k⟩ := h
    refine ⟨_, (pss_cons (ps_fld (pv 0) (pv 1) rfl)
        (pss_one (ps_fld (pv 0) pe_int rfl))), ?_⟩
    try simp only [RDX, T.cl_CallReader, T.n_CallReader_calls, T.n_CallReader_place, rdF_calls, rdF_place, rdF_take, rdF_take_row, rdF_has_more, rdF_put, rdF_len, hq]
    exact ⟨by decide, (by show 1 < 1000; decide), k _ upd_same fun b hb => upd_ne hb⟩
/-! ### the processor -/
def pF (r m : Addr) : List (Str × V) := [("registers", .ref r), ("memory", .ref m)]
theorem pF_reg (r m : Addr) : (pF r m).lookup ("registers" : Str) = some (.ref r) := rfl
theorem pF_mem (r m : Addr) : (pF r m).lookup ("memory" : Str) = some (.ref m) := rfl
theorem pF_wipe (r m : Addr) : (pF r m).lookup ("wipe" : Str) = none := rfl
theorem pF_load (r m : Addr) : (pF r m).lookup ("load" : Str) = none := rfl
theorem pF_look (r m : Addr) : (pF r m).lookup ("look" : Str) = none := rfl
theorem pF_keep (r m : Addr) : (pF r m).lookup ("keep" : Str) = none := rfl
theorem pF_put (r m : Addr) : (pF r m).lookup ("put" : Str) = none := rfl
theorem pF_held (r m : Addr) : (pF r m).lookup ("held" : Str) = none := rfl
theorem pF_word_at (r m : Addr) : (pF r m).lookup ("word_at" : Str) = none := rfl
theorem pF_keep_word (r m : Addr) : (pF r m).lookup ("keep_word" : Str) = none := rfl
theorem pF_next_word (r m : Addr) : (pF r m).lookup ("next_word" : Str) = none := rfl
theorem pF_push (r m : Addr) : (pF r m).lookup ("push" : Str) = none := rfl
theorem pF_pull (r m : Addr) : (pF r m).lookup ("pull" : Str) = none := rfl
theorem pF_len (r m : Addr) : (pF r m).length = 2 := rfl
def regI (l : List Nat) : List Int := l.map fun n => ((n : Nat) : Int)
structure PAt (a : Ad) (H : Hp) (p r m : Addr) (s : Sz20.St) : Prop where
  ins : ∃ dx, H p = some (.ins a.C_Processor dx (pF r m))
  rg : H r = some (.lst ((regI s.r).map V.int))
  me : H m = some (.lst ((memI s.mem).map V.int))
  good : Good s
/-- the registers' list and memory's are two -/
theorem PAt.ne {a : Ad} {H : Hp} {p r m : Addr} {s : Sz20.St} (h : PAt a H p r m s) : r ≠ m := by
  refine ne_of h.rg h.me fun e => ?_
  have e := congrArg (fun o => match o with | HO.lst xs => xs.length | _ => 0) e
  have e : ((regI s.r).map V.int).length = ((memI s.mem).map V.int).length := e
  rw [List.length_map, List.length_map, memI_length, regI, List.length_map, h.good.len] at e
  cases e
theorem PAt.np {a : Ad} {H : Hp} {p r m : Addr} {s : Sz20.St} (h : PAt a H p r m s) : p ≠ r ∧ p ≠ m := by
  obtain ⟨dx, e⟩ := h.ins
  exact ⟨ne_of e h.rg (by intro z; cases z), ne_of e h.me (by intro z; cases z)⟩
theorem regI_get {l : List Nat} {k : Nat} (h : k < l.length) : (regI l)[k]? = some ((l.getD k 0 : Nat) : Int) := by
  unfold regI
  rw [List.getElem?_map, List.getD_eq_getElem?_getD, List.getElem?_eq_getElem h]
  rfl
theorem regI_set {l : List Nat} {k x : Nat} : (regI l).set k (x : Int) = regI (l.set k x) := by
  unfold regI
  rw [List.map_set]
theorem PAt.other {a : Ad} {H : Hp} {p r m q : Addr} {s : Sz20.St} {o : HO} (h : PAt a H p r m s) (h1 : p ≠ q) (h2 : r ≠ q) (h3 : m ≠ q) : PAt a (upd H q o) p r m s := by
  obtain ⟨dx, e⟩ := h.ins
  exact ⟨⟨dx, by rw [upd_ne h1]; exact e⟩, by rw [upd_ne h2]; exact h.rg, by rw [upd_ne h3]; exact h.me, h.good⟩
/-- kept in a register -/
theorem PAt.setReg {a : Ad} {H : Hp} {p r m : Addr} {s : Sz20.St} (h : PAt a H p r m s) (k x : Nat) : PAt a (upd H r (.lst ((regI (s.r.set k (kept k x))).map V.int))) p r m (s.setReg k x) := by
  obtain ⟨dx, e⟩ := h.ins
  exact ⟨⟨dx, by rw [upd_ne h.np.1]; exact e⟩, upd_same, by rw [upd_ne h.ne.symm]; exact h.me, h.good.setReg k x⟩
/-- all but r and m is as it was -/
def Kp (H H' : Hp) (r m : Addr) : Prop := ∀ c o, c ≠ r → c ≠ m → H c = some o → H' c = some o
section
variable {H H' H2 : Hp} {r m p d : Addr} {s : Sz20.St} {o : HO}
theorem Kp.refl : Kp H H r m := fun _ _ _ _ q => q
theorem Kp.trans (h1 : Kp H H' r m) (h2 : Kp H' H2 r m) : Kp H H2 r m := fun c o a b q => h2 c o a b (h1 c o a b q)
theorem Kp.setR : Kp H (upd H r o) r m := fun c _ a _ q => by rw [upd_ne a]; exact q
theorem Kp.setM : Kp H (upd H m o) r m := fun c _ _ a q => by rw [upd_ne a]; exact q
theorem Kp.new (h : H d = none) : Kp H (upd H d o) r m := fun c _ _ _ q => by rw [upd_ne (ne_of_none q h)]; exact q
theorem Kp.back (k : Kp H H' r m) (hp : PAt a H' p r m s) (h : H' d = none) : H d = none := by
  cases e : H d with
  | none => rfl
  | some o =>
    by_cases e1 : d = r
    · rw [e1, hp.rg] at h
      cases h
    · by_cases e2 : d = m
      · rw [e2, hp.me] at h
        cases h
      · rw [k d o e1 e2 e] at h
        cases h
theorem PAt.new (hp : PAt a H p r m s) (h : H d = none) : PAt a (upd H d o) p r m s := by
  obtain ⟨dx, e⟩ := hp.ins
  exact hp.other (ne_of_none e h) (ne_of_none hp.rg h) (ne_of_none hp.me h)
theorem PAt.regAt (h : PAt a H p r m s) {i : Int} {k : Nat} (hi : i = (k : Int)) (hk : k < 16) : atI ((regI s.r).map V.int) i = some (.int ((s.reg k : Nat) : Int)) := by
  rw [hi]
  exact atI_int (regI_get (by rw [h.good.len]; exact hk))
theorem PAt.byteAt (h : PAt a H p r m s) {i : Int} {k : Nat} (hi : i = (k : Int)) (hk : k < 65536) : atI ((memI s.mem).map V.int) i = some (.int ((s.mem k : Nat) : Int)) := by
  rw [hi]
  exact atI_int (memI_get hk)
end
theorem ixN_nat {n : Nat} {i : Int} {k : Nat} (hi : i = (k : Int)) (h : k < n) : ixN n i = some k := by
  rw [hi, ixN_of (by omega) (by omega), Int.toNat_natCast]
/-- what a call that changes the processor leaves -/
def After (a : Ad) (H : Hp) (p r m : Addr) (s : Sz20.St) (v : V) (Q : VK) : Prop := ∀ H' : Hp, PAt a H' p r m s → Kp H H' r m → Q v H'
def sp_keep (a : Ad) : Sp := fun vs H Q _ => ∃ (p r m : Addr) (s : Sz20.St) (k : Nat) (v : Int), vs = [.ref p, .int k, .int v] ∧ PAt a H p r m s ∧ k < 16 ∧ After a H p r m (s.setReg k (v % 65536).toNat) .non Q
theorem keptI {k : Nat} (h : k < 16) (v : Int) : ∃ z : Int, ([65534, 65534, 511, 0, 65535, 65535, 65535, 65535, 65535, 65535, 65535, 65535, 65535, 65535, 65535, 65535] : List Int)[k]? = some z ∧ Builtin.bitAnd v z = ((kept k (v % 65536).toNat : Nat) : Int) := by
  have e2 : Builtin.bitAnd v 65534 = v % 65536 / 2 * 2 := by
    rw [show (65534 : Int) = ((65534 : Nat) : Int) by rfl, bitAnd_16 v (by decide), land_even (by omega)]
    omega
  have e3 : Builtin.bitAnd v 511 = v % 65536 % 512 := by
    rw [show (511 : Int) = ((511 : Nat) : Int) by rfl, bitAnd_16 v (by decide), show (511 : Nat) = 2 ^ 9 - 1 by rfl, Nat.and_two_pow_sub_one_eq_mod]
    omega
  have e0 : Builtin.bitAnd v 0 = 0 := bitAnd_zero v
  have e1 := bitAnd_m16 v
  match k, h with
  | 0, _ => exact ⟨_, rfl, by rw [e2]; unfold kept Sz20.w16; rw [if_pos (by decide)]; omega⟩
  | 1, _ => exact ⟨_, rfl, by rw [e2]; unfold kept Sz20.w16; rw [if_pos (by decide)]; omega⟩
  | 2, _ => exact ⟨_, rfl, by rw [e3]; unfold kept Sz20.w16; rw [if_neg (by decide), if_pos (by decide)]; omega⟩
  | 3, _ => exact ⟨_, rfl, by rw [e0]; unfold kept Sz20.w16; rw [if_neg (by decide), if_neg (by decide), if_pos rfl]; rfl⟩
  | k + 4, h =>
    refine ⟨65535, ?_, by rw [e1]; unfold kept Sz20.w16; rw [if_neg (by omega), if_neg (by omega), if_neg (by omega)]; omega⟩
    have h : k < 12 := by omega
    show ([65535, 65535, 65535, 65535, 65535, 65535, 65535, 65535, 65535, 65535, 65535, 65535] : List Int)[k]? = some 65535
    exact (by decide : ∀ k, k < 12 → ([65535, 65535, 65535, 65535, 65535, 65535, 65535, 65535, 65535, 65535, 65535, 65535] : List Int)[k]? = some 65535) k h
theorem ok_Processor_keep (T : Txt K mg a) : FnOk P w K mg base CX0 1 a.f_Processor_keep a.d_Processor_keep ["self", "which", "value"] (sp_keep a) := by
  refine T.F_Processor_keep.ok sc_Processor_keep (fun vs H Q E h => ?_) (fun cdv A outer s H vs Q E hr h => ?_)
  · obtain ⟨p, r, m, s, k, v, rfl, _⟩ := h
    rfl
  · obtain ⟨p, r, m, s, j, v, rfl, hp, hj, k⟩ := h
    obtain ⟨dx, e⟩ := hp.ins
    obtain ⟨z, hz, ez⟩ := keptI hj v
    refine ⟨_, (pss_one (ps_asg (pe_op op_and (pv 2) (pe_ix ix_tup (pe_gref rfl T.g_KEPT_BITS) (pv 1) (fun _ _ => rfl))) (pg_sub (pe_fld (pv 0) rfl) (pv 1) set_list))), ?_⟩
    try simp only [RDX, T.cl_Processor, T.n_Processor_registers, rdF_calls, rdF_place, rdF_take, rdF_take_row, rdF_has_more, rdF_put, rdF_len, pF_reg, pF_mem, pF_wipe, pF_load, pF_look, pF_keep, pF_put, pF_len, pF_held, pF_word_at, pF_keep_word, pF_next_word, pF_push, pF_pull, e]
    refine rd_ixT (T.v_KEPT_BITS H) (atI_int hz) ?_
    try simp only [RDX, T.cl_Processor, T.n_Processor_registers, rdF_calls, rdF_place, rdF_take, rdF_take_row, rdF_has_more, rdF_put, rdF_len, pF_reg, pF_mem, pF_wipe, pF_load, pF_look, pF_keep, pF_put, pF_len, pF_held, pF_word_at, pF_keep_word, pF_next_word, pF_push, pF_pull, e, hp.rg]
    refine ⟨j, ixN_of (by omega) (by rw [List.length_map, regI, List.length_map, hp.good.len]; omega), ?_⟩
    rw [ez, ← List.map_set, regI_set]
    exact k _ (hp.setReg j (v % 65536).toNat) .setR
def sp_put (a : Ad) : Sp := fun vs H Q _ => ∃ (p r m : Addr) (s : Sz20.St) (i v : Int), vs = [.ref p, .int i, .int v] ∧ PAt a H p r m s ∧
  if 0 ≤ i ∧ i < 16 ∧ i ≠ 3 then After a H p r m (s.setReg i.toNat (v % 65536).toNat) (.int 0) Q else Q (.int (-1)) H
theorem ok_Processor_put (T : Txt K mg a) : FnOk P w K mg base CX0 2 a.f_Processor_put a.d_Processor_put ["self", "which", "value"] (sp_put a) := by
  refine T.F_Processor_put.ok sc_Processor_put (fun vs H Q E h => ?_) (fun cdv A outer s H vs Q E hr h => ?_)
  · obtain ⟨p, r, m, s, k, v, rfl, _⟩ := h
    rfl
  · obtain ⟨p, r, m, s, i, v, rfl, hp, k⟩ := h
    obtain ⟨dx, e⟩ := hp.ins
    refine ⟨_, (pss_cons (ps_if (pt_not (pt_truth (pe_call ((ok_can_be_asked T).mono (by decide)) hr rfl T.g_can_be_asked T.k_can_be_asked T.bd_can_be_asked .nil pass0 (pa_cons (pv 1) pa_nil)) (fun _ => rfl))) (pss_one (ps_ret (pe_gint rfl T.c_REFUSED))) pss_nil)
        (pss_cons (ps_expr (pe_meth (pv 0) T.cl_Processor T.m_Processor_keep ((ok_Processor_keep T).mono (by decide)) hr T.bd_Processor_keep .nil pass0 (pa_cons (pv 1) (pa_cons (pv 2) pa_nil))))
        (pss_one (ps_ret (pe_gint rfl T.c_DONE))))), ?_⟩
    try simp only [RDX, T.cl_Processor, rdF_calls, rdF_place, rdF_take, rdF_take_row, rdF_has_more, rdF_put, rdF_len, pF_reg, pF_mem, pF_wipe, pF_load, pF_look, pF_keep, pF_put, pF_len, pF_held, pF_word_at, pF_keep_word, pF_next_word, pF_push, pF_pull, e, truv_bl]
    refine ⟨i, rfl, ?_⟩
    try simp only [RDX, T.cl_Processor, rdF_calls, rdF_place, rdF_take, rdF_take_row, rdF_has_more, rdF_put, rdF_len, pF_reg, pF_mem, pF_wipe, pF_load, pF_look, pF_keep, pF_put, pF_len, pF_held, pF_word_at, pF_keep_word, pF_next_word, pF_push, pF_pull, e, truv_bl]
    refine ite2 (fun h1 => ?_) (fun h1 => ?_)
    · rw [if_neg h1] at k
      exact k
    · have h1 := Decidable.not_not.mp h1
      rw [if_pos h1] at k
      exact ⟨p, r, m, s, i.toNat, v, by rw [show ((i.toNat : Nat) : Int) = i by omega], hp, by omega, k⟩

def sp_wipe (a : Ad) : Sp := fun vs H Q _ => ∃ (p dx : Addr) (fs : List (Str × V)), vs = [.ref p] ∧ H p = some (.ins a.C_Processor dx fs) ∧ (fs = [] ∨ ∃ r m, fs = pF r m) ∧
  ∀ (H' : Hp) (r m : Addr), H r = none → H m = none → PAt a H' p r m Sz20.blank → (∀ b o, b ≠ p → H b = some o → H' b = some o) → Q (.int 0) H'
theorem ok_Processor_wipe (T : Txt K mg a) : FnOk P w K mg base CX0 1 a.f_Processor_wipe a.d_Processor_wipe ["self"] (sp_wipe a) := by
  refine T.F_Processor_wipe.ok sc_Processor_wipe (fun vs H Q E h => ?_) (fun cdv A outer s H vs Q E hr h => ?_)
  · obtain ⟨p, dx, fs, rfl, _⟩ := h
    rfl
  · obtain ⟨p, dx, fs, rfl, hp, hf, k⟩ := h
    refine ⟨_, (pss_cons (ps_fld (pv 0) (pe_op op_rep (pe_lst (pa_cons pe_int pa_nil)) (pe_callB call_len_seq (by rfl) T.b_len PySem.boot_len (pa_cons (pe_gref rfl T.g_KEPT_BITS) pa_nil))) rfl)
        (pss_cons (ps_fld (pv 0) (pe_op op_rep (pe_lst (pa_cons pe_int pa_nil)) (pe_gint rfl T.c_MEMORY_SIZE)) rfl)
        (pss_one (ps_ret (pe_gint rfl T.c_DONE))))), ?_⟩
    try simp only [RDX, T.cl_Processor, T.n_Processor_memory, T.n_Processor_registers, rdF_calls, rdF_place, rdF_take, rdF_take_row, rdF_has_more, rdF_put, rdF_len, pF_reg, pF_mem, pF_wipe, pF_load, pF_look, pF_keep, pF_put, pF_len, pF_held, pF_word_at, pF_keep_word, pF_next_word, pF_push, pF_pull, hp]
    refine ⟨by decide, fun b1 h1 => ⟨_, .inr (T.v_KEPT_BITS _), by decide, by decide, by decide, fun b2 h2 => ?_⟩⟩
    obtain ⟨n21, h2⟩ := upd_none.mp h2
    have np1 := ne_of_none hp h1
    have np2 := ne_of_none hp h2
    have hl0 : fs.length < 1000 := by
      rcases hf with rfl | ⟨r, m, rfl⟩
      · decide
      · show 2 < 1000
        decide
    have hl1 : (putF (Str.ofString "registers") (V.ref b2) fs).length < 1000 := by
      rcases hf with rfl | ⟨r, m, rfl⟩
      · show 1 < 1000
        decide
      · show 2 < 1000
        decide
    try simp only [RDX, T.cl_Processor, T.n_Processor_memory, T.n_Processor_registers, rdF_calls, rdF_place, rdF_take, rdF_take_row, rdF_has_more, rdF_put, rdF_len, pF_reg, pF_mem, pF_wipe, pF_load, pF_look, pF_keep, pF_put, pF_len, pF_held, pF_word_at, pF_keep_word, pF_next_word, pF_push, pF_pull, upd_ne np2, upd_ne np1, hp]
    refine ⟨hl0, by decide, fun b3 h3 => ⟨by decide, by decide, by decide, fun b4 h4 => ?_⟩⟩
    obtain ⟨n3p, h3⟩ := upd_none.mp h3
    obtain ⟨n32, h3⟩ := upd_none.mp h3
    obtain ⟨n31, h3⟩ := upd_none.mp h3
    obtain ⟨n43, h4⟩ := upd_none.mp h4
    obtain ⟨n4p, h4⟩ := upd_none.mp h4
    obtain ⟨n42, h4⟩ := upd_none.mp h4
    obtain ⟨n41, h4⟩ := upd_none.mp h4
    try simp only [RDX, T.cl_Processor, T.n_Processor_memory, T.n_Processor_registers, rdF_calls, rdF_place, rdF_take, rdF_take_row, rdF_has_more, rdF_put, rdF_len, pF_reg, pF_mem, pF_wipe, pF_load, pF_look, pF_keep, pF_put, pF_len, pF_held, pF_word_at, pF_keep_word, pF_next_word, pF_push, pF_pull, upd_ne n3p.symm, upd_ne n4p.symm]
    refine ⟨hl1, ?_⟩
    rw [show putF (Str.ofString "memory") (V.ref b4) (putF (Str.ofString "registers") (V.ref b2) fs) = pF b2 b4 by rcases hf with rfl | ⟨r, m, rfl⟩ <;> rfl]
    refine k _ b2 b4 h2 h4 ⟨⟨dx, upd_same⟩, ?_, ?_, good_blank⟩ fun b o hb e => ?_
    · rw [upd_ne np2.symm, upd_ne n42.symm, upd_ne n32.symm, upd_ne np2.symm, upd_same]
      rfl
    · rw [upd_ne n4p, upd_same, List.flatten_replicate_singleton]
      show some (HO.lst (List.replicate 65536 (V.int 0))) = some (HO.lst ((memI fun _ => 0).map V.int))
      rw [← memI_zero, List.map_replicate]
    · rw [upd_ne hb, upd_ne (ne_of_none e h4), upd_ne (ne_of_none e h3), upd_ne hb, upd_ne (ne_of_none e h2), upd_ne (ne_of_none e h1)]
      exact e
def sp_look (a : Ad) : Sp := fun vs H Q _ => ∃ (p r m : Addr) (s : Sz20.St) (x n : Int), vs = [.ref p, .int x, .int n] ∧ PAt a H p r m s ∧
  ∀ (H' : Hp) (b : Addr), H b = none → (∀ c o, H c = some o → H' c = some o) → H' b = some (.lst ((if n < 0 ∨ x < 0 ∨ 65536 < x + n then [-1] else 0 :: (List.range n.toNat).map fun i => ((s.mem (x.toNat + i) : Nat) : Int)).map V.int)) → Q (.ref b) H'
theorem ok_Processor_look (T : Txt K mg a) : FnOk P w K mg base CX0 2 a.f_Processor_look a.d_Processor_look ["self", "at", "n"] (sp_look a) := by
  refine T.F_Processor_look.ok sc_Processor_look (fun vs H Q E h => ?_) (fun cdv A outer s H vs Q E hr h => ?_)
  · obtain ⟨p, r, m, s, x, n, rfl, _⟩ := h
    rfl
  · obtain ⟨p, r, m, s, x, n, rfl, hp, k⟩ := h
    obtain ⟨dx, e⟩ := hp.ins
    refine ⟨_, (pss_cons (ps_if (pt_not (pt_truth (pe_call ((ok_in_memory T).mono (by decide)) hr rfl T.g_in_memory T.k_in_memory T.bd_in_memory .nil pass0 (pa_cons (pv 1) (pa_cons (pv 2) pa_nil))) (fun _ => rfl))) (pss_one (ps_ret (pe_lst (pa_cons (pe_gint rfl T.c_REFUSED) pa_nil)))) pss_nil)
        (pss_one (ps_ret (pe_op op_cat (pe_lst (pa_cons (pe_gint rfl T.c_DONE) pa_nil)) (pe_slice sl_list (pe_fld (pv 0) rfl) (po_some (pv 1)) (po_some (pe_op op_add (pv 1) (pv 2)))))))), ?_⟩
    try simp only [RDX, T.cl_Processor, T.n_Processor_memory, rdF_calls, rdF_place, rdF_take, rdF_take_row, rdF_has_more, rdF_put, rdF_len, pF_reg, pF_mem, pF_wipe, pF_load, pF_look, pF_keep, pF_put, pF_len, pF_held, pF_word_at, pF_keep_word, pF_next_word, pF_push, pF_pull, e, truv_bl]
    refine ⟨x, n, rfl, ?_⟩
    try simp only [RDX, T.cl_Processor, T.n_Processor_memory, rdF_calls, rdF_place, rdF_take, rdF_take_row, rdF_has_more, rdF_put, rdF_len, pF_reg, pF_mem, pF_wipe, pF_load, pF_look, pF_keep, pF_put, pF_len, pF_held, pF_word_at, pF_keep_word, pF_next_word, pF_push, pF_pull, e, truv_bl]
    refine ite2 (fun h1 => ⟨by decide, fun b hb => ?_⟩) (fun h1 => ⟨by decide, fun b1 hb1 => ?_⟩)
    · refine k _ b hb (fun c o q => by rw [upd_ne (ne_of_none q hb)]; exact q) ?_
      rw [upd_same, if_pos (by omega)]
      rfl
    · have h1 := Decidable.not_not.mp h1
      try simp only [RDX, T.cl_Processor, T.n_Processor_memory, rdF_calls, rdF_place, rdF_take, rdF_take_row, rdF_has_more, rdF_put, rdF_len, pF_reg, pF_mem, pF_wipe, pF_load, pF_look, pF_keep, pF_put, pF_len, pF_held, pF_word_at, pF_keep_word, pF_next_word, pF_push, pF_pull, upd_ne (ne_of_none e hb1), e]
      refine rd_slL (SqL.of (by rw [upd_ne (ne_of_none hp.me hb1)]; exact hp.me)) fun b2 hb2 => ?_
      obtain ⟨n21, hb2⟩ := upd_none.mp hb2
      try simp only [RDX, T.cl_Processor, T.n_Processor_memory, rdF_calls, rdF_place, rdF_take, rdF_take_row, rdF_has_more, rdF_put, rdF_len, pF_reg, pF_mem, pF_wipe, pF_load, pF_look, pF_keep, pF_put, pF_len, pF_held, pF_word_at, pF_keep_word, pF_next_word, pF_push, pF_pull, upd_ne n21.symm]
      have ec : cutV ((memI s.mem).map V.int) (some x) (some (x + n)) = ((List.range n.toNat).map fun i => ((s.mem (x.toNat + i) : Nat) : Int)).map V.int := by
        have q := cut_int (l := memI s.mem) (i := x.toNat) (n := n.toNat) (by rw [memI_length]; omega)
        rw [memI_cut (by omega)] at q
        rw [← q, show ((x.toNat : Nat) : Int) = x by omega, show ((x.toNat + n.toNat : Nat) : Int) = x + n by omega]
      rw [ec]
      refine ⟨by rw [List.length_map, List.length_map, List.length_range]; show 0 + 1 + n.toNat ≤ 2 ^ 24; omega, fun b3 hb3 => ?_⟩
      obtain ⟨n32, hb3⟩ := upd_none.mp hb3
      obtain ⟨n31, hb3⟩ := upd_none.mp hb3
      refine k _ b3 hb3 (fun c o q => by rw [upd_ne (ne_of_none q hb3), upd_ne (ne_of_none q hb2), upd_ne (ne_of_none q hb1)]; exact q) ?_
      rw [upd_same, if_neg (by omega)]
      rfl
/-- a byte written -/
theorem PAt.putByte {a : Ad} {H : Hp} {p r m : Addr} {s : Sz20.St} (h : PAt a H p r m s) (i x : Nat) : PAt a (upd H m (.lst ((memI (s.putByte i x).mem).map V.int))) p r m (s.putByte i x) := by
  obtain ⟨dx, e⟩ := h.ins
  exact ⟨⟨dx, by rw [upd_ne h.np.2]; exact e⟩, by rw [upd_ne h.ne]; exact h.rg, upd_same, h.good.putByte i x⟩
theorem mem_putByte {s : Sz20.St} {i x : Nat} (h : x < 256) : (memI s.mem).set (i % 65536) ((x : Nat) : Int) = memI (s.putByte i x).mem := by
  rw [memI_set]
  refine memI_ext fun j _ => ?_
  show _ = if j = i % 65536 then x % 256 else s.mem j
  rw [Nat.mod_eq_of_lt h]
theorem PAt.keep {a : Ad} {H H' : Hp} {p r m : Addr} {s : Sz20.St} (h : PAt a H p r m s) (k : ∀ b o, H b = some o → H' b = some o) : PAt a H' p r m s := by
  obtain ⟨dx, e⟩ := h.ins
  exact ⟨⟨dx, k _ _ e⟩, k _ _ h.rg, k _ _ h.me, h.good⟩
def sp_load (K : PySem.W.Frag) (a : Ad) : Sp := fun vs H Q _ => ∃ (p r m b : Addr) (s : Sz20.St) (x : Int) (l : List Int), vs = [.ref p, .int x, .ref b] ∧ PAt a H p r m s ∧ SqL K H b (l.map V.int) ∧ b ≠ m ∧ (∀ z ∈ l, 0 ≤ z ∧ z < 256) ∧
  ∀ (H' : Hp), PAt a H' p r m (Sz20.does s (.load x (Sz20Neutral.octets l) l.length)).1 → (∀ c o, c ≠ m → H c = some o → H' c = some o) → Q (.int (Sz20.does s (.load x (Sz20Neutral.octets l) l.length)).2.value) H'
theorem ok_Processor_load (T : Txt K mg a) : FnOk P w K mg base CX0 2 a.f_Processor_load a.d_Processor_load ["self", "at", "row"] (sp_load K a) := by
  refine T.F_Processor_load.ok sc_Processor_load (fun vs H Q E h => ?_) (fun cdv A outer s H vs Q E hr h => ?_)
  · obtain ⟨p, r, m, b, s, x, l, rfl, _⟩ := h
    rfl
  · obtain ⟨p, r, m, b, s, x, l, rfl, hp, hS, hbm, hl, k⟩ := h
    obtain ⟨dx, e⟩ := hp.ins
    refine ⟨_, (pss_cons (ps_if (pt_not (pt_truth (pe_call ((ok_in_memory T).mono (by decide)) hr rfl T.g_in_memory T.k_in_memory T.bd_in_memory .nil pass0 (pa_cons (pv 1) (pa_cons (pe_callB call_len_seq (by rfl) T.b_len PySem.boot_len (pa_cons (pv 2) pa_nil)) pa_nil))) (fun _ => rfl))) (pss_one (ps_ret (pe_gint rfl T.c_REFUSED))) pss_nil)
        (pss_cons (ps_for PassesOwn.never rfl (pi_enum rfl T.b_enumerate (pa_cons (pv 2) pa_nil)) (pg_tup (n := 2) rfl (pgs_cons (pg_name (i := 3) sc_Processor_load.nd rfl (Or.inl rfl)) (pgs_cons (pg_name (i := 4) sc_Processor_load.nd rfl (Or.inl rfl)) pgs_nil))) (pss_one (ps_asg (pv 4) (pg_sub (pe_fld (pv 0) rfl) (pe_op op_add (pv 1) (pv 3)) set_list))))
        (pss_one (ps_ret (pe_gint rfl T.c_DONE))))), ?_⟩
    try simp only [RDX, T.cl_Processor, T.n_Processor_memory, rdF_calls, rdF_place, rdF_take, rdF_take_row, rdF_has_more, rdF_put, rdF_len, pF_reg, pF_mem, pF_wipe, pF_load, pF_look, pF_keep, pF_put, pF_len, pF_held, pF_word_at, pF_keep_word, pF_next_word, pF_push, pF_pull, e, truv_bl]
    refine ⟨_, .inl hS, x, _, rfl, ?_⟩
    try simp only [RDX, T.cl_Processor, T.n_Processor_memory, rdF_calls, rdF_place, rdF_take, rdF_take_row, rdF_has_more, rdF_put, rdF_len, pF_reg, pF_mem, pF_wipe, pF_load, pF_look, pF_keep, pF_put, pF_len, pF_held, pF_word_at, pF_keep_word, pF_next_word, pF_push, pF_pull, e, truv_bl]
    rw [List.length_map] at *
    have ed : Sz20.does s (.load x (Sz20Neutral.octets l) l.length) = if ((l.length : Int) < 0 ∨ x < 0 ∨ 65536 < x + l.length) then (s, Sz20.only (-1)) else (Sz20.putAll s x.toNat (Sz20Neutral.octets l), Sz20.only 0) := rfl
    refine ite2 (fun h1 => ?_) (fun h1 => ?_)
    · rw [ed, if_pos (by omega)] at k
      exact k H hp fun _ _ _ q => q
    · have h1 := Decidable.not_not.mp h1
      rw [ed, if_neg (by omega)] at k
      refine ⟨.ref b, rfl, b, _, rfl, hS, ?_⟩
      refine for_enum (K := K) (a := b) (xs := l.map V.int) (fun i σ H' => ∃ v3 v4 : Option V, σ = [some (.ref p), some (.int x), some (.ref b), v3, v4] ∧ PAt a H' p r m (Sz20.putAll s x.toNat (Sz20Neutral.octets (l.take i))) ∧ ∀ c o, c ≠ m → H c = some o → H' c = some o)
        ⟨none, none, rfl, hp, fun _ _ _ q => q⟩ (fun i σ H' _ ⟨_, _, _, _, kp⟩ => sqL_keep hS kp hbm) ?_ ?_
      · rintro i y σ H' t hi ⟨v3, v4, rfl, hp', kp⟩ ht
        rw [List.getElem?_map] at hi
        cases ez : l[i]? with
        | none => rw [ez] at hi; cases hi
        | some z =>
          rw [ez] at hi
          have hi : V.int z = y := Option.some.inj hi
          subst hi
          have hz := hl z (List.mem_of_getElem? ez)
          have il : i < l.length := (List.getElem?_eq_some_iff.mp ez).1
          obtain ⟨dx', e'⟩ := hp'.ins
          refine ⟨t, _, rfl, SqT.of upd_same, rfl, ?_⟩
          try simp only [RDX, T.cl_Processor, T.n_Processor_memory, rdF_calls, rdF_place, rdF_take, rdF_take_row, rdF_has_more, rdF_put, rdF_len, pF_reg, pF_mem, pF_wipe, pF_load, pF_look, pF_keep, pF_put, pF_len, pF_held, pF_word_at, pF_keep_word, pF_next_word, pF_push, pF_pull, upd_ne (ne_of_none e' ht), upd_ne (ne_of_none hp'.me ht), e', hp'.me]
          refine ⟨_, ixN_of (by omega) (by rw [List.length_map, memI_length]; omega), ?_, ?_⟩
          · have q := (hp'.keep (H' := upd H' t (.tup [.int (i : Nat), .int z])) fun b o q => by rw [upd_ne (ne_of_none q ht)]; exact q).putByte (x.toNat + i) z.toNat
            rw [← mem_putByte (by omega), ← List.map_set.symm, show (x.toNat + i) % 65536 = (x + (i : Int)).toNat by omega, show ((z.toNat : Nat) : Int) = z by omega] at q
            have eo : Sz20Neutral.octets (l.take i ++ [z]) = Sz20Neutral.octets (l.take i) ++ [UInt8.ofNat z.toNat] := by
              unfold Sz20Neutral.octets
              rw [List.map_append]
              rfl
            rw [take_snoc ez, eo, putAll_snoc]
            have e1 : (Sz20Neutral.octets (l.take i)).length = i := by
              unfold Sz20Neutral.octets
              rw [List.length_map, List.length_take]
              omega
            have e2 : (UInt8.ofNat z.toNat).toNat = z.toNat := by
              rw [UInt8.toNat_ofNat']
              exact Nat.mod_eq_of_lt (by omega)
            rw [e1, e2]
            exact q
          · intro c o hc q
            rw [upd_ne hc, upd_ne (ne_of_none (kp c o hc q) ht)]
            exact kp c o hc q
      · rintro σ H' ⟨v3, v4, rfl, hp', kp⟩
        rw [List.length_map, List.take_length] at hp'
        exact k H' hp' kp

def sp_pinit (a : Ad) : Sp := fun vs H Q _ => ∃ (p dx : Addr), vs = [.ref p] ∧ H p = some (.ins a.C_Processor dx []) ∧
  ∀ (H' : Hp) (r m : Addr), H r = none → H m = none → PAt a H' p r m Sz20.blank → (∀ b o, b ≠ p → H b = some o → H' b = some o) → Q .non H'
theorem ok_Processor_init (T : Txt K mg a) : FnOk P w K mg base CX0 2 a.f_Processor_init a.d_Processor_init ["self"] (sp_pinit a) := by
  refine T.F_Processor_init.ok sc_Processor_init (fun vs H Q E h => ?_) (fun cdv A outer s H vs Q E hr h => ?_)
  · obtain ⟨p, dx, rfl, _⟩ := h
    rfl
  · obtain ⟨p, dx, rfl, hp, k⟩ := h
    refine ⟨_, (pss_one (ps_expr (pe_meth0 (pv 0) T.cl_Processor T.m_Processor_wipe ((ok_Processor_wipe T).mono (by decide)) hr T.bd_Processor_wipe .nil pass0))), ?_⟩
    try simp only [RDX, T.cl_Processor, rdF_calls, rdF_place, rdF_take, rdF_take_row, rdF_has_more, rdF_put, rdF_len, pF_reg, pF_mem, pF_wipe, pF_load, pF_look, pF_keep, pF_put, pF_len, pF_held, pF_word_at, pF_keep_word, pF_next_word, pF_push, pF_pull, hp]
    exact ⟨rfl, p, dx, [], rfl, hp, .inl rfl, k⟩
/-! ### the processor's words -/
def sp_held (a : Ad) : Sp := fun vs H Q _ => ∃ (p r m : Addr) (s : Sz20.St) (i : Int), vs = [.ref p, .int i] ∧ PAt a H p r m s ∧ Q (.int (if 0 ≤ i ∧ i < 16 ∧ i ≠ 3 then ((s.reg i.toNat : Nat) : Int) else -1)) H
theorem ok_Processor_held (T : Txt K mg a) : FnOk P w K mg base CX0 2 a.f_Processor_held a.d_Processor_held ["self", "which"] (sp_held a) := by
  refine T.F_Processor_held.ok sc_Processor_held (fun vs H Q E h => ?_) (fun cdv A outer s H vs Q E hr h => ?_)
  · obtain ⟨p, r, m, s, i, rfl, _⟩ := h
    rfl
  · obtain ⟨p, r, m, s, i, rfl, hp, k⟩ := h
    obtain ⟨dx, e⟩ := hp.ins
    refine ⟨_, (pss_cons (ps_if (pt_not (pt_truth (pe_call ((ok_can_be_asked T).mono (by decide)) hr rfl T.g_can_be_asked T.k_can_be_asked T.bd_can_be_asked .nil pass0 (pa_cons (pv 1) pa_nil)) (fun _ => rfl))) (pss_one (ps_ret (pe_gint rfl T.c_REFUSED))) pss_nil)
        (pss_one (ps_ret (pe_ix ix_list (pe_fld (pv 0) rfl) (pv 1) (fun _ _ => rfl))))), ?_⟩
    try simp only [RDX, T.cl_Processor, T.n_Processor_registers, rdF_calls, rdF_place, rdF_take, rdF_take_row, rdF_has_more, rdF_put, rdF_len, pF_reg, pF_mem, pF_wipe, pF_load, pF_look, pF_keep, pF_put, pF_len, pF_held, pF_word_at, pF_keep_word, pF_next_word, pF_push, pF_pull, e, truv_bl]
    refine ⟨i, rfl, ?_⟩
    try simp only [RDX, T.cl_Processor, T.n_Processor_registers, rdF_calls, rdF_place, rdF_take, rdF_take_row, rdF_has_more, rdF_put, rdF_len, pF_reg, pF_mem, pF_wipe, pF_load, pF_look, pF_keep, pF_put, pF_len, pF_held, pF_word_at, pF_keep_word, pF_next_word, pF_push, pF_pull, e, truv_bl]
    refine ite2 (fun h1 => ?_) (fun h1 => ?_)
    · rw [if_neg h1] at k
      exact k
    · have h1 := Decidable.not_not.mp h1
      rw [if_pos h1] at k
      exact rd_ixL (SqL.of hp.rg) (hp.regAt (k := i.toNat) (by omega) (by omega)) k
def sp_word_at (a : Ad) : Sp := fun vs H Q _ => ∃ (p r m : Addr) (s : Sz20.St) (x : Nat), vs = [.ref p, .int x] ∧ PAt a H p r m s ∧ Q (.int ((s.word x : Nat) : Int)) H
theorem ok_Processor_word_at (T : Txt K mg a) : FnOk P w K mg base CX0 1 a.f_Processor_word_at a.d_Processor_word_at ["self", "at"] (sp_word_at a) := by
  refine T.F_Processor_word_at.ok sc_Processor_word_at (fun vs H Q E h => ?_) (fun cdv A outer s H vs Q E hr h => ?_)
  · obtain ⟨p, r, m, s, x, rfl, _⟩ := h
    rfl
  · obtain ⟨p, r, m, s, x, rfl, hp, k⟩ := h
    obtain ⟨dx, e⟩ := hp.ins
    refine ⟨_, (pss_cons (ps_set (i := 2) sc_Processor_word_at.nd rfl (Or.inl rfl) (pe_op op_and (pv 1) (pe_gint rfl T.c_WORD_PLACE)))
        (pss_one (ps_ret (pe_op op_add (pe_ix ix_list (pe_fld (pv 0) rfl) (pv 2) (fun _ _ => rfl)) (pe_op op_mul pe_int (pe_ix ix_list (pe_fld (pv 0) rfl) (pe_op op_add (pv 2) pe_int) (fun _ _ => rfl))))))), ?_⟩
    try simp only [RDX, T.cl_Processor, T.n_Processor_memory, rdF_calls, rdF_place, rdF_take, rdF_take_row, rdF_has_more, rdF_put, rdF_len, pF_reg, pF_mem, pF_wipe, pF_load, pF_look, pF_keep, pF_put, pF_len, pF_held, pF_word_at, pF_keep_word, pF_next_word, pF_push, pF_pull, e, even16]
    refine rd_ixL (SqL.of hp.me) (hp.byteAt (k := x % 65536 / 2 * 2) (by omega) (by omega)) ?_
    try simp only [RDX, T.cl_Processor, T.n_Processor_memory, rdF_calls, rdF_place, rdF_take, rdF_take_row, rdF_has_more, rdF_put, rdF_len, pF_reg, pF_mem, pF_wipe, pF_load, pF_look, pF_keep, pF_put, pF_len, pF_held, pF_word_at, pF_keep_word, pF_next_word, pF_push, pF_pull, e]
    refine rd_ixL (SqL.of hp.me) (hp.byteAt (k := x % 65536 / 2 * 2 + 1) (by omega) (by omega)) ?_
    try simp only [RDX, T.cl_Processor, T.n_Processor_memory, rdF_calls, rdF_place, rdF_take, rdF_take_row, rdF_has_more, rdF_put, rdF_len, pF_reg, pF_mem, pF_wipe, pF_load, pF_look, pF_keep, pF_put, pF_len, pF_held, pF_word_at, pF_keep_word, pF_next_word, pF_push, pF_pull, e]
    refine ⟨.inl ⟨by decide, by decide⟩, ?_⟩
    have e1 : s.word x = s.mem (x % 65536 / 2 * 2) + 256 * s.mem (x % 65536 / 2 * 2 + 1) := by
      show s.mem ((x % 65536 / 2 * 2) % 65536) + 256 * s.mem ((x % 65536 / 2 * 2 + 1) % 65536) = _
      rw [Nat.mod_eq_of_lt (by omega), Nat.mod_eq_of_lt (a := x % 65536 / 2 * 2 + 1) (by omega)]
    rw [e1] at k
    exact k
theorem memV_set {s : Sz20.St} {i x : Nat} (hi : i < 65536) (hx : x < 256) : ((memI s.mem).map V.int).set i (.int ((x : Nat) : Int)) = (memI (s.putByte i x).mem).map V.int := by
  rw [← mem_putByte hx, Nat.mod_eq_of_lt hi, List.map_set]
theorem putByte_mod {s : Sz20.St} {i x : Nat} : s.putByte i (x % 256) = s.putByte i x := by
  unfold Sz20.St.putByte
  rw [Nat.mod_mod]
def sp_keep_word (a : Ad) : Sp := fun vs H Q _ => ∃ (p r m : Addr) (s : Sz20.St) (x y : Nat), vs = [.ref p, .int x, .int y] ∧ PAt a H p r m s ∧ y < 65536 ∧ After a H p r m (s.putWord x y) .non Q
theorem ok_Processor_keep_word (T : Txt K mg a) : FnOk P w K mg base CX0 1 a.f_Processor_keep_word a.d_Processor_keep_word ["self", "at", "word"] (sp_keep_word a) := by
  refine T.F_Processor_keep_word.ok sc_Processor_keep_word (fun vs H Q E h => ?_) (fun cdv A outer s H vs Q E hr h => ?_)
  · obtain ⟨p, r, m, s, x, y, rfl, _⟩ := h
    rfl
  · obtain ⟨p, r, m, s, x, y, rfl, hp, hy, k⟩ := h
    obtain ⟨dx, e⟩ := hp.ins
    refine ⟨_, (pss_cons (ps_set (i := 3) sc_Processor_keep_word.nd rfl (Or.inl rfl) (pe_op op_and (pv 1) (pe_gint rfl T.c_WORD_PLACE)))
        (pss_cons (ps_asg (pe_op op_and (pv 2) pe_int) (pg_sub (pe_fld (pv 0) rfl) (pv 3) set_list))
        (pss_one (ps_asg (pe_op op_shr (pv 2) pe_int) (pg_sub (pe_fld (pv 0) rfl) (pe_op op_add (pv 3) pe_int) set_list))))), ?_⟩
    try simp only [RDX, T.cl_Processor, T.n_Processor_memory, rdF_calls, rdF_place, rdF_take, rdF_take_row, rdF_has_more, rdF_put, rdF_len, pF_reg, pF_mem, pF_wipe, pF_load, pF_look, pF_keep, pF_put, pF_len, pF_held, pF_word_at, pF_keep_word, pF_next_word, pF_push, pF_pull, e, even16, hp.me, m255]
    refine ⟨_, ixN_nat (k := x % 65536 / 2 * 2) (by omega) (by rw [List.length_map, memI_length]; omega), ?_⟩
    try simp only [RDX, T.cl_Processor, T.n_Processor_memory, rdF_calls, rdF_place, rdF_take, rdF_take_row, rdF_has_more, rdF_put, rdF_len, pF_reg, pF_mem, pF_wipe, pF_load, pF_look, pF_keep, pF_put, pF_len, pF_held, pF_word_at, pF_keep_word, pF_next_word, pF_push, pF_pull, upd_ne hp.np.2, e]
    rw [memV_set (by omega) (by omega), putByte_mod]
    refine ⟨by decide, _, ixN_nat (k := x % 65536 / 2 * 2 + 1) (by omega) (by rw [List.length_map, memI_length]; omega), ?_⟩
    rw [shr, show (8 : Int).toNat = 8 by rfl, show 2 ^ 8 = 256 by rfl, memV_set (by omega) (by omega)]
    refine k _ ?_ .setM
    have q := (hp.putByte (x % 65536 / 2 * 2) y).putByte (x % 65536 / 2 * 2 + 1) (y / 256)
    rw [upd_upd] at q
    exact q
def sp_next_word (a : Ad) : Sp := fun vs H Q _ => ∃ (p r m : Addr) (s : Sz20.St), vs = [.ref p] ∧ PAt a H p r m s ∧ After a H p r m s.fetch.1 (.int ((s.fetch.2 : Nat) : Int)) Q
theorem ok_Processor_next_word (T : Txt K mg a) : FnOk P w K mg base CX0 2 a.f_Processor_next_word a.d_Processor_next_word ["self"] (sp_next_word a) := by
  refine T.F_Processor_next_word.ok sc_Processor_next_word (fun vs H Q E h => ?_) (fun cdv A outer s H vs Q E hr h => ?_)
  · obtain ⟨p, r, m, s, rfl, _⟩ := h
    rfl
  · obtain ⟨p, r, m, s, rfl, hp, k⟩ := h
    obtain ⟨dx, e⟩ := hp.ins
    refine ⟨_, (pss_cons (ps_set (i := 1) sc_Processor_next_word.nd rfl (Or.inl rfl) (pe_meth (pv 0) T.cl_Processor T.m_Processor_word_at ((ok_Processor_word_at T).mono (by decide)) hr T.bd_Processor_word_at .nil pass0 (pa_cons (pe_ix ix_list (pe_fld (pv 0) rfl) (pe_gint rfl T.c_PC) (fun _ _ => rfl)) pa_nil)))
        (pss_cons (ps_expr (pe_meth (pv 0) T.cl_Processor T.m_Processor_keep ((ok_Processor_keep T).mono (by decide)) hr T.bd_Processor_keep .nil pass0 (pa_cons (pe_gint rfl T.c_PC) (pa_cons (pe_op op_add (pe_ix ix_list (pe_fld (pv 0) rfl) (pe_gint rfl T.c_PC) (fun _ _ => rfl)) pe_int) pa_nil))))
        (pss_one (ps_ret (pv 1))))), ?_⟩
    try simp only [RDX, T.cl_Processor, T.n_Processor_registers, rdF_calls, rdF_place, rdF_take, rdF_take_row, rdF_has_more, rdF_put, rdF_len, pF_reg, pF_mem, pF_wipe, pF_load, pF_look, pF_keep, pF_put, pF_len, pF_held, pF_word_at, pF_keep_word, pF_next_word, pF_push, pF_pull, e]
    refine rd_ixL (SqL.of hp.rg) (hp.regAt (k := 0) rfl (by decide)) ?_
    try simp only [RDX, T.cl_Processor, T.n_Processor_registers, rdF_calls, rdF_place, rdF_take, rdF_take_row, rdF_has_more, rdF_put, rdF_len, pF_reg, pF_mem, pF_wipe, pF_load, pF_look, pF_keep, pF_put, pF_len, pF_held, pF_word_at, pF_keep_word, pF_next_word, pF_push, pF_pull, e]
    refine ⟨p, r, m, s, s.reg 0, rfl, hp, ?_⟩
    try simp only [RDX, T.cl_Processor, T.n_Processor_registers, rdF_calls, rdF_place, rdF_take, rdF_take_row, rdF_has_more, rdF_put, rdF_len, pF_reg, pF_mem, pF_wipe, pF_load, pF_look, pF_keep, pF_put, pF_len, pF_held, pF_word_at, pF_keep_word, pF_next_word, pF_push, pF_pull, e]
    refine rd_ixL (SqL.of hp.rg) (hp.regAt (k := 0) rfl (by decide)) ?_
    try simp only [RDX, T.cl_Processor, T.n_Processor_registers, rdF_calls, rdF_place, rdF_take, rdF_take_row, rdF_has_more, rdF_put, rdF_len, pF_reg, pF_mem, pF_wipe, pF_load, pF_look, pF_keep, pF_put, pF_len, pF_held, pF_word_at, pF_keep_word, pF_next_word, pF_push, pF_pull, e]
    refine ⟨p, r, m, s, 0, _, rfl, hp, by decide, fun H1 h1 k1 => ?_⟩
    try simp only [RDX, T.cl_Processor, T.n_Processor_registers, rdF_calls, rdF_place, rdF_take, rdF_take_row, rdF_has_more, rdF_put, rdF_len, pF_reg, pF_mem, pF_wipe, pF_load, pF_look, pF_keep, pF_put, pF_len, pF_held, pF_word_at, pF_keep_word, pF_next_word, pF_push, pF_pull]
    rw [setReg_int (x := s.reg 0 + 2) (by omega)] at h1
    exact k H1 h1 k1
def sp_push (a : Ad) : Sp := fun vs H Q _ => ∃ (p r m : Addr) (s : Sz20.St) (y : Nat), vs = [.ref p, .int y] ∧ PAt a H p r m s ∧ y < 65536 ∧ After a H p r m (s.push y) .non Q
theorem ok_Processor_push (T : Txt K mg a) : FnOk P w K mg base CX0 2 a.f_Processor_push a.d_Processor_push ["self", "word"] (sp_push a) := by
  refine T.F_Processor_push.ok sc_Processor_push (fun vs H Q E h => ?_) (fun cdv A outer s H vs Q E hr h => ?_)
  · obtain ⟨p, r, m, s, y, rfl, _⟩ := h
    rfl
  · obtain ⟨p, r, m, s, y, rfl, hp, hy, k⟩ := h
    obtain ⟨dx, e⟩ := hp.ins
    refine ⟨_, (pss_cons (ps_expr (pe_meth (pv 0) T.cl_Processor T.m_Processor_keep ((ok_Processor_keep T).mono (by decide)) hr T.bd_Processor_keep .nil pass0 (pa_cons (pe_gint rfl T.c_SP) (pa_cons (pe_op op_sub (pe_ix ix_list (pe_fld (pv 0) rfl) (pe_gint rfl T.c_SP) (fun _ _ => rfl)) pe_int) pa_nil))))
        (pss_one (ps_expr (pe_meth (pv 0) T.cl_Processor T.m_Processor_keep_word ((ok_Processor_keep_word T).mono (by decide)) hr T.bd_Processor_keep_word .nil pass0 (pa_cons (pe_ix ix_list (pe_fld (pv 0) rfl) (pe_gint rfl T.c_SP) (fun _ _ => rfl)) (pa_cons (pv 1) pa_nil)))))), ?_⟩
    try simp only [RDX, T.cl_Processor, T.n_Processor_registers, rdF_calls, rdF_place, rdF_take, rdF_take_row, rdF_has_more, rdF_put, rdF_len, pF_reg, pF_mem, pF_wipe, pF_load, pF_look, pF_keep, pF_put, pF_len, pF_held, pF_word_at, pF_keep_word, pF_next_word, pF_push, pF_pull, e]
    refine rd_ixL (SqL.of hp.rg) (hp.regAt (k := 1) rfl (by decide)) ?_
    try simp only [RDX, T.cl_Processor, T.n_Processor_registers, rdF_calls, rdF_place, rdF_take, rdF_take_row, rdF_has_more, rdF_put, rdF_len, pF_reg, pF_mem, pF_wipe, pF_load, pF_look, pF_keep, pF_put, pF_len, pF_held, pF_word_at, pF_keep_word, pF_next_word, pF_push, pF_pull, e]
    refine ⟨p, r, m, s, 1, _, rfl, hp, by decide, fun H1 h1 k1 => ?_⟩
    obtain ⟨dx1, e1⟩ := h1.ins
    try simp only [RDX, T.cl_Processor, T.n_Processor_registers, rdF_calls, rdF_place, rdF_take, rdF_take_row, rdF_has_more, rdF_put, rdF_len, pF_reg, pF_mem, pF_wipe, pF_load, pF_look, pF_keep, pF_put, pF_len, pF_held, pF_word_at, pF_keep_word, pF_next_word, pF_push, pF_pull, e1]
    refine rd_ixL (SqL.of h1.rg) (h1.regAt (k := 1) rfl (by decide)) ?_
    try simp only [RDX, T.cl_Processor, T.n_Processor_registers, rdF_calls, rdF_place, rdF_take, rdF_take_row, rdF_has_more, rdF_put, rdF_len, pF_reg, pF_mem, pF_wipe, pF_load, pF_look, pF_keep, pF_put, pF_len, pF_held, pF_word_at, pF_keep_word, pF_next_word, pF_push, pF_pull, e1]
    refine ⟨p, r, m, _, _, y, rfl, h1, hy, fun H2 h2 k2 => ?_⟩
    try simp only [RDX, T.cl_Processor, T.n_Processor_registers, rdF_calls, rdF_place, rdF_take, rdF_take_row, rdF_has_more, rdF_put, rdF_len, pF_reg, pF_mem, pF_wipe, pF_load, pF_look, pF_keep, pF_put, pF_len, pF_held, pF_word_at, pF_keep_word, pF_next_word, pF_push, pF_pull]
    rw [push_eq hp.good _ (by omega)] at h2
    exact k H2 h2 (k1.trans k2)
def sp_pull (a : Ad) : Sp := fun vs H Q _ => ∃ (p r m : Addr) (s : Sz20.St), vs = [.ref p] ∧ PAt a H p r m s ∧ After a H p r m s.pull.1 (.int ((s.pull.2 : Nat) : Int)) Q
theorem ok_Processor_pull (T : Txt K mg a) : FnOk P w K mg base CX0 2 a.f_Processor_pull a.d_Processor_pull ["self"] (sp_pull a) := by
  refine T.F_Processor_pull.ok sc_Processor_pull (fun vs H Q E h => ?_) (fun cdv A outer s H vs Q E hr h => ?_)
  · obtain ⟨p, r, m, s, rfl, _⟩ := h
    rfl
  · obtain ⟨p, r, m, s, rfl, hp, k⟩ := h
    obtain ⟨dx, e⟩ := hp.ins
    refine ⟨_, (pss_cons (ps_set (i := 1) sc_Processor_pull.nd rfl (Or.inl rfl) (pe_meth (pv 0) T.cl_Processor T.m_Processor_word_at ((ok_Processor_word_at T).mono (by decide)) hr T.bd_Processor_word_at .nil pass0 (pa_cons (pe_ix ix_list (pe_fld (pv 0) rfl) (pe_gint rfl T.c_SP) (fun _ _ => rfl)) pa_nil)))
        (pss_cons (ps_expr (pe_meth (pv 0) T.cl_Processor T.m_Processor_keep ((ok_Processor_keep T).mono (by decide)) hr T.bd_Processor_keep .nil pass0 (pa_cons (pe_gint rfl T.c_SP) (pa_cons (pe_op op_add (pe_ix ix_list (pe_fld (pv 0) rfl) (pe_gint rfl T.c_SP) (fun _ _ => rfl)) pe_int) pa_nil))))
        (pss_one (ps_ret (pv 1))))), ?_⟩
    try simp only [RDX, T.cl_Processor, T.n_Processor_registers, rdF_calls, rdF_place, rdF_take, rdF_take_row, rdF_has_more, rdF_put, rdF_len, pF_reg, pF_mem, pF_wipe, pF_load, pF_look, pF_keep, pF_put, pF_len, pF_held, pF_word_at, pF_keep_word, pF_next_word, pF_push, pF_pull, e]
    refine rd_ixL (SqL.of hp.rg) (hp.regAt (k := 1) rfl (by decide)) ?_
    try simp only [RDX, T.cl_Processor, T.n_Processor_registers, rdF_calls, rdF_place, rdF_take, rdF_take_row, rdF_has_more, rdF_put, rdF_len, pF_reg, pF_mem, pF_wipe, pF_load, pF_look, pF_keep, pF_put, pF_len, pF_held, pF_word_at, pF_keep_word, pF_next_word, pF_push, pF_pull, e]
    refine ⟨p, r, m, s, s.reg 1, rfl, hp, ?_⟩
    try simp only [RDX, T.cl_Processor, T.n_Processor_registers, rdF_calls, rdF_place, rdF_take, rdF_take_row, rdF_has_more, rdF_put, rdF_len, pF_reg, pF_mem, pF_wipe, pF_load, pF_look, pF_keep, pF_put, pF_len, pF_held, pF_word_at, pF_keep_word, pF_next_word, pF_push, pF_pull, e]
    refine rd_ixL (SqL.of hp.rg) (hp.regAt (k := 1) rfl (by decide)) ?_
    try simp only [RDX, T.cl_Processor, T.n_Processor_registers, rdF_calls, rdF_place, rdF_take, rdF_take_row, rdF_has_more, rdF_put, rdF_len, pF_reg, pF_mem, pF_wipe, pF_load, pF_look, pF_keep, pF_put, pF_len, pF_held, pF_word_at, pF_keep_word, pF_next_word, pF_push, pF_pull, e]
    refine ⟨p, r, m, s, 1, _, rfl, hp, by decide, fun H1 h1 k1 => ?_⟩
    try simp only [RDX, T.cl_Processor, T.n_Processor_registers, rdF_calls, rdF_place, rdF_take, rdF_take_row, rdF_has_more, rdF_put, rdF_len, pF_reg, pF_mem, pF_wipe, pF_load, pF_look, pF_keep, pF_put, pF_len, pF_held, pF_word_at, pF_keep_word, pF_next_word, pF_push, pF_pull]
    rw [setReg_int (x := s.reg 1 + 2) (by omega)] at h1
    exact k H1 h1 k1
/-! ### the status -/
theorem dv2 (x : Nat) : (x : Int) / 2 = ((x / 2 : Nat) : Int) := by omega
theorem dv16 (x : Nat) : (x : Int) / 16 = ((x / 16 : Nat) : Int) := by omega
theorem dv128 (x : Nat) : (x : Int) / 128 = ((x / 128 : Nat) : Int) := by omega
theorem dv256 (x : Nat) : (x : Int) / 256 = ((x / 256 : Nat) : Int) := by omega
theorem dv1024 (x : Nat) : (x : Int) / 1024 = ((x / 1024 : Nat) : Int) := by omega
theorem dv4096 (x : Nat) : (x : Int) / 4096 = ((x / 4096 : Nat) : Int) := by omega
theorem scal_bb {i j : Bool} : scal (.bl i) (.bl j) = true := rfl
theorem vbl_eq {i j : Bool} : decide (V.bl i = V.bl j) = (i == j) := dec_bl
theorem flag_def (s : Sz20.St) (k : Nat) : s.flag k = (s.reg 2).testBit k := rfl
theorem e1 {b : Bool} : decide ((((b.toNat : Nat)) : Int) = 0) = !b := by cases b <;> rfl
theorem n1 {b : Bool} : (!decide ((((b.toNat : Nat)) : Int) = 0)) = b := by cases b <;> rfl
theorem e2 {b : Bool} : decide ((((b.toNat * 2 : Nat)) : Int) = 0) = !b := fl_eq (by decide)
theorem n2 {b : Bool} : (!decide ((((b.toNat * 2 : Nat)) : Int) = 0)) = b := fl_ne (by decide)
theorem e4 {b : Bool} : decide ((((b.toNat * 4 : Nat)) : Int) = 0) = !b := fl_eq (by decide)
theorem n4 {b : Bool} : (!decide ((((b.toNat * 4 : Nat)) : Int) = 0)) = b := fl_ne (by decide)
theorem e8 {b : Bool} : decide ((((b.toNat * 8 : Nat)) : Int) = 0) = !b := fl_eq (by decide)
theorem n256 {b : Bool} : (!decide ((((b.toNat * 256 : Nat)) : Int) = 0)) = b := fl_ne (by decide)
theorem t16 {b : Bool} : ((((b.toNat * 16 : Nat)) : Int) != 0) = b := by cases b <;> rfl
theorem t64 {b : Bool} : ((((b.toNat * 64 : Nat)) : Int) != 0) = b := by cases b <;> rfl
theorem e64 {b : Bool} : decide ((((b.toNat * 64 : Nat)) : Int) = 0) = !b := fl_eq (by decide)
local macro_rules
  | `(tactic| simp only [RXX, $ts,*]) => `(tactic| simp only [tVar, tC, tOp, rI, rI0, tTest, tChain, tAnd, tOr, tNot, tAndV, tNotV, tIf, tNext, tSeq, tDrop, tRet, tIfS, gName, gSub, gCons, gNil, tAsg, tAug, ipI, tNil, tCons, tTup, tLst, tCall, tMeth, tMake, tCB, tFld, sFld, sFldAug, rAdd, rEq, rNe, scal_ii, eq_self, tNever, tSl, tPart, rSetL, tBM, rAppend, rExtend, rCat, rRep, start_eq, nones, List.map_cons, List.map_nil, List.length_cons, List.length_nil, List.append_nil, List.nil_append, List.cons_append, List.getElem?_cons_zero, List.getElem?_cons_succ, List.set_cons_zero, List.set_cons_succ, Nat.reduceAdd, Nat.reduceSub, Nat.zero_add, Option.some.injEq, V.int.injEq, V.bl.injEq, V.ref.injEq, HO.ins.injEq, HO.lst.injEq, List.cons.injEq, and_true, true_and, and_assoc, exists_eq_left, exists_eq_left', exists_eq_right, exists_eq_right', exists_and_left, exists_const, decide_eq_true_eq, Bool.not_eq_true', decide_eq_false_iff_not, upd_same, upd_upd, truv_bl, truv_int, if_true, if_false, reduceCtorEq, cxOf_K, Int.reduceNeg, Int.reduceEq, Int.reduceLT, Int.reduceLE, Int.reduceToNat, Int.reducePow, dv2, dv16, dv128, dv256, dv1024, dv4096, scal_bb, vbl_eq, Bool.false_eq_true, CDiv, CMul, true_or, or_true, not_true_eq_false, not_false_eq_true, Int.cast_ofNat_Int, Int.natCast_zero, Int.natCast_one, rdF_calls, rdF_place, rdF_take, rdF_take_row, rdF_has_more, rdF_put, rdF_len, pF_reg, pF_mem, pF_wipe, pF_load, pF_look, pF_keep, pF_put, pF_len, pF_held, pF_word_at, pF_keep_word, pF_next_word, pF_push, pF_pull, $ts,*])
theorem cle {x y : Nat} : ((x : Int) ≤ (y : Int)) = (x ≤ y) := propext Int.ofNat_le
theorem ceq0 {x : Nat} : ((x : Int) = 0) = (x = 0) := propext (by omega)
def sp_has_sign : Sp := fun vs H Q _ => ∃ x q : Nat, vs = [.int x, .int q] ∧ x < q ∧ Q (.bl (Sz20.top q x)) H
theorem ok_has_sign (T : Txt K mg a) : FnOk P w K mg base CX0 1 a.f_has_sign a.d_has_sign ["number", "q"] sp_has_sign := by
  refine T.F_has_sign.ok sc_has_sign (fun vs H Q E h => ?_) (fun cdv A outer s H vs Q E hr h => ?_)
  · obtain ⟨x, q, rfl, _⟩ := h
    rfl
  · obtain ⟨x, q, rfl, hx, k⟩ := h
    refine ⟨_, (pss_one (ps_ret (pe_cmpR op_ge (pv 0) (pe_op op_fdiv (pv 1) pe_int) (nomark _)))), ?_⟩
    rw [top_lt hx] at k
    try simp only [RXX, cle]
    exact k
def sp_with_flags : Sp := fun vs H Q _ => ∃ (st x q : Nat) (c v : Bool), vs = [.int st, .int x, .int q, .bl c, .bl v] ∧ st < 512 ∧ x < q ∧ Q (.int ((flagN st c (decide (x = 0)) (Sz20.top q x) v : Nat) : Int)) H
theorem ok_with_flags (T : Txt K mg a) : FnOk P w K mg base CX0 2 a.f_with_flags a.d_with_flags ["status", "result", "q", "carry", "overflow"] sp_with_flags := by
  refine T.F_with_flags.ok sc_with_flags (fun vs H Q E h => ?_) (fun cdv A outer s H vs Q E hr h => ?_)
  · obtain ⟨st, x, q, c, v, rfl, _⟩ := h
    rfl
  · obtain ⟨st, x, q, c, v, rfl, hst, hx, k⟩ := h
    refine ⟨_, (pss_cons (ps_set (i := 5) sc_with_flags.nd rfl (Or.inl rfl) (pe_op op_and (pv 0) (pe_gint rfl T.c_OTHER_BITS)))
        (pss_cons (ps_if (pt_truth (pv 3) (fun _ => rfl)) (pss_one (ps_aug (i := 5) sc_with_flags.nd rfl (Or.inl rfl) (pe_gint rfl T.c_CARRY) ip_add)) pss_nil)
        (pss_cons (ps_if (pt_cmpR op_eq (pv 1) pe_int (nomark _)) (pss_one (ps_aug (i := 5) sc_with_flags.nd rfl (Or.inl rfl) (pe_gint rfl T.c_ZERO_RESULT) ip_add)) pss_nil)
        (pss_cons (ps_if (pt_truth (pe_call ((ok_has_sign T).mono (by decide)) hr rfl T.g_has_sign T.k_has_sign T.bd_has_sign .nil pass0 (pa_cons (pv 1) (pa_cons (pv 2) pa_nil))) (fun _ => rfl)) (pss_one (ps_aug (i := 5) sc_with_flags.nd rfl (Or.inl rfl) (pe_gint rfl T.c_NEGATIVE) ip_add)) pss_nil)
        (pss_cons (ps_if (pt_truth (pv 4) (fun _ => rfl)) (pss_one (ps_aug (i := 5) sc_with_flags.nd rfl (Or.inl rfl) (pe_gint rfl T.c_OVERFLOW) ip_add)) pss_nil)
        (pss_one (ps_ret (pv 5)))))))), ?_⟩
    have kk : ∀ z : Int, z = ((flagN st c (decide (x = 0)) (Sz20.top q x) v : Nat) : Int) → Q (.int z) H := fun z e => by rw [e]; exact k
    clear k
    unfold flagN at kk
    rcases (Decidable.em (x = 0)).imp eq_true eq_false with h1 | h1 <;> cases c <;> cases v
    all_goals simp only [h1, decide_true, decide_false, Bool.toNat_true, Bool.toNat_false] at kk
    all_goals try simp only [RXX, f248 hst, ceq0, h1]
    all_goals refine ⟨x, q, rfl, hx, ?_⟩
    all_goals cases ht : Sz20.top q x
    all_goals rw [ht] at kk
    all_goals simp only [Bool.toNat_true, Bool.toNat_false] at kk
    all_goals try simp only [RXX, eq_self]
    all_goals exact kk _ (by omega)
/-! ### jumps -/
def sp_differ : Sp := fun vs H Q _ => ∃ (st : Nat), vs = [.int st] ∧ Q (.bl (st.testBit 2 != st.testBit 8)) H
theorem ok_differ (T : Txt K mg a) : FnOk P w K mg base CX0 1 a.f_differ a.d_differ ["status"] sp_differ := by
  refine T.F_differ.ok sc_differ (fun vs H Q E h => ?_) (fun cdv A outer s H vs Q E hr h => ?_)
  · obtain ⟨st, rfl, _⟩ := h
    rfl
  · obtain ⟨st, rfl, k⟩ := h
    refine ⟨_, (pss_one (ps_ret (pe_cmpR op_ne (pe_cmpR op_ne (pe_op op_and (pv 0) (pe_gint rfl T.c_NEGATIVE)) pe_int (nomark _)) (pe_cmpR op_ne (pe_op op_and (pv 0) (pe_gint rfl T.c_OVERFLOW)) pe_int (nomark _)) (nomark _)))), ?_⟩
    try simp only [RXX, fl4, fl256, n4, n256]
    rw [show (!decide (st.testBit 2 = st.testBit 8)) = (st.testBit 2 != st.testBit 8) by cases st.testBit 2 <;> cases st.testBit 8 <;> rfl]
    exact k
def sp_is_taken : Sp := fun vs H Q _ => ∃ (s : Sz20.St) (j : Nat), vs = [.int j, .int ((s.reg 2 : Nat) : Int)] ∧ j < 8 ∧ Q (.bl (Sz20.taken s j)) H
theorem ok_is_taken (T : Txt K mg a) : FnOk P w K mg base CX0 2 a.f_is_taken a.d_is_taken ["k", "status"] sp_is_taken := by
  refine T.F_is_taken.ok sc_is_taken (fun vs H Q E h => ?_) (fun cdv A outer s H vs Q E hr h => ?_)
  · obtain ⟨st, j, rfl, _⟩ := h
    rfl
  · obtain ⟨s, j, rfl, hj, k⟩ := h
    refine ⟨_, (pss_cons (ps_if (pt_cmpR op_eq (pv 0) pe_int (nomark _)) (pss_one (ps_ret (pe_cmpR op_eq (pe_op op_and (pv 1) (pe_gint rfl T.c_ZERO_RESULT)) pe_int (nomark _)))) pss_nil)
        (pss_cons (ps_if (pt_cmpR op_eq (pv 0) pe_int (nomark _)) (pss_one (ps_ret (pe_cmpR op_ne (pe_op op_and (pv 1) (pe_gint rfl T.c_ZERO_RESULT)) pe_int (nomark _)))) pss_nil)
        (pss_cons (ps_if (pt_cmpR op_eq (pv 0) pe_int (nomark _)) (pss_one (ps_ret (pe_cmpR op_eq (pe_op op_and (pv 1) (pe_gint rfl T.c_CARRY)) pe_int (nomark _)))) pss_nil)
        (pss_cons (ps_if (pt_cmpR op_eq (pv 0) pe_int (nomark _)) (pss_one (ps_ret (pe_cmpR op_ne (pe_op op_and (pv 1) (pe_gint rfl T.c_CARRY)) pe_int (nomark _)))) pss_nil)
        (pss_cons (ps_if (pt_cmpR op_eq (pv 0) pe_int (nomark _)) (pss_one (ps_ret (pe_cmpR op_ne (pe_op op_and (pv 1) (pe_gint rfl T.c_NEGATIVE)) pe_int (nomark _)))) pss_nil)
        (pss_cons (ps_if (pt_cmpR op_eq (pv 0) pe_int (nomark _)) (pss_one (ps_ret (pe_not (pe_call ((ok_differ T).mono (by decide)) hr rfl T.g_differ T.k_differ T.bd_differ .nil pass0 (pa_cons (pv 1) pa_nil))))) pss_nil)
        (pss_cons (ps_if (pt_cmpR op_eq (pv 0) pe_int (nomark _)) (pss_one (ps_ret (pe_call ((ok_differ T).mono (by decide)) hr rfl T.g_differ T.k_differ T.bd_differ .nil pass0 (pa_cons (pv 1) pa_nil)))) pss_nil)
        (pss_one (ps_ret pe_bl))))))))), ?_⟩
    have k0 : ∀ b, b = Sz20.taken s j → Q (.bl b) H := fun b e => by rw [e]; exact k
    match j, hj with
    | 0, _ =>
      try simp only [RXX, fl2, e2, Bool.not_not]
      exact k0 _ rfl
    | 1, _ =>
      try simp only [RXX, fl2, e2, Bool.not_not]
      exact k0 _ rfl
    | 2, _ =>
      try simp only [RXX, fl1, e1, Bool.not_not]
      exact k0 _ rfl
    | 3, _ =>
      try simp only [RXX, fl1, e1, Bool.not_not]
      exact k0 _ rfl
    | 4, _ =>
      try simp only [RXX, fl4, e4, Bool.not_not]
      exact k0 _ rfl
    | 5, _ =>
      try simp only [RXX, eq_self]
      refine ⟨s.reg 2, rfl, ?_⟩
      try simp only [RXX, eq_self]
      exact k0 _ (by show (!((s.reg 2).testBit 2 != (s.reg 2).testBit 8)) = ((s.reg 2).testBit 2 == (s.reg 2).testBit 8); cases (s.reg 2).testBit 2 <;> cases (s.reg 2).testBit 8 <;> rfl)
    | 6, _ =>
      try simp only [RXX, eq_self]
      exact ⟨s.reg 2, rfl, k0 _ rfl⟩
    | 7, _ =>
      try simp only [RXX, eq_self]
      exact k0 _ rfl
    | j + 8, h => exact absurd h (by omega)
def sp_words_on : Sp := fun vs H Q _ => ∃ (x : Nat), vs = [.int x] ∧ Q (.int (jumpBy x)) H
theorem ok_words_on (T : Txt K mg a) : FnOk P w K mg base CX0 1 a.f_words_on a.d_words_on ["word"] sp_words_on := by
  refine T.F_words_on.ok sc_words_on (fun vs H Q E h => ?_) (fun cdv A outer s H vs Q E hr h => ?_)
  · obtain ⟨x, rfl, _⟩ := h
    rfl
  · obtain ⟨x, rfl, k⟩ := h
    refine ⟨_, (pss_cons (ps_set (i := 1) sc_words_on.nd rfl (Or.inl rfl) (pe_op op_mod (pv 0) pe_int))
        (pss_one (ps_ret (pe_ifExp (pt_cmpR op_ge (pv 1) pe_int (nomark _)) (pe_op op_sub (pv 1) pe_int) (pv 1))))), ?_⟩
    try simp only [RXX, eq_self]
    unfold jumpBy at k
    refine ite2 (fun h1 => ?_) (fun h1 => ?_)
    · rw [if_neg (by omega)] at k
      exact k
    · rw [if_pos (by omega)] at k
      exact k
def sp_do_jump (a : Ad) : Sp := fun vs H Q _ => ∃ (p r m : Addr) (s : Sz20.St) (x : Nat), vs = [.ref p, .int x] ∧ PAt a H p r m s ∧ After a H p r m (doJump s x) .non Q
theorem ok_do_jump (T : Txt K mg a) : FnOk P w K mg base CX0 3 a.f_do_jump a.d_do_jump ["processor", "word"] (sp_do_jump a) := by
  refine T.F_do_jump.ok sc_do_jump (fun vs H Q E h => ?_) (fun cdv A outer s H vs Q E hr h => ?_)
  · obtain ⟨p, r, m, s, x, rfl, _⟩ := h
    rfl
  · obtain ⟨p, r, m, s, x, rfl, hp, k⟩ := h
    obtain ⟨dx, e⟩ := hp.ins
    refine ⟨_, (pss_one (ps_if (pt_truth (pe_call ((ok_is_taken T).mono (by decide)) hr rfl T.g_is_taken T.k_is_taken T.bd_is_taken .nil pass0 (pa_cons (pe_op op_and (pe_op op_shr (pv 1) pe_int) pe_int) (pa_cons (pe_ix ix_list (pe_fld (pv 0) rfl) (pe_gint rfl T.c_SR) (fun _ _ => rfl)) pa_nil))) (fun _ => rfl)) (pss_one (ps_expr (pe_meth (pv 0) T.cl_Processor T.m_Processor_keep ((ok_Processor_keep T).mono (by decide)) hr T.bd_Processor_keep .nil pass0 (pa_cons (pe_gint rfl T.c_PC) (pa_cons (pe_op op_add (pe_ix ix_list (pe_fld (pv 0) rfl) (pe_gint rfl T.c_PC) (fun _ _ => rfl)) (pe_op op_mul pe_int (pe_call ((ok_words_on T).mono (by decide)) hr rfl T.g_words_on T.k_words_on T.bd_words_on .nil pass0 (pa_cons (pv 1) pa_nil)))) pa_nil))))) pss_nil)), ?_⟩
    try simp only [RXX, T.cl_Processor, T.n_Processor_registers, e, m7]
    refine rd_ixL (SqL.of hp.rg) (hp.regAt (k := 2) rfl (by decide)) ?_
    refine ⟨s, x / 1024 % 8, rfl, by omega, ?_⟩
    try simp only [RXX, T.cl_Processor, T.n_Processor_registers, e]
    unfold doJump at k
    refine ite2 (fun h1 => ?_) (fun h1 => ?_)
    · rw [if_pos h1] at k
      refine rd_ixL (SqL.of hp.rg) (hp.regAt (k := 0) rfl (by decide)) ?_
      refine ⟨x, rfl, ?_⟩
      try simp only [RXX, T.cl_Processor, T.n_Processor_registers, e]
      exact ⟨p, r, m, s, 0, _, rfl, hp, by decide, fun H1 h1 k1 => k H1 h1 k1⟩
    · rw [if_neg h1] at k
      exact k H hp .refl
/-! ### operands -/
def sp_numbers_below : Sp := fun vs H Q _ => ∃ (x : Nat), vs = [.int x] ∧ Q (.int ((Sz20.size (x.testBit 6) : Nat) : Int)) H
theorem ok_numbers_below (T : Txt K mg a) : FnOk P w K mg base CX0 1 a.f_numbers_below a.d_numbers_below ["word"] sp_numbers_below := by
  refine T.F_numbers_below.ok sc_numbers_below (fun vs H Q E h => ?_) (fun cdv A outer s H vs Q E hr h => ?_)
  · obtain ⟨x, rfl, _⟩ := h
    rfl
  · obtain ⟨x, rfl, k⟩ := h
    refine ⟨_, (pss_one (ps_ret (pe_ifExp (pt_truth (pe_op op_and (pv 0) (pe_gint rfl T.c_ON_BYTES)) (fun _ => rfl)) (pe_gint rfl T.c_BYTES) (pe_gint rfl T.c_WORDS)))), ?_⟩
    try simp only [RXX, fl64, t64]
    unfold Sz20.size at k
    refine ite2 (fun h1 => ?_) (fun h1 => ?_)
    · rw [if_pos h1] at k
      exact k
    · rw [if_neg h1] at k
      exact k
def freeV (j way q : Nat) : V := if j = 3 then .int ((if way = 3 then q - 1 else way : Nat) : Int) else if j = 2 ∧ 2 ≤ way then .int ((if way = 2 then 4 else 8 : Nat) : Int) else .non
def sp_free_number : Sp := fun vs H Q _ => ∃ (j way q : Nat), vs = [.int j, .int way, .int q] ∧ way < 4 ∧ 0 < q ∧ Q (freeV j way q) H
theorem ok_free_number (T : Txt K mg a) : FnOk P w K mg base CX0 1 a.f_free_number a.d_free_number ["which", "way", "q"] sp_free_number := by
  refine T.F_free_number.ok sc_free_number (fun vs H Q E h => ?_) (fun cdv A outer s H vs Q E hr h => ?_)
  · obtain ⟨j, way, q, rfl, _⟩ := h
    rfl
  · obtain ⟨j, way, q, rfl, hw, hq, k⟩ := h
    refine ⟨_, (pss_cons (ps_if (pt_cmpR op_eq (pv 0) (pe_gint rfl T.c_ZERO) (nomark _)) (pss_one (ps_ret (pe_ifExp (pt_cmpR op_eq (pv 1) pe_int (nomark _)) (pe_op op_sub (pv 2) pe_int) (pv 1)))) pss_nil)
        (pss_cons (ps_if (PW.pt (pw_and (pt_cmpR op_eq (pv 0) (pe_gint rfl T.c_SR) (nomark _)) (pw_and1 (pt_cmpR op_eq (pv 1) pe_int (nomark _))))) (pss_one (ps_ret pe_int)) pss_nil)
        (pss_cons (ps_if (PW.pt (pw_and (pt_cmpR op_eq (pv 0) (pe_gint rfl T.c_SR) (nomark _)) (pw_and1 (pt_cmpR op_eq (pv 1) pe_int (nomark _))))) (pss_one (ps_ret pe_int)) pss_nil)
        (pss_one (ps_ret pe_non))))), ?_⟩
    try simp only [RXX, eq_self]
    unfold freeV at k
    by_cases h3 : j = 3
    · rw [if_pos (by omega)]
      rw [if_pos h3] at k
      by_cases h4 : way = 3
      · rw [if_pos (by omega), show (q : Int) - 1 = ((q - 1 : Nat) : Int) by omega]
        rw [if_pos h4] at k
        exact k
      · rw [if_neg (by omega)]
        rw [if_neg h4] at k
        exact k
    · rw [if_neg (by omega)]
      rw [if_neg h3] at k
      by_cases h2 : j = 2
      · rcases (by omega : way = 2 ∨ way = 3 ∨ way < 2) with h | h | h
        · rw [if_pos (by omega), if_pos (by omega)]
          rw [if_pos ⟨h2, by omega⟩, if_pos h] at k
          exact k
        · rw [if_pos (by omega), if_neg (by omega), if_pos (by omega), if_pos (by omega)]
          rw [if_pos ⟨h2, by omega⟩, if_neg (by omega)] at k
          exact k
        · rw [if_pos (by omega), if_neg (by omega), if_pos (by omega), if_neg (by omega)]
          rw [if_neg (by omega)] at k
          exact k
      · rw [if_neg (by omega), if_neg (by omega)]
        rw [if_neg (by omega)] at k
        exact k
def sp_step_of : Sp := fun vs H Q _ => ∃ (j : Nat) (b : Bool), vs = [.int j, .int ((Sz20.size b : Nat) : Int)] ∧ Q (.int ((if b = true ∧ 2 ≤ j then 1 else 2 : Nat) : Int)) H
theorem ok_step_of (T : Txt K mg a) : FnOk P w K mg base CX0 1 a.f_step_of a.d_step_of ["which", "q"] sp_step_of := by
  refine T.F_step_of.ok sc_step_of (fun vs H Q E h => ?_) (fun cdv A outer s H vs Q E hr h => ?_)
  · obtain ⟨j, b, rfl, _⟩ := h
    rfl
  · obtain ⟨j, b, rfl, k⟩ := h
    refine ⟨_, (pss_one (ps_ret (pe_ifExp (PW.pt (pw_and (pt_cmpR op_eq (pv 1) (pe_gint rfl T.c_BYTES) (nomark _)) (pw_and1 (pt_cmpR op_gt (pv 0) (pe_gint rfl T.c_SP) (nomark _))))) pe_int pe_int))), ?_⟩
    try simp only [RXX, eq_self]
    cases b
    · rw [if_neg (by decide)]
      rw [if_neg (by simp)] at k
      exact k
    · rw [if_pos (by decide)]
      refine ite2 (fun h1 => ?_) (fun h1 => ?_)
      · rw [if_pos ⟨rfl, by omega⟩] at k
        exact k
      · rw [if_neg (by simp only [true_and]; omega)] at k
        exact k
def sp_beyond (a : Ad) : Sp := fun vs H Q _ => ∃ (p r m : Addr) (s : Sz20.St) (j : Nat), vs = [.ref p, .int j] ∧ j < 16 ∧ PAt a H p r m s ∧ After a H p r m s.fetch.1 (.int ((Sz20.w16 ((if j = 2 then 0 else s.reg j) + s.fetch.2) : Nat) : Int)) Q
theorem ok_beyond_register (T : Txt K mg a) : FnOk P w K mg base CX0 3 a.f_beyond_register a.d_beyond_register ["processor", "which"] (sp_beyond a) := by
  refine T.F_beyond_register.ok sc_beyond_register (fun vs H Q E h => ?_) (fun cdv A outer s H vs Q E hr h => ?_)
  · obtain ⟨p, r, m, s, j, rfl, _⟩ := h
    rfl
  · obtain ⟨p, r, m, s, j, rfl, hj, hp, k⟩ := h
    obtain ⟨dx, e⟩ := hp.ins
    refine ⟨_, (pss_cons (ps_set (i := 2) sc_beyond_register.nd rfl (Or.inl rfl) (pe_ifExp (pt_cmpR op_eq (pv 1) (pe_gint rfl T.c_SR) (nomark _)) pe_int (pe_ix ix_list (pe_fld (pv 0) rfl) (pv 1) (fun _ _ => rfl))))
        (pss_one (ps_ret (pe_op op_mod (pe_op op_add (pv 2) (pe_meth0 (pv 0) T.cl_Processor T.m_Processor_next_word ((ok_Processor_next_word T).mono (by decide)) hr T.bd_Processor_next_word .nil pass0)) (pe_gint rfl T.c_WORDS))))), ?_⟩
    try simp only [RXX, T.cl_Processor, T.n_Processor_registers, e]
    refine ite2 (fun h1 => ?_) (fun h1 => ?_)
    · rw [if_pos (by omega)] at k
      refine ⟨p, r, m, s, rfl, hp, fun H1 h1 k1 => ⟨_, rfl, ?_⟩⟩
      rw [show ((0 : Int) + ((s.fetch.2 : Nat) : Int)) % 65536 = ((Sz20.w16 (0 + s.fetch.2) : Nat) : Int) by unfold Sz20.w16; omega]
      exact k H1 h1 k1
    · rw [if_neg (by omega)] at k
      refine rd_ixL (SqL.of hp.rg) (hp.regAt (k := j) rfl hj) ?_
      try simp only [RXX, T.cl_Processor, T.n_Processor_registers, e]
      refine ⟨p, r, m, s, rfl, hp, fun H1 h1 k1 => ⟨_, rfl, ?_⟩⟩
      rw [show (((s.reg j : Nat) : Int) + ((s.fetch.2 : Nat) : Int)) % 65536 = ((Sz20.w16 (s.reg j + s.fetch.2) : Nat) : Int) by unfold Sz20.w16; omega]
      exact k H1 h1 k1
/-- where an operand is, as the program tells it -/
def plV : Sz20.Place → List V
  | .reg k => [.int 0, .int ((k : Nat) : Int)]
  | .mem x => [.int 1, .int ((x : Nat) : Int)]
  | .number x => [.int 2, .int ((x : Nat) : Int)]
def sp_first (a : Ad) : Sp := fun vs H Q _ => ∃ (p r m : Addr) (s : Sz20.St) (j way : Nat) (b : Bool), vs = [.ref p, .int j, .int way, .int ((Sz20.size b : Nat) : Int)] ∧ j < 16 ∧ way < 4 ∧ PAt a H p r m s ∧
  ∀ (H' : Hp) (t : Addr), PAt a H' p r m (Sz20.source s j way b).1 → Kp H H' r m → H' t = some (.tup (plV (Sz20.source s j way b).2)) → Q (.ref t) H'
theorem ok_first_operand (T : Txt K mg a) : FnOk P w K mg base CX0 4 a.f_first_operand a.d_first_operand ["processor", "which", "way", "q"] (sp_first a) := by
  refine T.F_first_operand.ok sc_first_operand (fun vs H Q E h => ?_) (fun cdv A outer s H vs Q E hr h => ?_)
  · obtain ⟨p, r, m, s, j, way, b, rfl, _⟩ := h
    rfl
  · obtain ⟨p, r, m, s, j, way, b, rfl, hj, hw, hp, k⟩ := h
    obtain ⟨dx, e⟩ := hp.ins
    have hq := size_pos b
    refine ⟨_, (pss_cons (ps_set (i := 4) sc_first_operand.nd rfl (Or.inl rfl) (pe_call ((ok_free_number T).mono (by decide)) hr rfl T.g_free_number T.k_free_number T.bd_free_number .nil pass0 (pa_cons (pv 1) (pa_cons (pv 2) (pa_cons (pv 3) pa_nil)))))
        (pss_cons (ps_if (pt_cmpR op_notN (pv 4) pe_non (nomark _)) (pss_one (ps_ret (pe_tup (pa_cons (pe_gint rfl T.c_PLAIN_NUMBER) (pa_cons (pv 4) pa_nil))))) pss_nil)
        (pss_cons (ps_if (pt_cmpR op_eq (pv 2) pe_int (nomark _)) (pss_one (ps_ret (pe_tup (pa_cons (pe_gint rfl T.c_IN_REGISTER) (pa_cons (pv 1) pa_nil))))) pss_nil)
        (pss_cons (ps_if (pt_cmpR op_eq (pv 2) pe_int (nomark _)) (pss_one (ps_ret (pe_tup (pa_cons (pe_gint rfl T.c_IN_MEMORY) (pa_cons (pe_call ((ok_beyond_register T).mono (by decide)) hr rfl T.g_beyond_register T.k_beyond_register T.bd_beyond_register .nil pass0 (pa_cons (pv 0) (pa_cons (pv 1) pa_nil))) pa_nil))))) pss_nil)
        (pss_cons (ps_set (i := 5) sc_first_operand.nd rfl (Or.inl rfl) (pe_ix ix_list (pe_fld (pv 0) rfl) (pv 1) (fun _ _ => rfl)))
        (pss_cons (ps_if (pt_cmpR op_eq (pv 2) pe_int (nomark _)) (pss_one (ps_expr (pe_meth (pv 0) T.cl_Processor T.m_Processor_keep ((ok_Processor_keep T).mono (by decide)) hr T.bd_Processor_keep .nil pass0 (pa_cons (pv 1) (pa_cons (pe_op op_add (pv 5) (pe_call ((ok_step_of T).mono (by decide)) hr rfl T.g_step_of T.k_step_of T.bd_step_of .nil pass0 (pa_cons (pv 1) (pa_cons (pv 3) pa_nil)))) pa_nil))))) pss_nil)
        (pss_one (ps_ret (pe_tup (pa_cons (pe_gint rfl T.c_IN_MEMORY) (pa_cons (pv 5) pa_nil))))))))))), ?_⟩
    try simp only [RXX, T.cl_Processor, T.n_Processor_registers, e]
    refine ⟨j, way, Sz20.size b, rfl, hw, hq.1, ?_⟩
    have kk : ∀ (H1 : Hp) (t : Addr), H1 t = none → PAt a H1 p r m (Sz20.source s j way b).1 → Kp H H1 r m → Q (.ref t) (upd H1 t (.tup (plV (Sz20.source s j way b).2))) := fun H1 t ht h1 k1 => k _ t (h1.new ht) (k1.trans (.new ht)) upd_same
    unfold freeV
    by_cases h3 : j = 3
    · rw [if_pos h3]
      try simp only [RXX, T.cl_Processor, T.n_Processor_registers, e, decide_false, Bool.not_false]
      rw [source_3 s way b h3] at kk
      exact ⟨by decide, fun t ht => kk H t ht hp .refl⟩
    · rw [if_neg h3]
      by_cases h2 : j = 2 ∧ 2 ≤ way
      · rw [if_pos h2]
        try simp only [RXX, T.cl_Processor, T.n_Processor_registers, e, decide_false, Bool.not_false]
        rw [source_2 s b h2] at kk
        exact ⟨by decide, fun t ht => kk H t ht hp .refl⟩
      · rw [if_neg h2]
        try simp only [RXX, T.cl_Processor, T.n_Processor_registers, e, decide_true, Bool.not_true]
        rw [source_w h3 h2] at kk
        match way, hw with
        | 0, _ =>
          try simp only [RXX, T.cl_Processor, T.n_Processor_registers, e]
          exact ⟨by decide, fun t ht => kk H t ht hp .refl⟩
        | 1, _ =>
          try simp only [RXX, T.cl_Processor, T.n_Processor_registers, e]
          refine ⟨p, r, m, s, j, rfl, hj, hp, fun H1 h1 k1 => ?_⟩
          try simp only [RXX, T.cl_Processor, T.n_Processor_registers]
          exact ⟨by decide, fun t ht => kk H1 t ht h1 k1⟩
        | 2, _ =>
          try simp only [RXX, T.cl_Processor, T.n_Processor_registers, e]
          refine rd_ixL (SqL.of hp.rg) (hp.regAt (k := j) rfl hj) ?_
          try simp only [RXX, T.cl_Processor, T.n_Processor_registers, e]
          exact ⟨by decide, fun t ht => kk H t ht hp .refl⟩
        | 3, _ =>
          try simp only [RXX, T.cl_Processor, T.n_Processor_registers, e]
          refine rd_ixL (SqL.of hp.rg) (hp.regAt (k := j) rfl hj) ?_
          try simp only [RXX, T.cl_Processor, T.n_Processor_registers, e]
          refine ⟨j, b, rfl, ?_⟩
          try simp only [RXX, T.cl_Processor, T.n_Processor_registers, e]
          refine ⟨p, r, m, s, j, _, rfl, hp, hj, fun H1 h1 k1 => ?_⟩
          try simp only [RXX, T.cl_Processor, T.n_Processor_registers]
          rw [setReg_int (x := s.reg j + if b = true ∧ 2 ≤ j then 1 else 2) (by omega)] at h1
          exact ⟨by decide, fun t ht => kk H1 t ht h1 k1⟩
        | way + 4, h => exact absurd h (by omega)
def sp_second (a : Ad) : Sp := fun vs H Q _ => ∃ (p r m : Addr) (s : Sz20.St) (j way : Nat), vs = [.ref p, .int j, .int way] ∧ j < 16 ∧ PAt a H p r m s ∧
  ∀ (H' : Hp) (t : Addr), PAt a H' p r m (Sz20.second s j way).1 → Kp H H' r m → H' t = some (.tup (plV (Sz20.second s j way).2)) → Q (.ref t) H'
theorem ok_second_operand (T : Txt K mg a) : FnOk P w K mg base CX0 4 a.f_second_operand a.d_second_operand ["processor", "which", "way"] (sp_second a) := by
  refine T.F_second_operand.ok sc_second_operand (fun vs H Q E h => ?_) (fun cdv A outer s H vs Q E hr h => ?_)
  · obtain ⟨p, r, m, s, j, way, rfl, _⟩ := h
    rfl
  · obtain ⟨p, r, m, s, j, way, rfl, hj, hp, k⟩ := h
    obtain ⟨dx, e⟩ := hp.ins
    refine ⟨_, (pss_cons (ps_if (pt_cmpR op_eq (pv 2) pe_int (nomark _)) (pss_one (ps_ret (pe_tup (pa_cons (pe_gint rfl T.c_IN_REGISTER) (pa_cons (pv 1) pa_nil))))) pss_nil)
        (pss_one (ps_ret (pe_tup (pa_cons (pe_gint rfl T.c_IN_MEMORY) (pa_cons (pe_call ((ok_beyond_register T).mono (by decide)) hr rfl T.g_beyond_register T.k_beyond_register T.bd_beyond_register .nil pass0 (pa_cons (pv 0) (pa_cons (pv 1) pa_nil))) pa_nil)))))), ?_⟩
    try simp only [RXX, e]
    have kk : ∀ (H1 : Hp) (t : Addr), H1 t = none → PAt a H1 p r m (Sz20.second s j way).1 → Kp H H1 r m → Q (.ref t) (upd H1 t (.tup (plV (Sz20.second s j way).2))) := fun H1 t ht h1 k1 => k _ t (h1.new ht) (k1.trans (.new ht)) upd_same
    unfold Sz20.second at kk
    refine ite2 (fun h1 => ?_) (fun h1 => ?_)
    · rw [if_pos (by omega)] at kk
      exact ⟨by decide, fun t ht => kk H t ht hp .refl⟩
    · rw [if_neg (by omega)] at kk
      refine ⟨p, r, m, s, j, rfl, hj, hp, fun H1 h1 k1 => ?_⟩
      try simp only [RXX, eq_self]
      exact ⟨by decide, fun t ht => kk H1 t ht h1 k1⟩
def sp_value_of (a : Ad) : Sp := fun vs H Q _ => ∃ (p r m t : Addr) (s : Sz20.St) (pl : Sz20.Place) (b : Bool), vs = [.ref p, .ref t, .int ((Sz20.size b : Nat) : Int)] ∧ PAt a H p r m s ∧ H t = some (.tup (plV pl)) ∧ PlOk b pl ∧ Q (.int ((Sz20.load s pl b : Nat) : Int)) H
theorem ok_value_of (T : Txt K mg a) : FnOk P w K mg base CX0 2 a.f_value_of a.d_value_of ["processor", "operand", "q"] (sp_value_of a) := by
  refine T.F_value_of.ok sc_value_of (fun vs H Q E h => ?_) (fun cdv A outer s H vs Q E hr h => ?_)
  · obtain ⟨p, r, m, t, s, pl, b, rfl, _⟩ := h
    rfl
  · obtain ⟨p, r, m, t, s, pl, b, rfl, hp, ht, hk, k⟩ := h
    obtain ⟨dx, e⟩ := hp.ins
    refine ⟨_, (pss_cons (ps_if (pt_cmpR op_eq (pe_ix ix_tup (pv 1) pe_int (fun _ _ => rfl)) (pe_gint rfl T.c_IN_REGISTER) (nomark _)) (pss_one (ps_ret (pe_op op_mod (pe_ix ix_list (pe_fld (pv 0) rfl) (pe_ix ix_tup (pv 1) pe_int (fun _ _ => rfl)) (fun _ _ => rfl)) (pv 2)))) pss_nil)
        (pss_cons (ps_if (pt_cmpR op_eq (pe_ix ix_tup (pv 1) pe_int (fun _ _ => rfl)) (pe_gint rfl T.c_PLAIN_NUMBER) (nomark _)) (pss_one (ps_ret (pe_ix ix_tup (pv 1) pe_int (fun _ _ => rfl)))) pss_nil)
        (pss_cons (ps_if (pt_cmpR op_eq (pv 2) (pe_gint rfl T.c_BYTES) (nomark _)) (pss_one (ps_ret (pe_ix ix_list (pe_fld (pv 0) rfl) (pe_ix ix_tup (pv 1) pe_int (fun _ _ => rfl)) (fun _ _ => rfl)))) pss_nil)
        (pss_one (ps_ret (pe_meth (pv 0) T.cl_Processor T.m_Processor_word_at ((ok_Processor_word_at T).mono (by decide)) hr T.bd_Processor_word_at .nil pass0 (pa_cons (pe_ix ix_tup (pv 1) pe_int (fun _ _ => rfl)) pa_nil))))))), ?_⟩
    have hq := size_pos b
    have hT := SqT.of (K := K) ht
    try simp only [RXX, T.cl_Processor, T.n_Processor_memory, T.n_Processor_registers, e]
    cases pl with
    | reg j =>
      refine rd_ixT hT (i := 0) rfl ?_
      try simp only [RXX, T.cl_Processor, T.n_Processor_memory, T.n_Processor_registers, e]
      refine rd_ixT hT (i := 1) rfl ?_
      try simp only [RXX, T.cl_Processor, T.n_Processor_memory, T.n_Processor_registers, e]
      refine rd_ixL (SqL.of hp.rg) (hp.regAt (k := j) rfl hk) ?_
      try simp only [RXX, T.cl_Processor, T.n_Processor_memory, T.n_Processor_registers, e]
      rw [load_reg hp.good] at k
      exact ⟨by omega, k⟩
    | number x =>
      refine rd_ixT hT (i := 0) rfl ?_
      try simp only [RXX, T.cl_Processor, T.n_Processor_memory, T.n_Processor_registers, e]
      refine rd_ixT hT (i := 0) rfl ?_
      try simp only [RXX, T.cl_Processor, T.n_Processor_memory, T.n_Processor_registers, e]
      exact rd_ixT hT (i := 1) rfl k
    | mem x =>
      refine rd_ixT hT (i := 0) rfl ?_
      try simp only [RXX, T.cl_Processor, T.n_Processor_memory, T.n_Processor_registers, e]
      refine rd_ixT hT (i := 0) rfl ?_
      try simp only [RXX, T.cl_Processor, T.n_Processor_memory, T.n_Processor_registers, e]
      cases b
      · rw [if_neg (by decide)]
        exact rd_ixT hT (i := 1) rfl ⟨p, r, m, s, x, rfl, hp, k⟩
      · rw [if_pos (by decide)]
        refine rd_ixT hT (i := 1) rfl (rd_ixL (SqL.of hp.me) (hp.byteAt (k := x) rfl hk) ?_)
        rw [show Sz20.load s (.mem x) true = s.mem x by show s.mem (x % 65536) = s.mem x; rw [Nat.mod_eq_of_lt hk]] at k
        exact k
def sp_keep_result (a : Ad) : Sp := fun vs H Q _ => ∃ (p r m t : Addr) (s : Sz20.St) (pl : Sz20.Place) (b : Bool) (y : Nat), vs = [.ref p, .ref t, .int y, .int ((Sz20.size b : Nat) : Int)] ∧ PAt a H p r m s ∧ H t = some (.tup (plV pl)) ∧ PlOk b pl ∧ y < Sz20.size b ∧ After a H p r m (Sz20.store s pl b y) .non Q
theorem ok_keep_result (T : Txt K mg a) : FnOk P w K mg base CX0 2 a.f_keep_result a.d_keep_result ["processor", "operand", "result", "q"] (sp_keep_result a) := by
  refine T.F_keep_result.ok sc_keep_result (fun vs H Q E h => ?_) (fun cdv A outer s H vs Q E hr h => ?_)
  · obtain ⟨p, r, m, t, s, pl, b, y, rfl, _⟩ := h
    rfl
  · obtain ⟨p, r, m, t, s, pl, b, y, rfl, hp, ht, hk, hy, k⟩ := h
    obtain ⟨dx, e⟩ := hp.ins
    refine ⟨_, (pss_one (ps_if (pt_cmpR op_eq (pe_ix ix_tup (pv 1) pe_int (fun _ _ => rfl)) (pe_gint rfl T.c_IN_REGISTER) (nomark _)) (pss_one (ps_expr (pe_meth (pv 0) T.cl_Processor T.m_Processor_keep ((ok_Processor_keep T).mono (by decide)) hr T.bd_Processor_keep .nil pass0 (pa_cons (pe_ix ix_tup (pv 1) pe_int (fun _ _ => rfl)) (pa_cons (pv 2) pa_nil))))) (pss_one (ps_if (PW.pt (pw_and (pt_cmpR op_eq (pe_ix ix_tup (pv 1) pe_int (fun _ _ => rfl)) (pe_gint rfl T.c_IN_MEMORY) (nomark _)) (pw_and1 (pt_cmpR op_eq (pv 3) (pe_gint rfl T.c_BYTES) (nomark _))))) (pss_one (ps_asg (pv 2) (pg_sub (pe_fld (pv 0) rfl) (pe_ix ix_tup (pv 1) pe_int (fun _ _ => rfl)) set_list))) (pss_one (ps_if (pt_cmpR op_eq (pe_ix ix_tup (pv 1) pe_int (fun _ _ => rfl)) (pe_gint rfl T.c_IN_MEMORY) (nomark _)) (pss_one (ps_expr (pe_meth (pv 0) T.cl_Processor T.m_Processor_keep_word ((ok_Processor_keep_word T).mono (by decide)) hr T.bd_Processor_keep_word .nil pass0 (pa_cons (pe_ix ix_tup (pv 1) pe_int (fun _ _ => rfl)) (pa_cons (pv 2) pa_nil))))) pss_nil)))))), ?_⟩
    have hq := size_pos b
    have hT := SqT.of (K := K) ht
    try simp only [RXX, T.cl_Processor, T.n_Processor_memory, e]
    cases pl with
    | reg j =>
      refine rd_ixT hT (i := 0) rfl ?_
      try simp only [RXX, T.cl_Processor, T.n_Processor_memory, e]
      refine rd_ixT hT (i := 1) rfl ?_
      try simp only [RXX, T.cl_Processor, T.n_Processor_memory, e]
      refine ⟨p, r, m, s, j, y, rfl, hp, hk, fun H1 h1 k1 => k H1 ?_ k1⟩
      rw [setReg_int (x := y % Sz20.size b) (by rw [Nat.mod_eq_of_lt hy])] at h1
      exact h1
    | number x =>
      refine rd_ixT hT (i := 0) rfl ?_
      try simp only [RXX, T.cl_Processor, T.n_Processor_memory, e]
      refine rd_ixT hT (i := 0) rfl ?_
      try simp only [RXX, T.cl_Processor, T.n_Processor_memory, e]
      refine rd_ixT hT (i := 0) rfl ?_
      try simp only [RXX, T.cl_Processor, T.n_Processor_memory, e]
      exact k H hp .refl
    | mem x =>
      have hk : x < 65536 := hk
      refine rd_ixT hT (i := 0) rfl ?_
      try simp only [RXX, T.cl_Processor, T.n_Processor_memory, e]
      refine rd_ixT hT (i := 0) rfl ?_
      try simp only [RXX, T.cl_Processor, T.n_Processor_memory, e]
      cases b
      · rw [if_neg (by decide)]
        refine rd_ixT hT (i := 0) rfl ?_
        try simp only [RXX, T.cl_Processor, T.n_Processor_memory, e]
        refine rd_ixT hT (i := 1) rfl ?_
        try simp only [RXX, T.cl_Processor, T.n_Processor_memory, e]
        exact ⟨p, r, m, s, x, y, rfl, hp, hy, k⟩
      · rw [if_pos (by decide)]
        refine rd_ixT hT (i := 1) rfl ?_
        try simp only [RXX, T.cl_Processor, T.n_Processor_memory, e, hp.me]
        refine ⟨_, ixN_nat (k := x) rfl (by rw [List.length_map, memI_length]; exact hk), ?_⟩
        rw [memV_set hk hy]
        exact k _ (hp.putByte x y) .setM
/-! ### two operands -/
def outT (o : Nat × Nat) : HO := .tup [.int ((o.1 : Nat) : Int), .int ((o.2 : Nat) : Int)]
def OutQ (H : Hp) (o : Nat × Nat) (Q : VK) : Prop := ∀ t, H t = none → Q (.ref t) (upd H t (outT o))
theorem OutQ.mk' {H : Hp} {o : Nat × Nat} {Q : VK} {x y : Int} (k : OutQ H o Q) (h1 : x = ((o.1 : Nat) : Int)) (h2 : y = ((o.2 : Nat) : Int)) : 2 ≤ sizeLine ∧ ∀ t, H t = none → Q (.ref t) (upd H t (.tup [.int x, .int y])) := by
  rw [h1, h2]
  exact ⟨by decide, k⟩
theorem flagN_cong {st : Nat} {c z n v c' z' n' v' : Bool} (h1 : c = c') (h2 : z = z') (h3 : n = n') (h4 : v = v') : ((flagN st c z n v : Nat) : Int) = ((flagN st c' z' n' v' : Nat) : Int) := by rw [h1, h2, h3, h4]
theorem bl_dec {x y : Bool} : decide (x = y) = (x == y) := by cases x <;> cases y <;> rfl
def sp_added : Sp := fun vs H Q _ => ∃ (d x c st : Nat) (b : Bool), vs = [.int d, .int x, .int c, .int st, .int ((Sz20.size b : Nat) : Int)] ∧ d < Sz20.size b ∧ x < Sz20.size b ∧ st < 512 ∧ OutQ H (sumO st (Sz20.size b) d x c) Q
theorem ok_added (T : Txt K mg a) : FnOk P w K mg base CX0 3 a.f_added a.d_added ["d", "s", "more", "status", "q"] sp_added := by
  refine T.F_added.ok sc_added (fun vs H Q E h => ?_) (fun cdv A outer s H vs Q E hr h => ?_)
  · obtain ⟨d, x, c, st, b, rfl, _⟩ := h
    rfl
  · obtain ⟨d, x, c, st, b, rfl, hd, hx, hst, k⟩ := h
    have hq := size_pos b
    have hm : (d + x + c) % Sz20.size b < Sz20.size b := Nat.mod_lt _ hq.1
    refine ⟨_, (pss_cons (ps_set (i := 5) sc_added.nd rfl (Or.inl rfl) (pe_op op_add (pe_op op_add (pv 0) (pv 1)) (pv 2)))
        (pss_cons (ps_set (i := 6) sc_added.nd rfl (Or.inl rfl) (pe_op op_mod (pv 5) (pv 4)))
        (pss_cons (ps_set (i := 7) sc_added.nd rfl (Or.inl rfl) (pe_call ((ok_has_sign T).mono (by decide)) hr rfl T.g_has_sign T.k_has_sign T.bd_has_sign .nil pass0 (pa_cons (pv 0) (pa_cons (pv 4) pa_nil))))
        (pss_cons (ps_set (i := 8) sc_added.nd rfl (Or.inl rfl) (pe_and (pe_cmpR op_eq (pv 7) (pe_call ((ok_has_sign T).mono (by decide)) hr rfl T.g_has_sign T.k_has_sign T.bd_has_sign .nil pass0 (pa_cons (pv 1) (pa_cons (pv 4) pa_nil))) (nomark _)) (pe_one (pe_cmpR op_ne (pv 7) (pe_call ((ok_has_sign T).mono (by decide)) hr rfl T.g_has_sign T.k_has_sign T.bd_has_sign .nil pass0 (pa_cons (pv 6) (pa_cons (pv 4) pa_nil))) (nomark _)))))
        (pss_one (ps_ret (pe_tup (pa_cons (pv 6) (pa_cons (pe_call ((ok_with_flags T).mono (by decide)) hr rfl T.g_with_flags T.k_with_flags T.bd_with_flags .nil pass0 (pa_cons (pv 3) (pa_cons (pv 6) (pa_cons (pv 4) (pa_cons (pe_cmpR op_ge (pv 5) (pv 4) (nomark _)) (pa_cons (pv 8) pa_nil)))))) pa_nil))))))))), ?_⟩
    try simp only [RXX, ← Int.natCast_add, ← Int.natCast_emod, cle]
    refine ⟨by omega, _, _, rfl, hd, ?_⟩
    try simp only [RXX, ← Int.natCast_add, ← Int.natCast_emod, cle]
    refine ⟨_, _, rfl, hx, ?_⟩
    try simp only [RXX, ← Int.natCast_add, ← Int.natCast_emod, cle]
    refine ite2 (fun h1 => ?_) (fun h1 => ?_)
    · refine ⟨_, _, rfl, hm, ?_⟩
      try simp only [RXX, ← Int.natCast_add, ← Int.natCast_emod, cle]
      refine ⟨_, _, _, _, _, rfl, hst, hm, ?_⟩
      refine k.mk' rfl (flagN_cong rfl rfl top_mod ?_)
      rw [top_mod, h1]
      cases Sz20.top (Sz20.size b) x <;> cases Sz20.top (Sz20.size b) (d + x + c) <;> rfl
    · refine ⟨_, _, _, _, _, rfl, hst, hm, ?_⟩
      refine k.mk' rfl (flagN_cong rfl rfl top_mod ?_)
      revert h1
      cases Sz20.top (Sz20.size b) x <;> cases Sz20.top (Sz20.size b) d <;> simp
def sp_common_bits : Sp := fun vs H Q _ => ∃ (d x st : Nat) (b : Bool), vs = [.int d, .int x, .int st, .int ((Sz20.size b : Nat) : Int)] ∧ d < Sz20.size b ∧ x < Sz20.size b ∧ st < 512 ∧ OutQ H (andO st (Sz20.size b) x d) Q
theorem ok_common_bits (T : Txt K mg a) : FnOk P w K mg base CX0 3 a.f_common_bits a.d_common_bits ["d", "s", "status", "q"] sp_common_bits := by
  refine T.F_common_bits.ok sc_common_bits (fun vs H Q E h => ?_) (fun cdv A outer s H vs Q E hr h => ?_)
  · obtain ⟨d, x, st, b, rfl, _⟩ := h
    rfl
  · obtain ⟨d, x, st, b, rfl, hd, hx, hst, k⟩ := h
    refine ⟨_, (pss_cons (ps_set (i := 4) sc_common_bits.nd rfl (Or.inl rfl) (pe_op op_and (pv 0) (pv 1)))
        (pss_one (ps_ret (pe_tup (pa_cons (pv 4) (pa_cons (pe_call ((ok_with_flags T).mono (by decide)) hr rfl T.g_with_flags T.k_with_flags T.bd_with_flags .nil pass0 (pa_cons (pv 2) (pa_cons (pv 4) (pa_cons (pv 3) (pa_cons (pe_cmpR op_ne (pv 4) pe_int (nomark _)) (pa_cons pe_bl pa_nil)))))) pa_nil)))))), ?_⟩
    try simp only [RXX, nand, Nat.and_comm d x, ceq0]
    refine ⟨_, _, _, _, _, rfl, hst, Nat.lt_of_le_of_lt Nat.and_le_left hx, ?_⟩
    refine k.mk' rfl (flagN_cong ?_ rfl rfl rfl)
    rw [decide_not]
def sp_exclusive_or : Sp := fun vs H Q _ => ∃ (d x st : Nat) (b : Bool), vs = [.int d, .int x, .int st, .int ((Sz20.size b : Nat) : Int)] ∧ d < Sz20.size b ∧ x < Sz20.size b ∧ st < 512 ∧ OutQ H (xorO st (Sz20.size b) x d) Q
theorem ok_exclusive_or (T : Txt K mg a) : FnOk P w K mg base CX0 3 a.f_exclusive_or a.d_exclusive_or ["d", "s", "status", "q"] sp_exclusive_or := by
  refine T.F_exclusive_or.ok sc_exclusive_or (fun vs H Q E h => ?_) (fun cdv A outer s H vs Q E hr h => ?_)
  · obtain ⟨d, x, st, b, rfl, _⟩ := h
    rfl
  · obtain ⟨d, x, st, b, rfl, hd, hx, hst, k⟩ := h
    have hm : (x ^^^ d) < Sz20.size b := bits_lt.mpr (Nat.xor_lt_two_pow (bits_lt.mp hx) (bits_lt.mp hd))
    refine ⟨_, (pss_cons (ps_set (i := 4) sc_exclusive_or.nd rfl (Or.inl rfl) (pe_op op_xor (pv 0) (pv 1)))
        (pss_cons (ps_set (i := 5) sc_exclusive_or.nd rfl (Or.inl rfl) (pe_and (pe_call ((ok_has_sign T).mono (by decide)) hr rfl T.g_has_sign T.k_has_sign T.bd_has_sign .nil pass0 (pa_cons (pv 0) (pa_cons (pv 3) pa_nil))) (pe_one (pe_call ((ok_has_sign T).mono (by decide)) hr rfl T.g_has_sign T.k_has_sign T.bd_has_sign .nil pass0 (pa_cons (pv 1) (pa_cons (pv 3) pa_nil))))))
        (pss_one (ps_ret (pe_tup (pa_cons (pv 4) (pa_cons (pe_call ((ok_with_flags T).mono (by decide)) hr rfl T.g_with_flags T.k_with_flags T.bd_with_flags .nil pass0 (pa_cons (pv 2) (pa_cons (pv 4) (pa_cons (pv 3) (pa_cons (pe_cmpR op_ne (pv 4) pe_int (nomark _)) (pa_cons (pv 5) pa_nil)))))) pa_nil))))))), ?_⟩
    try simp only [RXX, nxor, Nat.xor_comm d x, ceq0]
    refine ⟨_, _, rfl, hd, _, rfl, ?_⟩
    refine ite2 (fun h1 => ?_) (fun h1 => ?_)
    · refine ⟨_, _, rfl, hx, ?_⟩
      refine ⟨_, _, _, _, _, rfl, hst, hm, ?_⟩
      refine k.mk' rfl (flagN_cong ?_ rfl rfl ?_)
      · rw [decide_not]
      · rw [h1, Bool.and_true]
    · refine ⟨_, _, _, _, _, rfl, hst, hm, ?_⟩
      refine k.mk' rfl (flagN_cong ?_ rfl rfl ?_)
      · rw [decide_not]
      · rw [Bool.eq_false_iff.mpr h1, Bool.and_false]
def sp_sum_of : Sp := fun vs H Q _ => ∃ (op d x st : Nat) (b : Bool), vs = [.int op, .int d, .int x, .int st, .int ((Sz20.size b : Nat) : Int)] ∧ 5 ≤ op ∧ op ≤ 9 ∧ d < Sz20.size b ∧ x < Sz20.size b ∧ st < 512 ∧ OutQ H (twoO st op b x d) Q
theorem ok_sum_of (T : Txt K mg a) : FnOk P w K mg base CX0 4 a.f_sum_of a.d_sum_of ["what", "d", "s", "status", "q"] sp_sum_of := by
  refine T.F_sum_of.ok sc_sum_of (fun vs H Q E h => ?_) (fun cdv A outer s H vs Q E hr h => ?_)
  · obtain ⟨op, d, x, st, b, rfl, _⟩ := h
    rfl
  · obtain ⟨op, d, x, st, b, rfl, h5, h9, hd, hx, hst, k⟩ := h
    have hq := size_pos b
    refine ⟨_, (pss_cons (ps_set (i := 5) sc_sum_of.nd rfl (Or.inl rfl) (pe_op op_and (pv 3) (pe_gint rfl T.c_CARRY)))
        (pss_cons (ps_if (pt_cmpR op_eq (pv 0) (pe_gint rfl T.c_ADD) (nomark _)) (pss_one (ps_ret (pe_call ((ok_added T).mono (by decide)) hr rfl T.g_added T.k_added T.bd_added .nil pass0 (pa_cons (pv 1) (pa_cons (pv 2) (pa_cons pe_int (pa_cons (pv 3) (pa_cons (pv 4) pa_nil)))))))) pss_nil)
        (pss_cons (ps_if (pt_cmpR op_eq (pv 0) (pe_gint rfl T.c_ADD_WITH_CARRY) (nomark _)) (pss_one (ps_ret (pe_call ((ok_added T).mono (by decide)) hr rfl T.g_added T.k_added T.bd_added .nil pass0 (pa_cons (pv 1) (pa_cons (pv 2) (pa_cons (pv 5) (pa_cons (pv 3) (pa_cons (pv 4) pa_nil)))))))) pss_nil)
        (pss_cons (ps_if (pt_cmpR op_eq (pv 0) (pe_gint rfl T.c_SUBTRACT_WITH_CARRY) (nomark _)) (pss_one (ps_ret (pe_call ((ok_added T).mono (by decide)) hr rfl T.g_added T.k_added T.bd_added .nil pass0 (pa_cons (pv 1) (pa_cons (pe_op op_sub (pe_op op_sub (pv 4) pe_int) (pv 2)) (pa_cons (pv 5) (pa_cons (pv 3) (pa_cons (pv 4) pa_nil)))))))) pss_nil)
        (pss_one (ps_ret (pe_call ((ok_added T).mono (by decide)) hr rfl T.g_added T.k_added T.bd_added .nil pass0 (pa_cons (pv 1) (pa_cons (pe_op op_sub (pe_op op_sub (pv 4) pe_int) (pv 2)) (pa_cons pe_int (pa_cons (pv 3) (pa_cons (pv 4) pa_nil)))))))))))), ?_⟩
    have hs : ((Sz20.size b : Nat) : Int) - 1 - (x : Int) = ((Sz20.size b - 1 - x : Nat) : Int) := by omega
    have hx' : Sz20.size b - 1 - x < Sz20.size b := by omega
    match op, h5, h9 with
    | 5, _, _ =>
      try simp only [RXX, fl1, hs]
      exact ⟨_, _, 0, _, _, rfl, hd, hx, hst, k⟩
    | 6, _, _ =>
      try simp only [RXX, fl1, hs]
      exact ⟨_, _, _, _, _, rfl, hd, hx, hst, k⟩
    | 7, _, _ =>
      try simp only [RXX, fl1, hs]
      exact ⟨_, _, _, _, _, rfl, hd, hx', hst, k⟩
    | 8, _, _ =>
      try simp only [RXX, fl1, hs]
      exact ⟨_, _, 1, _, _, rfl, hd, hx', hst, k⟩
    | 9, _, _ =>
      try simp only [RXX, fl1, hs]
      exact ⟨_, _, 1, _, _, rfl, hd, hx', hst, k⟩
    | op + 10, _, h => exact absurd h (by omega)
def decW (H : Hp) (d x st : Nat) (b : Bool) (n j : Nat) (σ : L2.St) (H' : Hp) : Prop := ∃ (i c res : Nat) (v : Option V), j = n - i ∧ i ≤ n ∧ H' = H ∧ c ≤ 1 ∧ σ = [some (.int d), some (.int x), some (.int st), some (.int ((Sz20.size b : Nat) : Int)), some (.int c), some (.int res), some (.int ((16 ^ i : Nat) : Int)), v] ∧
  (Sz20.decimal n x d (st.testBit 0).toNat).1 = res + 16 ^ i * (Sz20.decimal (n - i) (x / 16 ^ i) (d / 16 ^ i) c).1 ∧ (Sz20.decimal n x d (st.testBit 0).toNat).2 = (Sz20.decimal (n - i) (x / 16 ^ i) (d / 16 ^ i) c).2
def sp_added_decimal : Sp := fun vs H Q _ => ∃ (d x st : Nat) (b : Bool), vs = [.int d, .int x, .int st, .int ((Sz20.size b : Nat) : Int)] ∧ d < Sz20.size b ∧ x < Sz20.size b ∧ st < 512 ∧ OutQ H (decO st b x d) Q
theorem ok_added_decimal (T : Txt K mg a) : FnOk P w K mg base CX0 3 a.f_added_decimal a.d_added_decimal ["d", "s", "status", "q"] sp_added_decimal := by
  refine T.F_added_decimal.ok sc_added_decimal (fun vs H Q E h => ?_) (fun cdv A outer s H vs Q E hr h => ?_)
  · obtain ⟨d, x, st, b, rfl, _⟩ := h
    rfl
  · obtain ⟨d, x, st, b, rfl, hd, hx, hst, k⟩ := h
    have hq := size_pos b
    refine ⟨_, (pss_cons (ps_set (i := 4) sc_added_decimal.nd rfl (Or.inl rfl) (pe_op op_and (pv 2) (pe_gint rfl T.c_CARRY)))
        (pss_cons (ps_set (i := 5) sc_added_decimal.nd rfl (Or.inl rfl) pe_int)
        (pss_cons (ps_set (i := 6) sc_added_decimal.nd rfl (Or.inl rfl) pe_int)
        (pss_cons (ps_while PassesOwn.never (pt_cmpR op_lt (pv 6) (pv 3) (nomark _)) (pss_cons (ps_set (i := 7) sc_added_decimal.nd rfl (Or.inl rfl) (pe_op op_add (pe_op op_add (pe_op op_mod (pe_op op_fdiv (pv 0) (pv 6)) pe_int) (pe_op op_mod (pe_op op_fdiv (pv 1) (pv 6)) pe_int)) (pv 4)))
        (pss_cons (ps_set (i := 4) sc_added_decimal.nd rfl (Or.inl rfl) pe_int)
        (pss_cons (ps_if (pt_cmpR op_ge (pv 7) pe_int (nomark _)) (pss_cons (ps_set (i := 7) sc_added_decimal.nd rfl (Or.inl rfl) (pe_op op_mod (pe_op op_sub (pv 7) pe_int) pe_int))
        (pss_one (ps_set (i := 4) sc_added_decimal.nd rfl (Or.inl rfl) pe_int))) pss_nil)
        (pss_cons (ps_aug (i := 5) sc_added_decimal.nd rfl (Or.inl rfl) (pe_op op_mul (pv 7) (pv 6)) ip_add)
        (pss_one (ps_aug (i := 6) sc_added_decimal.nd rfl (Or.inl rfl) pe_int iop_mul)))))))
        (pss_one (ps_ret (pe_tup (pa_cons (pv 5) (pa_cons (pe_call ((ok_with_flags T).mono (by decide)) hr rfl T.g_with_flags T.k_with_flags T.bd_with_flags .nil pass0 (pa_cons (pv 2) (pa_cons (pv 5) (pa_cons (pv 3) (pa_cons (pe_cmpR op_eq (pv 4) pe_int (nomark _)) (pa_cons (pe_cmpR op_ne (pe_op op_and (pv 2) (pe_gint rfl T.c_OVERFLOW)) pe_int (nomark _)) pa_nil)))))) pa_nil))))))))), ?_⟩
    try simp only [RXX, fl1]
    obtain ⟨n, hn⟩ : ∃ n, n = if b = true then 2 else 4 := ⟨_, rfl⟩
    have hpn : 16 ^ n = Sz20.size b := by rw [hn]; exact pow16 b
    unfold decO at k
    rw [← hn] at k
    have hc0 : (st.testBit 0).toNat ≤ 1 := by cases st.testBit 0 <;> decide
    have hlt := (decimal_lt n x d (st.testBit 0).toNat hc0).1
    rw [hpn] at hlt
    refine ⟨decW H d x st b n, ⟨n, 0, _, 0, none, rfl, Nat.zero_le _, rfl, hc0, rfl, by rw [Nat.pow_zero, Nat.div_one, Nat.div_one, Nat.zero_add, Nat.one_mul]; rfl, by rw [Nat.pow_zero, Nat.div_one, Nat.div_one]; rfl⟩, ?_⟩
    rintro m σ H' ⟨i, c, res, v, rfl, hi, rfl, hc, rfl, e1, e2⟩
    have hpos : 0 < 16 ^ i := Nat.pow_pos (by decide)
    try simp only [RXX, eq_self]
    refine ite2 (fun h1 => ?_) (fun h1 => ?_)
    · have h1 : 16 ^ i < Sz20.size b := by omega
      have hin : i < n := by
        rcases Nat.lt_or_ge i n with z | z
        · exact z
        · have z : i = n := by omega
          rw [z, hpn] at h1
          omega
      obtain ⟨m, hm⟩ : ∃ m, n - i = m + 1 := ⟨n - i - 1, by omega⟩
      have hm' : n - (i + 1) = m := by omega
      rw [hm, decimal_succ, Nat.div_div_eq_div_mul, Nat.div_div_eq_div_mul, ← Nat.pow_succ] at e1 e2
      have et : (d : Int) / ((16 ^ i : Nat) : Int) % 16 + (x : Int) / ((16 ^ i : Nat) : Int) % 16 + (c : Int) = ((x / 16 ^ i % 16 + d / 16 ^ i % 16 + c : Nat) : Int) := by
        rw [← Int.natCast_ediv, ← Int.natCast_ediv]
        omega
      generalize ht : x / 16 ^ i % 16 + d / 16 ^ i % 16 + c = t at et e1 e2
      have hw : ((16 ^ i : Nat) : Int) * 16 = ((16 ^ (i + 1) : Nat) : Int) := by
        rw [Nat.pow_succ, Int.natCast_mul]
        rfl
      have hb : (0 : Int) < ((16 ^ i : Nat) : Int) ∧ ((16 ^ i : Nat) : Int) < 1073741824 := by omega
      refine ⟨decW H' d x st b n m, fun σ' H'' h => ⟨m, by omega, h⟩, ?_⟩
      try simp only [RXX, eq_self]
      rw [et]
      refine ⟨hb.1, hb.2, hb.1, hb.2, ite2 (fun h10 => ⟨.inl (by omega), ?_⟩) (fun h10 => ⟨.inl (by omega), ?_⟩)⟩
      · rw [if_pos (by omega), if_pos (by omega)] at e1
        rw [if_pos (by omega), if_pos (by omega)] at e2
        rw [show ((t : Int) - 10) % 16 = (((t - 10) % 16 : Nat) : Int) by omega, ← Int.natCast_mul, ← Int.natCast_add, hw]
        refine ⟨i + 1, 1, res + (t - 10) % 16 * 16 ^ i, _, hm'.symm, hin, rfl, by decide, rfl, ?_, ?_⟩
        · rw [e1, hm', Nat.pow_succ, Nat.mul_add, Nat.mul_comm (16 ^ i) ((t - 10) % 16), Nat.mul_assoc (16 ^ i), Nat.add_assoc]
        · rw [e2, hm']
      · rw [if_neg (by omega), if_neg (by omega)] at e1
        rw [if_neg (by omega), if_neg (by omega)] at e2
        rw [← Int.natCast_mul, ← Int.natCast_add, hw]
        refine ⟨i + 1, 0, res + t * 16 ^ i, _, hm'.symm, hin, rfl, by decide, rfl, ?_, ?_⟩
        · rw [e1, hm', Nat.pow_succ, Nat.mul_add, Nat.mul_comm (16 ^ i) t, Nat.mul_assoc (16 ^ i), Nat.add_assoc]
        · rw [e2, hm']
    · have h1 : ¬ 16 ^ i < Sz20.size b := by omega
      have hin : i = n := by
        rcases Nat.lt_or_ge i n with z | z
        · have := Nat.pow_lt_pow_right (a := 16) (by decide) z
          omega
        · omega
      subst hin
      rw [Nat.sub_self, show ∀ y z, Sz20.decimal 0 y z c = (0, c) from fun _ _ => rfl] at e1 e2
      rw [Nat.mul_zero, Nat.add_zero] at e1
      rw [e1, e2] at k
      rw [e1] at hlt
      try simp only [RXX, fl256, n256]
      refine ⟨st, res, Sz20.size b, _, _, rfl, hst, hlt, ?_⟩
      exact k.mk' rfl (flagN_cong (decide_eq_decide.mpr (by show (c : Int) = 1 ↔ c = 1; omega)) rfl rfl rfl)
def sp_outcome2 : Sp := fun vs H Q _ => ∃ (op d x st : Nat) (b : Bool), vs = [.int op, .int d, .int x, .int st, .int ((Sz20.size b : Nat) : Int)] ∧ 4 ≤ op ∧ op < 16 ∧ d < Sz20.size b ∧ x < Sz20.size b ∧ st < 512 ∧ OutQ H (twoO st op b x d) Q
theorem ok_outcome_of_two (T : Txt K mg a) : FnOk P w K mg base CX0 5 a.f_outcome_of_two a.d_outcome_of_two ["what", "d", "s", "status", "q"] sp_outcome2 := by
  refine T.F_outcome_of_two.ok sc_outcome_of_two (fun vs H Q E h => ?_) (fun cdv A outer s H vs Q E hr h => ?_)
  · obtain ⟨op, d, x, st, b, rfl, _⟩ := h
    rfl
  · obtain ⟨op, d, x, st, b, rfl, h4, h16, hd, hx, hst, k⟩ := h
    have hq := size_pos b
    refine ⟨_, (pss_cons (ps_if (pt_cmpR op_eq (pv 0) (pe_gint rfl T.c_MOVE) (nomark _)) (pss_one (ps_ret (pe_tup (pa_cons (pv 2) (pa_cons (pv 3) pa_nil))))) pss_nil)
        (pss_cons (ps_if (pt_cmpR op_le (pv 0) (pe_gint rfl T.c_COMPARE) (nomark _)) (pss_one (ps_ret (pe_call ((ok_sum_of T).mono (by decide)) hr rfl T.g_sum_of T.k_sum_of T.bd_sum_of .nil pass0 (pa_cons (pv 0) (pa_cons (pv 1) (pa_cons (pv 2) (pa_cons (pv 3) (pa_cons (pv 4) pa_nil)))))))) pss_nil)
        (pss_cons (ps_if (pt_cmpR op_eq (pv 0) (pe_gint rfl T.c_ADD_DECIMAL) (nomark _)) (pss_one (ps_ret (pe_call ((ok_added_decimal T).mono (by decide)) hr rfl T.g_added_decimal T.k_added_decimal T.bd_added_decimal .nil pass0 (pa_cons (pv 1) (pa_cons (pv 2) (pa_cons (pv 3) (pa_cons (pv 4) pa_nil))))))) pss_nil)
        (pss_cons (ps_if (pt_cmpR op_eq (pv 0) (pe_gint rfl T.c_WITHOUT_BITS) (nomark _)) (pss_one (ps_ret (pe_tup (pa_cons (pe_op op_and (pv 1) (pe_op op_sub (pe_op op_sub (pv 4) pe_int) (pv 2))) (pa_cons (pv 3) pa_nil))))) pss_nil)
        (pss_cons (ps_if (pt_cmpR op_eq (pv 0) (pe_gint rfl T.c_BITS_TOGETHER) (nomark _)) (pss_one (ps_ret (pe_tup (pa_cons (pe_op op_or (pv 1) (pv 2)) (pa_cons (pv 3) pa_nil))))) pss_nil)
        (pss_cons (ps_if (pt_cmpR op_eq (pv 0) (pe_gint rfl T.c_EXCLUSIVE_OR) (nomark _)) (pss_one (ps_ret (pe_call ((ok_exclusive_or T).mono (by decide)) hr rfl T.g_exclusive_or T.k_exclusive_or T.bd_exclusive_or .nil pass0 (pa_cons (pv 1) (pa_cons (pv 2) (pa_cons (pv 3) (pa_cons (pv 4) pa_nil))))))) pss_nil)
        (pss_one (ps_ret (pe_call ((ok_common_bits T).mono (by decide)) hr rfl T.g_common_bits T.k_common_bits T.bd_common_bits .nil pass0 (pa_cons (pv 1) (pa_cons (pv 2) (pa_cons (pv 3) (pa_cons (pv 4) pa_nil))))))))))))), ?_⟩
    have hs : ((Sz20.size b : Nat) : Int) - 1 - (x : Int) = ((Sz20.size b - 1 - x : Nat) : Int) := by omega
    rcases (by omega : op = 4 ∨ (5 ≤ op ∧ op ≤ 9) ∨ op = 10 ∨ op = 11 ∨ op = 12 ∨ op = 13 ∨ op = 14 ∨ op = 15) with rfl | h | rfl | rfl | rfl | rfl | rfl | rfl
    · try simp only [RXX, eq_self]
      exact k.mk' rfl rfl
    · have n4 : ((op : Int) = 4) = False := eq_false (by omega)
      have n9 : ((op : Int) ≤ 9) = True := eq_true (by omega)
      try simp only [RXX, n4, n9]
      exact ⟨_, _, _, _, _, rfl, h.1, h.2, hd, hx, hst, k⟩
    · try simp only [RXX, eq_self]
      exact ⟨_, _, _, _, rfl, hd, hx, hst, k⟩
    · try simp only [RXX, eq_self]
      exact ⟨_, _, _, _, rfl, hd, hx, hst, k⟩
    · try simp only [RXX, hs, nand]
      exact k.mk' rfl rfl
    · try simp only [RXX, nor]
      exact k.mk' rfl rfl
    · try simp only [RXX, eq_self]
      exact ⟨_, _, _, _, rfl, hd, hx, hst, k⟩
    · try simp only [RXX, eq_self]
      exact ⟨_, _, _, _, rfl, hd, hx, hst, k⟩
def sp_do_two (a : Ad) : Sp := fun vs H Q _ => ∃ (p r m : Addr) (s : Sz20.St) (x : Nat), vs = [.ref p, .int x] ∧ 16384 ≤ x ∧ x < 65536 ∧ PAt a H p r m s ∧ After a H p r m (doTwo s x) .non Q
theorem ok_do_two (T : Txt K mg a) : FnOk P w K mg base CX0 6 a.f_do_two a.d_do_two ["processor", "word"] (sp_do_two a) := by
  refine T.F_do_two.ok sc_do_two (fun vs H Q E h => ?_) (fun cdv A outer s H vs Q E hr h => ?_)
  · obtain ⟨p, r, m, s, x, rfl, _⟩ := h
    rfl
  · obtain ⟨p, r, m, s, x, rfl, hx1, hx2, hp, k⟩ := h
    have hq := size_pos (x.testBit 6)
    refine ⟨_, (pss_cons (ps_set (i := 2) sc_do_two.nd rfl (Or.inl rfl) (pe_call ((ok_numbers_below T).mono (by decide)) hr rfl T.g_numbers_below T.k_numbers_below T.bd_numbers_below .nil pass0 (pa_cons (pv 1) pa_nil)))
        (pss_cons (ps_set (i := 3) sc_do_two.nd rfl (Or.inl rfl) (pe_op op_shr (pv 1) pe_int))
        (pss_cons (ps_set (i := 4) sc_do_two.nd rfl (Or.inl rfl) (pe_call ((ok_first_operand T).mono (by decide)) hr rfl T.g_first_operand T.k_first_operand T.bd_first_operand .nil pass0 (pa_cons (pv 0) (pa_cons (pe_op op_and (pe_op op_shr (pv 1) pe_int) pe_int) (pa_cons (pe_op op_and (pe_op op_shr (pv 1) pe_int) pe_int) (pa_cons (pv 2) pa_nil))))))
        (pss_cons (ps_set (i := 5) sc_do_two.nd rfl (Or.inl rfl) (pe_call ((ok_value_of T).mono (by decide)) hr rfl T.g_value_of T.k_value_of T.bd_value_of .nil pass0 (pa_cons (pv 0) (pa_cons (pv 4) (pa_cons (pv 2) pa_nil)))))
        (pss_cons (ps_set (i := 6) sc_do_two.nd rfl (Or.inl rfl) (pe_call ((ok_second_operand T).mono (by decide)) hr rfl T.g_second_operand T.k_second_operand T.bd_second_operand .nil pass0 (pa_cons (pv 0) (pa_cons (pe_op op_and (pv 1) pe_int) (pa_cons (pe_op op_and (pe_op op_shr (pv 1) pe_int) pe_int) pa_nil)))))
        (pss_cons (ps_set (i := 7) sc_do_two.nd rfl (Or.inl rfl) (pe_call ((ok_value_of T).mono (by decide)) hr rfl T.g_value_of T.k_value_of T.bd_value_of .nil pass0 (pa_cons (pv 0) (pa_cons (pv 6) (pa_cons (pv 2) pa_nil)))))
        (pss_cons (ps_set (i := 8) sc_do_two.nd rfl (Or.inl rfl) (pe_call ((ok_outcome_of_two T).mono (by decide)) hr rfl T.g_outcome_of_two T.k_outcome_of_two T.bd_outcome_of_two .nil pass0 (pa_cons (pv 3) (pa_cons (pv 7) (pa_cons (pv 5) (pa_cons (pe_ix ix_list (pe_fld (pv 0) rfl) (pe_gint rfl T.c_SR) (fun _ _ => rfl)) (pa_cons (pv 2) pa_nil)))))))
        (pss_cons (ps_expr (pe_meth (pv 0) T.cl_Processor T.m_Processor_keep ((ok_Processor_keep T).mono (by decide)) hr T.bd_Processor_keep .nil pass0 (pa_cons (pe_gint rfl T.c_SR) (pa_cons (pe_ix ix_tup (pv 8) pe_int (fun _ _ => rfl)) pa_nil))))
        (pss_one (ps_if (PW.pt (pw_and (pt_cmpR op_ne (pv 3) (pe_gint rfl T.c_COMPARE) (nomark _)) (pw_and1 (pt_cmpR op_ne (pv 3) (pe_gint rfl T.c_COMMON_BITS_TEST) (nomark _))))) (pss_one (ps_expr (pe_call ((ok_keep_result T).mono (by decide)) hr rfl T.g_keep_result T.k_keep_result T.bd_keep_result .nil pass0 (pa_cons (pv 0) (pa_cons (pv 6) (pa_cons (pe_ix ix_tup (pv 8) pe_int (fun _ _ => rfl)) (pa_cons (pv 2) pa_nil))))))) pss_nil)))))))))), ?_⟩
    try simp only [RXX, T.cl_Processor, T.n_Processor_registers]
    refine ⟨x, rfl, ?_⟩
    try simp only [RXX, T.cl_Processor, T.n_Processor_registers, m15, m3, m1]
    refine ⟨p, r, m, s, x / 256 % 16, x / 16 % 4, x.testBit 6, rfl, by omega, by omega, hp, fun H1 t1 h1 k1 e1 => ?_⟩
    try simp only [RXX, T.cl_Processor, T.n_Processor_registers, m15, m3, m1]
    have o1 := source_ok hp.good (k := x / 256 % 16) (way := x / 16 % 4) (by omega) (by omega) (x.testBit 6)
    refine ⟨p, r, m, t1, _, _, x.testBit 6, rfl, h1, e1, o1, ?_⟩
    try simp only [RXX, T.cl_Processor, T.n_Processor_registers, m15, m3, m1]
    refine ⟨p, r, m, _, x % 16, x / 128 % 2, rfl, by omega, h1, fun H2 t2 h2 k2 e2 => ?_⟩
    try simp only [RXX, T.cl_Processor, T.n_Processor_registers, m15, m3, m1]
    have o2 := second_ok h1.good (k := x % 16) (way := x / 128 % 2) (by omega) (x.testBit 6)
    refine ⟨p, r, m, t2, _, _, x.testBit 6, rfl, h2, e2, o2, ?_⟩
    obtain ⟨dx, e⟩ := h2.ins
    try simp only [RXX, T.cl_Processor, T.n_Processor_registers, e]
    refine rd_ixL (SqL.of h2.rg) (h2.regAt (k := 2) rfl (by decide)) ?_
    have l1 := load_lt h1.good o1
    have l2 := load_lt h2.good o2
    have ed := doTwo_eq hp.good hx1 hx2
    dsimp only at ed
    rw [ed] at k
    refine ⟨x / 4096, _, _, _, x.testBit 6, rfl, by omega, by omega, l2, l1, h2.good.r2, fun t3 ht3 => ?_⟩
    have bnd := twoO_lt (st := (Sz20.second (Sz20.source s (x / 256 % 16) (x / 16 % 4) (x.testBit 6)).1 (x % 16) (x / 128 % 2)).1.reg 2) (op := x / 4096) l1 l2
    have h3 := h2.new (o := outT (twoO ((Sz20.second (Sz20.source s (x / 256 % 16) (x / 16 % 4) (x.testBit 6)).1 (x % 16) (x / 128 % 2)).1.reg 2) (x / 4096) (x.testBit 6) (Sz20.load (Sz20.source s (x / 256 % 16) (x / 16 % 4) (x.testBit 6)).1 (Sz20.source s (x / 256 % 16) (x / 16 % 4) (x.testBit 6)).2 (x.testBit 6)) (Sz20.load (Sz20.second (Sz20.source s (x / 256 % 16) (x / 16 % 4) (x.testBit 6)).1 (x % 16) (x / 128 % 2)).1 (Sz20.second (Sz20.source s (x / 256 % 16) (x / 16 % 4) (x.testBit 6)).1 (x % 16) (x / 128 % 2)).2 (x.testBit 6)))) ht3
    obtain ⟨dx3, e3⟩ := h3.ins
    try simp only [RXX, T.cl_Processor, T.n_Processor_registers, e3]
    refine rd_ixT (SqT.of upd_same) (i := 1) rfl ?_
    refine ⟨p, r, m, _, 2, _, rfl, h3, by decide, fun H4 h4 k4 => ?_⟩
    rw [setReg_int rfl] at h4
    have et3 := k4 t3 _ (ne_of_none h2.rg ht3).symm (ne_of_none h2.me ht3).symm upd_same
    have et2 := k4 t2 _ (ne_of e2 h2.rg (by intro z; cases z)) (ne_of e2 h2.me (by intro z; cases z)) (by rw [upd_ne (ne_of_none e2 ht3)]; exact e2)
    have kz := k1.trans (k2.trans ((Kp.new ht3).trans k4))
    try simp only [RXX, T.cl_Processor, T.n_Processor_registers]
    refine ite2 (fun h9 => ite2 (fun h11 => ?_) (fun h11 => ?_)) (fun h9 => ?_)
    · rw [if_neg (by omega)] at k
      refine rd_ixT (SqT.of et3) (i := 0) rfl ?_
      exact ⟨p, r, m, t2, _, _, x.testBit 6, _, rfl, h4, et2, o2, bnd, fun H5 h5 k5 => k H5 h5 (kz.trans k5)⟩
    · rw [if_pos (by omega)] at k
      exact k H4 h4 kz
    · rw [if_pos (by omega)] at k
      exact k H4 h4 kz
/-! ### one operand -/
def sp_kind_of : Sp := fun vs H Q _ => ∃ (x : Nat), vs = [.int x] ∧ Q (.int ((x / 128 % 8 : Nat) : Int)) H
theorem ok_kind_of (T : Txt K mg a) : FnOk P w K mg base CX0 1 a.f_kind_of a.d_kind_of ["word"] sp_kind_of := by
  refine T.F_kind_of.ok sc_kind_of (fun vs H Q E h => ?_) (fun cdv A outer s H vs Q E hr h => ?_)
  · obtain ⟨x, rfl, _⟩ := h
    rfl
  · obtain ⟨x, rfl, k⟩ := h
    refine ⟨_, (pss_one (ps_ret (pe_op op_and (pe_op op_shr (pv 0) pe_int) pe_int))), ?_⟩
    try simp only [RXX, m7]
    exact k
def sp_has_one : Sp := fun vs H Q _ => ∃ (x : Nat), vs = [.int x] ∧ 4096 ≤ x ∧ x < 5120 ∧ Q (.bl (isOne x)) H
theorem ok_has_one_operand (T : Txt K mg a) : FnOk P w K mg base CX0 2 a.f_has_one_operand a.d_has_one_operand ["word"] sp_has_one := by
  refine T.F_has_one_operand.ok sc_has_one_operand (fun vs H Q E h => ?_) (fun cdv A outer s H vs Q E hr h => ?_)
  · obtain ⟨x, rfl, _⟩ := h
    rfl
  · obtain ⟨x, rfl, h1, h2, k⟩ := h
    refine ⟨_, (pss_cons (ps_set (i := 1) sc_has_one_operand.nd rfl (Or.inl rfl) (pe_call ((ok_kind_of T).mono (by decide)) hr rfl T.g_kind_of T.k_kind_of T.bd_kind_of .nil pass0 (pa_cons (pv 0) pa_nil)))
        (pss_cons (ps_if (PW.pt (pw_or (pt_cmpR op_eq (pv 1) (pe_gint rfl T.c_SWAP_BYTES) (nomark _)) (pw_or (pt_cmpR op_eq (pv 1) (pe_gint rfl T.c_WIDEN_SIGN) (nomark _)) (pw_or1 (pt_cmpR op_eq (pv 1) (pe_gint rfl T.c_CALL) (nomark _)))))) (pss_one (ps_ret (pe_cmpR op_eq (pe_op op_and (pv 0) (pe_gint rfl T.c_ON_BYTES)) pe_int (nomark _)))) pss_nil)
        (pss_cons (ps_if (pt_cmpR op_eq (pv 1) (pe_gint rfl T.c_RETURN) (nomark _)) (pss_one (ps_ret (pe_cmpR op_eq (pv 0) (pe_gint rfl T.c_RETURN_WORD) (nomark _)))) pss_nil)
        (pss_one (ps_ret (pe_cmpR op_ne (pv 1) (pe_gint rfl T.c_NOTHING) (nomark _))))))), ?_⟩
    try simp only [RXX, eq_self]
    refine ⟨x, rfl, ?_⟩
    try simp only [RXX, fl64, e64]
    have k0 : ∀ c, c = isOne x → Q (.bl c) H := fun c e => by rw [e]; exact k
    unfold isOne at k0
    have o135 : (x / 128 % 8 = 1 ∨ x / 128 % 8 = 3 ∨ x / 128 % 8 = 5) → Q (.bl !(x.testBit 6)) H := fun h => k0 _ (by
      rw [decide_eq_false (by omega : ¬ x = 4864), decide_eq_true (by omega : x / 128 % 8 < 6)]
      have : (decide (x / 128 % 8 = 1) || decide (x / 128 % 8 = 3) || decide (x / 128 % 8 = 5)) = true := by simp only [Bool.or_eq_true, decide_eq_true_eq]; omega
      rw [this]
      cases x.testBit 6 <;> rfl)
    refine ite2 (fun h3 => o135 (by omega)) fun h3 => ite2 (fun h4 => o135 (by omega)) fun h4 => ite2 (fun h5 => o135 (by omega)) fun h5 => ?_
    have no : (decide (x / 128 % 8 = 1) || decide (x / 128 % 8 = 3) || decide (x / 128 % 8 = 5)) = false := by simp only [Bool.or_eq_false_iff, decide_eq_false_iff_not]; omega
    rw [no, Bool.and_false, Bool.not_false, Bool.and_true] at k0
    refine ite2 (fun h6 => k0 _ ?_) fun h6 => k0 _ ?_
    · rw [decide_eq_false (by omega : ¬ x / 128 % 8 < 6), Bool.or_false]
      exact decide_eq_decide.mpr (by omega)
    · rw [decide_eq_false (by omega : ¬ x = 4864), Bool.false_or, ← decide_not]
      exact decide_eq_decide.mpr (by omega)
def movO (st : Nat) (b : Bool) (x t : Nat) : Nat × Nat := (x / 2 + t, flagN st (decide (x % 2 = 1)) (decide (x / 2 + t = 0)) (Sz20.top (Sz20.size b) (x / 2 + t)) false)
def sp_moved : Sp := fun vs H Q _ => ∃ (x t st : Nat) (b : Bool), vs = [.int x, .int t, .int st, .int ((Sz20.size b : Nat) : Int)] ∧ x / 2 + t < Sz20.size b ∧ st < 512 ∧ OutQ H (movO st b x t) Q
theorem ok_moved_right (T : Txt K mg a) : FnOk P w K mg base CX0 3 a.f_moved_right a.d_moved_right ["x", "top", "status", "q"] sp_moved := by
  refine T.F_moved_right.ok sc_moved_right (fun vs H Q E h => ?_) (fun cdv A outer s H vs Q E hr h => ?_)
  · obtain ⟨x, t, st, b, rfl, _⟩ := h
    rfl
  · obtain ⟨x, t, st, b, rfl, hx, hst, k⟩ := h
    refine ⟨_, (pss_cons (ps_set (i := 4) sc_moved_right.nd rfl (Or.inl rfl) (pe_op op_add (pe_op op_fdiv (pv 0) pe_int) (pv 1)))
        (pss_one (ps_ret (pe_tup (pa_cons (pv 4) (pa_cons (pe_call ((ok_with_flags T).mono (by decide)) hr rfl T.g_with_flags T.k_with_flags T.bd_with_flags .nil pass0 (pa_cons (pv 2) (pa_cons (pv 4) (pa_cons (pv 3) (pa_cons (pe_cmpR op_eq (pe_op op_mod (pv 0) pe_int) pe_int (nomark _)) (pa_cons pe_bl pa_nil)))))) pa_nil)))))), ?_⟩
    try simp only [RXX, ← Int.natCast_add]
    refine ⟨_, _, _, _, _, rfl, hst, hx, ?_⟩
    exact k.mk' rfl (flagN_cong (decide_eq_decide.mpr (by omega)) rfl rfl rfl)
def sp_widened : Sp := fun vs H Q _ => ∃ (x st : Nat), vs = [.int x, .int st, .int 65536] ∧ st < 512 ∧ OutQ H (oneO st 3 false x) Q
theorem ok_widened (T : Txt K mg a) : FnOk P w K mg base CX0 3 a.f_widened a.d_widened ["x", "status", "q"] sp_widened := by
  refine T.F_widened.ok sc_widened (fun vs H Q E h => ?_) (fun cdv A outer s H vs Q E hr h => ?_)
  · obtain ⟨x, st, rfl, _⟩ := h
    rfl
  · obtain ⟨x, st, rfl, hst, k⟩ := h
    refine ⟨_, (pss_cons (ps_set (i := 3) sc_widened.nd rfl (Or.inl rfl) (pe_op op_mod (pv 0) (pe_gint rfl T.c_BYTES)))
        (pss_cons (ps_if (pt_truth (pe_call ((ok_has_sign T).mono (by decide)) hr rfl T.g_has_sign T.k_has_sign T.bd_has_sign .nil pass0 (pa_cons (pv 3) (pa_cons (pe_gint rfl T.c_BYTES) pa_nil))) (fun _ => rfl)) (pss_one (ps_aug (i := 3) sc_widened.nd rfl (Or.inl rfl) (pe_op op_sub (pv 2) (pe_gint rfl T.c_BYTES)) ip_add)) pss_nil)
        (pss_one (ps_ret (pe_tup (pa_cons (pv 3) (pa_cons (pe_call ((ok_with_flags T).mono (by decide)) hr rfl T.g_with_flags T.k_with_flags T.bd_with_flags .nil pass0 (pa_cons (pv 1) (pa_cons (pv 3) (pa_cons (pv 2) (pa_cons (pe_cmpR op_ne (pv 3) pe_int (nomark _)) (pa_cons pe_bl pa_nil)))))) pa_nil))))))), ?_⟩
    have e0 : (x : Int) % 256 = ((x % 256 : Nat) : Int) := by omega
    try simp only [RXX, e0]
    refine ⟨x % 256, 256, rfl, by omega, ?_⟩
    try simp only [RXX, eq_self]
    have e1 : Sz20.top 256 (x % 256) = decide (128 ≤ x % 256) := top_lt (by omega)
    rw [e1]
    unfold oneO at k
    refine ite2 (fun h1 => ?_) (fun h1 => ?_)
    · have h1 := of_decide_eq_true h1
      rw [if_pos h1] at k
      have e2 : ((x % 256 : Nat) : Int) + (65536 - 256) = ((x % 256 + 65280 : Nat) : Int) := by omega
      try simp only [RXX, e2]
      refine ⟨st, x % 256 + 65280, 65536, _, _, rfl, hst, by omega, ?_⟩
      exact k.mk' rfl (flagN_cong (by rw [← decide_not]; exact decide_eq_decide.mpr (by omega)) rfl rfl rfl)
    · have h1 : ¬ 128 ≤ x % 256 := fun z => h1 (decide_eq_true z)
      rw [if_neg h1] at k
      try simp only [RXX, eq_self]
      refine ⟨st, x % 256, 65536, _, _, rfl, hst, by omega, ?_⟩
      exact k.mk' rfl (flagN_cong (by rw [← decide_not]; exact decide_eq_decide.mpr (by omega)) rfl rfl rfl)
def sp_outcome1 : Sp := fun vs H Q _ => ∃ (j x st : Nat) (b : Bool), vs = [.int j, .int x, .int st, .int ((Sz20.size b : Nat) : Int)] ∧ j < 4 ∧ (b = true → j ≠ 1 ∧ j ≠ 3) ∧ x < Sz20.size b ∧ st < 512 ∧ OutQ H (oneO st j b x) Q
theorem ok_outcome_of_one (T : Txt K mg a) : FnOk P w K mg base CX0 4 a.f_outcome_of_one a.d_outcome_of_one ["k", "x", "status", "q"] sp_outcome1 := by
  refine T.F_outcome_of_one.ok sc_outcome_of_one (fun vs H Q E h => ?_) (fun cdv A outer s H vs Q E hr h => ?_)
  · obtain ⟨j, x, st, b, rfl, _⟩ := h
    rfl
  · obtain ⟨j, x, st, b, rfl, hj, hb, hx, hst, k⟩ := h
    have hq := size_pos b
    have bnd := oneO_lt (st := st) hj hb hx
    refine ⟨_, (pss_cons (ps_if (pt_cmpR op_eq (pv 0) (pe_gint rfl T.c_ROTATE) (nomark _)) (pss_one (ps_ret (pe_call ((ok_moved_right T).mono (by decide)) hr rfl T.g_moved_right T.k_moved_right T.bd_moved_right .nil pass0 (pa_cons (pv 1) (pa_cons (pe_op op_mul (pe_op op_fdiv (pv 3) pe_int) (pe_op op_and (pv 2) (pe_gint rfl T.c_CARRY))) (pa_cons (pv 2) (pa_cons (pv 3) pa_nil))))))) pss_nil)
        (pss_cons (ps_if (pt_cmpR op_eq (pv 0) (pe_gint rfl T.c_SWAP_BYTES) (nomark _)) (pss_one (ps_ret (pe_tup (pa_cons (pe_op op_add (pe_op op_mul (pe_op op_mod (pv 1) (pe_gint rfl T.c_BYTES)) (pe_gint rfl T.c_BYTES)) (pe_op op_fdiv (pv 1) (pe_gint rfl T.c_BYTES))) (pa_cons (pv 2) pa_nil))))) pss_nil)
        (pss_cons (ps_if (pt_cmpR op_eq (pv 0) (pe_gint rfl T.c_HALVE) (nomark _)) (pss_one (ps_ret (pe_call ((ok_moved_right T).mono (by decide)) hr rfl T.g_moved_right T.k_moved_right T.bd_moved_right .nil pass0 (pa_cons (pv 1) (pa_cons (pe_ifExp (pt_truth (pe_call ((ok_has_sign T).mono (by decide)) hr rfl T.g_has_sign T.k_has_sign T.bd_has_sign .nil pass0 (pa_cons (pv 1) (pa_cons (pv 3) pa_nil))) (fun _ => rfl)) (pe_op op_fdiv (pv 3) pe_int) pe_int) (pa_cons (pv 2) (pa_cons (pv 3) pa_nil))))))) pss_nil)
        (pss_one (ps_ret (pe_call ((ok_widened T).mono (by decide)) hr rfl T.g_widened T.k_widened T.bd_widened .nil pass0 (pa_cons (pv 1) (pa_cons (pv 2) (pa_cons (pv 3) pa_nil))))))))), ?_⟩
    match j, hj with
    | 0, _ =>
      have hc : (st.testBit 0).toNat ≤ 1 := by cases st.testBit 0 <;> decide
      try simp only [RXX, fl1, ← Int.natCast_mul]
      refine ⟨.inr (by omega), x, _, st, b, rfl, ?_, hst, ?_⟩
      · rw [Nat.mul_comm]
        exact bnd
      · have e : oneO st 0 b x = movO st b x (Sz20.size b / 2 * (st.testBit 0).toNat) := by
          have bnd' : x / 2 + (st.testBit 0).toNat * (Sz20.size b / 2) < Sz20.size b := bnd
          have e2 : st.testBit 0 = decide (Sz20.size b / 2 ≤ x / 2 + (st.testBit 0).toNat * (Sz20.size b / 2)) := by
            cases st.testBit 0
            · rw [Bool.toNat_false, Nat.zero_mul, decide_eq_false (by rcases hq.2.1 with z | z <;> rw [z] at hx ⊢ <;> omega)]
            · rw [Bool.toNat_true, Nat.one_mul, decide_eq_true (by omega)]
          rw [Nat.mul_comm (Sz20.size b / 2)]
          unfold movO
          rw [top_lt bnd', ← e2]
          rfl
        rw [← e]
        exact k
    | 1, _ =>
      have hb : b = false := by
        cases b
        · rfl
        · exact absurd rfl (hb rfl).1
      subst hb
      try simp only [RXX, eq_self]
      exact k.mk' (by show (x : Int) % 256 * 256 + ((x / 256 : Nat) : Int) = ((x % 256 * 256 + x / 256 : Nat) : Int); omega) rfl
    | 2, _ =>
      try simp only [RXX, eq_self]
      refine ⟨_, _, rfl, hx, ?_⟩
      try simp only [RXX, eq_self]
      refine ite2 (fun h1 => ?_) (fun h1 => ?_)
      · have e : oneO st 2 b x = movO st b x (if Sz20.top (Sz20.size b) x = true then Sz20.size b / 2 else 0) := rfl
        rw [if_pos h1] at e
        rw [e] at k bnd
        exact ⟨x, _, st, b, rfl, bnd, hst, k⟩
      · have e : oneO st 2 b x = movO st b x (if Sz20.top (Sz20.size b) x = true then Sz20.size b / 2 else 0) := rfl
        rw [if_neg h1] at e
        rw [e] at k bnd
        exact ⟨x, 0, st, b, rfl, bnd, hst, k⟩
    | 3, _ =>
      have hb : b = false := by
        cases b
        · rfl
        · exact absurd rfl (hb rfl).2
      subst hb
      try simp only [RXX, eq_self]
      exact ⟨x, st, rfl, hst, k⟩
    | j + 4, h => exact absurd h (by omega)
def sp_push_byte (a : Ad) : Sp := fun vs H Q _ => ∃ (p r m : Addr) (s : Sz20.St) (y : Nat), vs = [.ref p, .int y] ∧ PAt a H p r m s ∧ y < 256 ∧ After a H p r m ((s.setReg 1 (Sz20.w16 (s.reg 1 + 65534))).putByte (Sz20.w16 (s.reg 1 + 65534)) y) .non Q
theorem ok_push_byte (T : Txt K mg a) : FnOk P w K mg base CX0 2 a.f_push_byte a.d_push_byte ["processor", "byte"] (sp_push_byte a) := by
  refine T.F_push_byte.ok sc_push_byte (fun vs H Q E h => ?_) (fun cdv A outer s H vs Q E hr h => ?_)
  · obtain ⟨p, r, m, s, y, rfl, _⟩ := h
    rfl
  · obtain ⟨p, r, m, s, y, rfl, hp, hy, k⟩ := h
    obtain ⟨dx, e⟩ := hp.ins
    refine ⟨_, (pss_cons (ps_expr (pe_meth (pv 0) T.cl_Processor T.m_Processor_keep ((ok_Processor_keep T).mono (by decide)) hr T.bd_Processor_keep .nil pass0 (pa_cons (pe_gint rfl T.c_SP) (pa_cons (pe_op op_sub (pe_ix ix_list (pe_fld (pv 0) rfl) (pe_gint rfl T.c_SP) (fun _ _ => rfl)) pe_int) pa_nil))))
        (pss_one (ps_asg (pv 1) (pg_sub (pe_fld (pv 0) rfl) (pe_ix ix_list (pe_fld (pv 0) rfl) (pe_gint rfl T.c_SP) (fun _ _ => rfl)) set_list)))), ?_⟩
    try simp only [RXX, T.cl_Processor, T.n_Processor_memory, T.n_Processor_registers, e]
    refine rd_ixL (SqL.of hp.rg) (hp.regAt (k := 1) rfl (by decide)) ?_
    try simp only [RXX, T.cl_Processor, T.n_Processor_memory, T.n_Processor_registers, e]
    refine ⟨p, r, m, s, 1, _, rfl, hp, by decide, fun H1 h1 k1 => ?_⟩
    obtain ⟨dx1, e1⟩ := h1.ins
    try simp only [RXX, T.cl_Processor, T.n_Processor_memory, T.n_Processor_registers, e1]
    refine rd_ixL (SqL.of h1.rg) (h1.regAt (k := 1) rfl (by decide)) ?_
    try simp only [RXX, T.cl_Processor, T.n_Processor_memory, T.n_Processor_registers, e1, h1.me]
    have hr := h1.good.rk 1
    refine ⟨_, ixN_nat rfl (by rw [List.length_map, memI_length]; exact hr), ?_⟩
    rw [memV_set hr hy]
    rw [← pushB_eq hp.good y (y := (((s.reg 1 : Nat) : Int) - 2) % 65536 |>.toNat) (by omega)] at k
    exact k _ (h1.putByte _ y) (k1.trans .setM)
def sp_do_return (a : Ad) : Sp := fun vs H Q _ => ∃ (p r m : Addr) (s : Sz20.St), vs = [.ref p] ∧ PAt a H p r m s ∧ After a H p r m (doBack s) .non Q
theorem ok_do_return (T : Txt K mg a) : FnOk P w K mg base CX0 3 a.f_do_return a.d_do_return ["processor"] (sp_do_return a) := by
  refine T.F_do_return.ok sc_do_return (fun vs H Q E h => ?_) (fun cdv A outer s H vs Q E hr h => ?_)
  · obtain ⟨p, r, m, s, rfl, _⟩ := h
    rfl
  · obtain ⟨p, r, m, s, rfl, hp, k⟩ := h
    obtain ⟨dx, e⟩ := hp.ins
    refine ⟨_, (pss_cons (ps_expr (pe_meth (pv 0) T.cl_Processor T.m_Processor_keep ((ok_Processor_keep T).mono (by decide)) hr T.bd_Processor_keep .nil pass0 (pa_cons (pe_gint rfl T.c_SR) (pa_cons (pe_meth0 (pv 0) T.cl_Processor T.m_Processor_pull ((ok_Processor_pull T).mono (by decide)) hr T.bd_Processor_pull .nil pass0) pa_nil))))
        (pss_one (ps_expr (pe_meth (pv 0) T.cl_Processor T.m_Processor_keep ((ok_Processor_keep T).mono (by decide)) hr T.bd_Processor_keep .nil pass0 (pa_cons (pe_gint rfl T.c_PC) (pa_cons (pe_meth0 (pv 0) T.cl_Processor T.m_Processor_pull ((ok_Processor_pull T).mono (by decide)) hr T.bd_Processor_pull .nil pass0) pa_nil)))))), ?_⟩
    try simp only [RXX, T.cl_Processor, e]
    refine ⟨p, r, m, s, rfl, hp, fun H1 h1 k1 => ?_⟩
    obtain ⟨dx1, e1⟩ := h1.ins
    try simp only [RXX, T.cl_Processor, e1]
    refine ⟨p, r, m, _, 2, _, rfl, h1, by decide, fun H2 h2 k2 => ?_⟩
    rw [setReg_int rfl] at h2
    obtain ⟨dx2, e2⟩ := h2.ins
    try simp only [RXX, T.cl_Processor, e2]
    refine ⟨p, r, m, _, rfl, h2, fun H3 h3 k3 => ?_⟩
    obtain ⟨dx3, e3⟩ := h3.ins
    try simp only [RXX, T.cl_Processor, e3]
    refine ⟨p, r, m, _, 0, _, rfl, h3, by decide, fun H4 h4 k4 => ?_⟩
    rw [setReg_int rfl] at h4
    exact k H4 h4 (k1.trans (k2.trans (k3.trans k4)))
def sp_do_one (a : Ad) : Sp := fun vs H Q _ => ∃ (p r m : Addr) (s : Sz20.St) (x : Nat), vs = [.ref p, .int x] ∧ x / 128 % 8 < 6 ∧ (x.testBit 6 = true → ¬ (x / 128 % 8 = 1 ∨ x / 128 % 8 = 3 ∨ x / 128 % 8 = 5)) ∧ PAt a H p r m s ∧ After a H p r m (doOne s x) .non Q
theorem ok_do_one (T : Txt K mg a) : FnOk P w K mg base CX0 5 a.f_do_one a.d_do_one ["processor", "word"] (sp_do_one a) := by
  refine T.F_do_one.ok sc_do_one (fun vs H Q E h => ?_) (fun cdv A outer s H vs Q E hr h => ?_)
  · obtain ⟨p, r, m, s, x, rfl, _⟩ := h
    rfl
  · obtain ⟨p, r, m, s, x, rfl, hx1, hx2, hp, k⟩ := h
    have hq := size_pos (x.testBit 6)
    refine ⟨_, (pss_cons (ps_set (i := 2) sc_do_one.nd rfl (Or.inl rfl) (pe_call ((ok_numbers_below T).mono (by decide)) hr rfl T.g_numbers_below T.k_numbers_below T.bd_numbers_below .nil pass0 (pa_cons (pv 1) pa_nil)))
        (pss_cons (ps_set (i := 3) sc_do_one.nd rfl (Or.inl rfl) (pe_call ((ok_kind_of T).mono (by decide)) hr rfl T.g_kind_of T.k_kind_of T.bd_kind_of .nil pass0 (pa_cons (pv 1) pa_nil)))
        (pss_cons (ps_set (i := 4) sc_do_one.nd rfl (Or.inl rfl) (pe_call ((ok_first_operand T).mono (by decide)) hr rfl T.g_first_operand T.k_first_operand T.bd_first_operand .nil pass0 (pa_cons (pv 0) (pa_cons (pe_op op_and (pv 1) pe_int) (pa_cons (pe_op op_and (pe_op op_shr (pv 1) pe_int) pe_int) (pa_cons (pv 2) pa_nil))))))
        (pss_cons (ps_set (i := 5) sc_do_one.nd rfl (Or.inl rfl) (pe_call ((ok_value_of T).mono (by decide)) hr rfl T.g_value_of T.k_value_of T.bd_value_of .nil pass0 (pa_cons (pv 0) (pa_cons (pv 4) (pa_cons (pv 2) pa_nil)))))
        (pss_one (ps_if (PW.pt (pw_and (pt_cmpR op_eq (pv 3) (pe_gint rfl T.c_PUSH) (nomark _)) (pw_and1 (pt_cmpR op_eq (pv 2) (pe_gint rfl T.c_BYTES) (nomark _))))) (pss_one (ps_expr (pe_call ((ok_push_byte T).mono (by decide)) hr rfl T.g_push_byte T.k_push_byte T.bd_push_byte .nil pass0 (pa_cons (pv 0) (pa_cons (pv 5) pa_nil))))) (pss_one (ps_if (pt_cmpR op_eq (pv 3) (pe_gint rfl T.c_PUSH) (nomark _)) (pss_one (ps_expr (pe_meth (pv 0) T.cl_Processor T.m_Processor_push ((ok_Processor_push T).mono (by decide)) hr T.bd_Processor_push .nil pass0 (pa_cons (pv 5) pa_nil)))) (pss_one (ps_if (pt_cmpR op_eq (pv 3) (pe_gint rfl T.c_CALL) (nomark _)) (pss_cons (ps_expr (pe_meth (pv 0) T.cl_Processor T.m_Processor_push ((ok_Processor_push T).mono (by decide)) hr T.bd_Processor_push .nil pass0 (pa_cons (pe_ix ix_list (pe_fld (pv 0) rfl) (pe_gint rfl T.c_PC) (fun _ _ => rfl)) pa_nil)))
        (pss_one (ps_expr (pe_meth (pv 0) T.cl_Processor T.m_Processor_keep ((ok_Processor_keep T).mono (by decide)) hr T.bd_Processor_keep .nil pass0 (pa_cons (pe_gint rfl T.c_PC) (pa_cons (pv 5) pa_nil)))))) (pss_cons (ps_set (i := 6) sc_do_one.nd rfl (Or.inl rfl) (pe_call ((ok_outcome_of_one T).mono (by decide)) hr rfl T.g_outcome_of_one T.k_outcome_of_one T.bd_outcome_of_one .nil pass0 (pa_cons (pv 3) (pa_cons (pv 5) (pa_cons (pe_ix ix_list (pe_fld (pv 0) rfl) (pe_gint rfl T.c_SR) (fun _ _ => rfl)) (pa_cons (pv 2) pa_nil))))))
        (pss_cons (ps_expr (pe_meth (pv 0) T.cl_Processor T.m_Processor_keep ((ok_Processor_keep T).mono (by decide)) hr T.bd_Processor_keep .nil pass0 (pa_cons (pe_gint rfl T.c_SR) (pa_cons (pe_ix ix_tup (pv 6) pe_int (fun _ _ => rfl)) pa_nil))))
        (pss_one (ps_expr (pe_call ((ok_keep_result T).mono (by decide)) hr rfl T.g_keep_result T.k_keep_result T.bd_keep_result .nil pass0 (pa_cons (pv 0) (pa_cons (pv 4) (pa_cons (pe_ix ix_tup (pv 6) pe_int (fun _ _ => rfl)) (pa_cons (pv 2) pa_nil))))))))))))))))))), ?_⟩
    try simp only [RXX, T.cl_Processor, T.n_Processor_registers]
    refine ⟨x, rfl, ?_⟩
    try simp only [RXX, T.cl_Processor, T.n_Processor_registers]
    refine ⟨x, rfl, ?_⟩
    try simp only [RXX, T.cl_Processor, T.n_Processor_registers, m15, m3]
    refine ⟨p, r, m, s, x % 16, x / 16 % 4, x.testBit 6, rfl, by omega, by omega, hp, fun H1 t1 h1 k1 e1 => ?_⟩
    have o1 := source_ok hp.good (k := x % 16) (way := x / 16 % 4) (by omega) (by omega) (x.testBit 6)
    refine ⟨p, r, m, t1, _, _, x.testBit 6, rfl, h1, e1, o1, ?_⟩
    obtain ⟨dx, e⟩ := h1.ins
    have l1 := load_lt h1.good o1
    unfold doOne at k
    generalize hS : Sz20.source s (x % 16) (x / 16 % 4) (x.testBit 6) = S at h1 e1 o1 l1 k ⊢
    generalize hK : x / 128 % 8 = kk at hx1 hx2 k ⊢
    generalize hB : x.testBit 6 = b at hx2 o1 l1 k hq ⊢
    try simp only [RXX, T.cl_Processor, T.n_Processor_registers, e]
    by_cases h4 : kk = 4
    · rw [if_pos (by omega)]
      subst h4
      cases b
      · rw [if_neg (by decide), if_pos (by omega)]
        exact ⟨p, r, m, _, _, rfl, h1, l1, fun H2 h2 k2 => k H2 h2 (k1.trans k2)⟩
      · rw [if_pos (by decide)]
        exact ⟨p, r, m, _, _, rfl, h1, l1, fun H2 h2 k2 => k H2 h2 (k1.trans k2)⟩
    · rw [if_neg (by omega), if_neg (by omega)]
      by_cases h5 : kk = 5
      · rw [if_pos (by omega)]
        subst h5
        refine rd_ixL (SqL.of h1.rg) (h1.regAt (k := 0) rfl (by decide)) ?_
        refine ⟨p, r, m, _, _, rfl, h1, h1.good.rk 0, fun H2 h2 k2 => ?_⟩
        obtain ⟨dx2, e2⟩ := h2.ins
        try simp only [RXX, T.cl_Processor, T.n_Processor_registers, e2]
        refine ⟨p, r, m, _, 0, _, rfl, h2, by decide, fun H3 h3 k3 => ?_⟩
        rw [setReg_int rfl] at h3
        exact k H3 h3 (k1.trans (k2.trans k3))
      · rw [if_neg (by omega)]
        have hk4 : kk < 4 := by omega
        have hb : b = true → kk ≠ 1 ∧ kk ≠ 3 := fun z => by
          have := hx2 z
          omega
        rw [one_eq h1.good hk4 hb] at k
        have bnd := oneO_lt (st := S.1.reg 2) hk4 hb l1
        refine rd_ixL (SqL.of h1.rg) (h1.regAt (k := 2) rfl (by decide)) ?_
        refine ⟨kk, _, _, b, rfl, hk4, hb, l1, h1.good.r2, fun t3 ht3 => ?_⟩
        generalize oneO (S.1.reg 2) kk b (Sz20.load S.1 S.2 b) = o at k bnd ⊢
        have h3 := h1.new (o := outT o) ht3
        obtain ⟨dx3, e3⟩ := h3.ins
        try simp only [RXX, T.cl_Processor, T.n_Processor_registers, e3]
        refine rd_ixT (SqT.of upd_same) (i := 1) rfl ?_
        refine ⟨p, r, m, _, 2, _, rfl, h3, by decide, fun H4 h4 k4 => ?_⟩
        rw [setReg_int rfl] at h4
        have et3 := k4 t3 _ (ne_of_none h1.rg ht3).symm (ne_of_none h1.me ht3).symm upd_same
        have et1 := k4 t1 _ (ne_of e1 h1.rg (by intro z; cases z)) (ne_of e1 h1.me (by intro z; cases z)) (by rw [upd_ne (ne_of_none e1 ht3)]; exact e1)
        have kz := k1.trans ((Kp.new ht3).trans k4)
        refine rd_ixT (SqT.of et3) (i := 0) rfl ?_
        exact ⟨p, r, m, t1, _, _, b, _, rfl, h4, et1, o1, bnd, fun H5 h5 k5 => k H5 h5 (kz.trans k5)⟩
/-! ### running -/
def sp_is_instruction : Sp := fun vs H Q _ => ∃ (x : Nat), vs = [.int x] ∧ Q (.bl (isIns x)) H
theorem ok_is_instruction (T : Txt K mg a) : FnOk P w K mg base CX0 3 a.f_is_instruction a.d_is_instruction ["word"] sp_is_instruction := by
  refine T.F_is_instruction.ok sc_is_instruction (fun vs H Q E h => ?_) (fun cdv A outer s H vs Q E hr h => ?_)
  · obtain ⟨x, rfl, _⟩ := h
    rfl
  · obtain ⟨x, rfl, k⟩ := h
    refine ⟨_, (pss_cons (ps_if (pt_cmpR op_ge (pv 0) (pe_gint rfl T.c_JUMPS) (nomark _)) (pss_one (ps_ret pe_bl)) pss_nil)
        (pss_one (ps_ret (pe_and (pe_chain op_le op_lt (pe_gint rfl T.c_ONE_OPERAND) (pv 0) (pe_gint rfl T.c_BEHIND_ONE_OPERAND)) (pe_one (pe_call ((ok_has_one_operand T).mono (by decide)) hr rfl T.g_has_one_operand T.k_has_one_operand T.bd_has_one_operand .nil pass0 (pa_cons (pv 0) pa_nil))))))), ?_⟩
    try simp only [RXX, eq_self]
    have k0 : ∀ c, c = isIns x → Q (.bl c) H := fun c e => by rw [e]; exact k
    unfold isIns at k0
    refine ite2 (fun h1 => k0 _ ?_) (fun h1 => ?_)
    · rw [decide_eq_true (by omega : 8192 ≤ x)]
      rfl
    · rw [decide_eq_false (by omega : ¬ 8192 ≤ x), Bool.false_or] at k0
      refine ite2 (fun h2 => ite2 (fun h3 => ?_) (fun h3 => k0 _ ?_)) (fun h2 => k0 _ ?_)
      · rw [decide_eq_true (by omega : 4096 ≤ x ∧ x < 5120), Bool.true_and] at k0
        exact ⟨x, rfl, by omega, by omega, k0 _ rfl⟩
      · rw [decide_eq_false (by omega : ¬ (4096 ≤ x ∧ x < 5120))]
        rfl
      · rw [decide_eq_false (by omega : ¬ (4096 ≤ x ∧ x < 5120))]
        rfl
def sp_do_instruction (a : Ad) : Sp := fun vs H Q _ => ∃ (p r m : Addr) (s : Sz20.St) (x : Nat), vs = [.ref p, .int x] ∧ x < 65536 ∧ isIns x = true ∧ PAt a H p r m s ∧ After a H p r m (doIns s x) .non Q
theorem ok_do_instruction (T : Txt K mg a) : FnOk P w K mg base CX0 7 a.f_do_instruction a.d_do_instruction ["processor", "word"] (sp_do_instruction a) := by
  refine T.F_do_instruction.ok sc_do_instruction (fun vs H Q E h => ?_) (fun cdv A outer s H vs Q E hr h => ?_)
  · obtain ⟨p, r, m, s, x, rfl, _⟩ := h
    rfl
  · obtain ⟨p, r, m, s, x, rfl, hx, hi, hp, k⟩ := h
    refine ⟨_, (pss_one (ps_if (pt_cmpR op_ge (pv 1) (pe_gint rfl T.c_TWO_OPERANDS) (nomark _)) (pss_one (ps_expr (pe_call ((ok_do_two T).mono (by decide)) hr rfl T.g_do_two T.k_do_two T.bd_do_two .nil pass0 (pa_cons (pv 0) (pa_cons (pv 1) pa_nil))))) (pss_one (ps_if (pt_cmpR op_ge (pv 1) (pe_gint rfl T.c_JUMPS) (nomark _)) (pss_one (ps_expr (pe_call ((ok_do_jump T).mono (by decide)) hr rfl T.g_do_jump T.k_do_jump T.bd_do_jump .nil pass0 (pa_cons (pv 0) (pa_cons (pv 1) pa_nil))))) (pss_one (ps_if (pt_cmpR op_eq (pv 1) (pe_gint rfl T.c_RETURN_WORD) (nomark _)) (pss_one (ps_expr (pe_call ((ok_do_return T).mono (by decide)) hr rfl T.g_do_return T.k_do_return T.bd_do_return .nil pass0 (pa_cons (pv 0) pa_nil)))) (pss_one (ps_expr (pe_call ((ok_do_one T).mono (by decide)) hr rfl T.g_do_one T.k_do_one T.bd_do_one .nil pass0 (pa_cons (pv 0) (pa_cons (pv 1) pa_nil))))))))))), ?_⟩
    try simp only [RXX, eq_self]
    unfold doIns at k
    refine ite2 (fun h1 => ?_) (fun h1 => ite2 (fun h2 => ?_) (fun h2 => ite2 (fun h3 => ?_) (fun h3 => ?_)))
    · rw [if_pos (by omega)] at k
      exact ⟨p, r, m, s, x, rfl, by omega, hx, hp, k⟩
    · rw [if_neg (by omega), if_pos (by omega)] at k
      exact ⟨p, r, m, s, x, rfl, hp, k⟩
    · rw [if_neg (by omega), if_neg (by omega), if_pos (by omega)] at k
      exact ⟨p, r, m, s, rfl, hp, k⟩
    · rw [if_neg (by omega), if_neg (by omega), if_neg (by omega)] at k
      unfold isIns isOne at hi
      rw [decide_eq_false (by omega : ¬ 8192 ≤ x), decide_eq_false (by omega : ¬ x = 4864), Bool.false_or, Bool.false_or] at hi
      simp only [Bool.and_eq_true, decide_eq_true_eq, Bool.not_eq_true', Bool.and_eq_false_iff, Bool.or_eq_false_iff, decide_eq_false_iff_not] at hi
      refine ⟨p, r, m, s, x, rfl, hi.2.1, fun z => ?_, hp, k⟩
      rcases hi.2.2 with y | y
      · rw [z] at y
        cases y
      · omega
def sp_goes_on (a : Ad) : Sp := fun vs H Q _ => ∃ (p r m : Addr) (s : Sz20.St), vs = [.ref p] ∧ PAt a H p r m s ∧
  (s.flag 4 = true → Q (.bl false) H) ∧ (s.flag 4 = false → Sz20.step s = none → Q (.bl false) H) ∧ (∀ n, s.flag 4 = false → Sz20.step s = some n → After a H p r m n (.bl true) Q)
theorem ok_goes_on (T : Txt K mg a) : FnOk P w K mg base CX0 8 a.f_goes_on a.d_goes_on ["processor"] (sp_goes_on a) := by
  refine T.F_goes_on.ok sc_goes_on (fun vs H Q E h => ?_) (fun cdv A outer s H vs Q E hr h => ?_)
  · obtain ⟨p, r, m, s, rfl, _⟩ := h
    rfl
  · obtain ⟨p, r, m, s, rfl, hp, ka, kb, kc⟩ := h
    obtain ⟨dx, e⟩ := hp.ins
    refine ⟨_, (pss_cons (ps_if (pt_truth (pe_op op_and (pe_ix ix_list (pe_fld (pv 0) rfl) (pe_gint rfl T.c_SR) (fun _ _ => rfl)) (pe_gint rfl T.c_STOPPED)) (fun _ => rfl)) (pss_one (ps_ret pe_bl)) pss_nil)
        (pss_cons (ps_set (i := 1) sc_goes_on.nd rfl (Or.inl rfl) (pe_ix ix_list (pe_fld (pv 0) rfl) (pe_gint rfl T.c_PC) (fun _ _ => rfl)))
        (pss_cons (ps_set (i := 2) sc_goes_on.nd rfl (Or.inl rfl) (pe_meth (pv 0) T.cl_Processor T.m_Processor_word_at ((ok_Processor_word_at T).mono (by decide)) hr T.bd_Processor_word_at .nil pass0 (pa_cons (pv 1) pa_nil)))
        (pss_cons (ps_if (pt_not (pt_truth (pe_call ((ok_is_instruction T).mono (by decide)) hr rfl T.g_is_instruction T.k_is_instruction T.bd_is_instruction .nil pass0 (pa_cons (pv 2) pa_nil)) (fun _ => rfl))) (pss_one (ps_ret pe_bl)) pss_nil)
        (pss_cons (ps_expr (pe_meth (pv 0) T.cl_Processor T.m_Processor_keep ((ok_Processor_keep T).mono (by decide)) hr T.bd_Processor_keep .nil pass0 (pa_cons (pe_gint rfl T.c_PC) (pa_cons (pe_op op_add (pv 1) pe_int) pa_nil))))
        (pss_cons (ps_expr (pe_call ((ok_do_instruction T).mono (by decide)) hr rfl T.g_do_instruction T.k_do_instruction T.bd_do_instruction .nil pass0 (pa_cons (pv 0) (pa_cons (pv 2) pa_nil))))
        (pss_one (ps_ret pe_bl)))))))), ?_⟩
    try simp only [RXX, T.cl_Processor, T.n_Processor_registers, e]
    refine rd_ixL (SqL.of hp.rg) (hp.regAt (k := 2) rfl (by decide)) ?_
    try simp only [RXX, T.cl_Processor, T.n_Processor_registers, e, fl16, t16]
    refine ite2 (fun h1 => ka h1) (fun h1 => ?_)
    have h1 : s.flag 4 = false := Bool.eq_false_iff.mpr h1
    refine rd_ixL (SqL.of hp.rg) (hp.regAt (k := 0) rfl (by decide)) ?_
    try simp only [RXX, T.cl_Processor, T.n_Processor_registers, e]
    refine ⟨p, r, m, s, _, rfl, hp, ?_⟩
    try simp only [RXX, T.cl_Processor, T.n_Processor_registers, e]
    refine ⟨_, rfl, ?_⟩
    try simp only [RXX, T.cl_Processor, T.n_Processor_registers, e]
    have hs := step_ins s
    refine ite2 (fun h2 => ?_) (fun h2 => ?_)
    · rw [if_neg (by rw [h2]; decide)] at hs
      exact kb h1 hs
    · have h2 : isIns (s.word (s.reg 0)) = true := by
        cases z : isIns (s.word (s.reg 0))
        · exact absurd z h2
        · rfl
      rw [if_pos h2] at hs
      have k := kc _ h1 hs
      refine ⟨p, r, m, s, 0, _, rfl, hp, by decide, fun H1 h3 k1 => ?_⟩
      rw [setReg_int (x := s.reg 0 + 2) (by omega)] at h3
      try simp only [RXX, T.cl_Processor, T.n_Processor_registers]
      exact ⟨p, r, m, _, _, rfl, hp.good.word _, h2, h3, fun H2 h4 k2 => k H2 h4 (k1.trans k2)⟩
def runW (a : Ad) (H : Hp) (p r m : Addr) (s : Sz20.St) (n j : Nat) (σ : L2.St) (H' : Hp) : Prop := ∃ (i : Nat) (c : Sz20.St), j = n - i ∧ i ≤ n ∧ σ = [some (.ref p), some (.int ((n : Nat) : Int)), some (.int ((i : Nat) : Int))] ∧ PAt a H' p r m c ∧ Kp H H' r m ∧ Sz20.steps n s = ((Sz20.steps (n - i) c).1, i + (Sz20.steps (n - i) c).2)
def sp_run (a : Ad) : Sp := fun vs H Q _ => ∃ (p r m : Addr) (s : Sz20.St) (n : Int), vs = [.ref p, .int n] ∧ PAt a H p r m s ∧
  if 0 ≤ n ∧ n ≤ 1000000 then After a H p r m (Sz20.steps n.toNat s).1 (.int (((Sz20.steps n.toNat s).2 : Nat) : Int)) Q else Q (.int (-1)) H
theorem ok_run (T : Txt K mg a) : FnOk P w K mg base CX0 9 a.f_run a.d_run ["processor", "n"] (sp_run a) := by
  refine T.F_run.ok sc_run (fun vs H Q E h => ?_) (fun cdv A outer s H vs Q E hr h => ?_)
  · obtain ⟨p, r, m, s, n, rfl, _⟩ := h
    rfl
  · obtain ⟨p, r, m, s, n, rfl, hp, k⟩ := h
    refine ⟨_, (pss_cons (ps_if (PW.pt (pw_or (pt_cmpR op_lt (pv 1) pe_int (nomark _)) (pw_or1 (pt_cmpR op_gt (pv 1) (pe_gint rfl T.c_MOST_INSTRUCTIONS) (nomark _))))) (pss_one (ps_ret (pe_gint rfl T.c_REFUSED))) pss_nil)
        (pss_cons (ps_set (i := 2) sc_run.nd rfl (Or.inl rfl) pe_int)
        (pss_cons (ps_while PassesOwn.never (PW.pt (pw_and (pt_cmpR op_lt (pv 2) (pv 1) (nomark _)) (pw_and1 (pt_truth (pe_call ((ok_goes_on T).mono (by decide)) hr rfl T.g_goes_on T.k_goes_on T.bd_goes_on .nil pass0 (pa_cons (pv 0) pa_nil)) (fun _ => rfl))))) (pss_one (ps_aug (i := 2) sc_run.nd rfl (Or.inl rfl) pe_int ip_add)))
        (pss_one (ps_ret (pv 2)))))), ?_⟩
    try simp only [RXX, eq_self]
    refine ite2 (fun h1 => ?_) (fun h1 => ite2 (fun h2 => ?_) (fun h2 => ?_))
    · rw [if_neg (by omega)] at k
      exact k
    · rw [if_neg (by omega)] at k
      exact k
    · rw [if_pos (by omega)] at k
      obtain ⟨N, rfl⟩ : ∃ N : Nat, n = (N : Int) := ⟨n.toNat, by omega⟩
      rw [Int.toNat_natCast] at k
      refine ⟨runW a H p r m s N, ⟨N, 0, s, rfl, Nat.zero_le _, rfl, hp, .refl, by rw [Nat.sub_zero, Nat.zero_add]⟩, ?_⟩
      rintro j σ H' ⟨i, c, rfl, hi, rfl, hc, kc, he⟩
      try simp only [RXX, eq_self]
      have fin : Sz20.steps (N - i) c = (c, 0) → After a H p r m c (.int ((i : Nat) : Int)) Q := fun z => by
        rw [z, Nat.add_zero] at he
        rw [he] at k
        exact k
      refine ite2 (fun h3 => ?_) (fun h3 => ?_)
      · obtain ⟨u, hu⟩ : ∃ u, N - i = u + 1 := ⟨N - i - 1, by omega⟩
        have hs := steps_succ u c
        refine ⟨p, r, m, c, rfl, hc, fun hf => ?_, fun hf hn => ?_, fun d hf hd H2 h2 k2 => ?_⟩
        · rw [hf, if_pos rfl] at hs
          rw [hu] at fin
          try simp only [RXX, eq_self]
          exact fin hs H' hc kc
        · rw [hf, if_neg (by decide), hn] at hs
          rw [hu] at fin
          try simp only [RXX, eq_self]
          exact fin hs H' hc kc
        · rw [hf, if_neg (by decide), hd] at hs
          try simp only [RXX, eq_self]
          refine ⟨runW a H p r m s N u, fun σ' H'' h => ⟨u, by omega, h⟩, ?_⟩
          refine ⟨i + 1, d, by omega, by omega, rfl, h2, kc.trans k2, ?_⟩
          rw [he, hu, hs, show N - (i + 1) = u by omega]
          dsimp only
          rw [Nat.add_assoc, Nat.add_comm 1]
      · have z : N - i = 0 := by omega
        rw [z] at fin
        exact fin rfl H' hc kc
def sp_interrupt (a : Ad) : Sp := fun vs H Q _ => ∃ (p r m : Addr) (s : Sz20.St) (v : Int), vs = [.ref p, .int v] ∧ PAt a H p r m s ∧
  if 65472 ≤ v ∧ v ≤ 65535 ∧ v % 2 = 0 then
    (if s.flag 3 = true then After a H p r m ((((s.push (s.reg 0)).push (s.reg 2)).setReg 2 0).setReg 0 (((s.push (s.reg 0)).push (s.reg 2)).word v.toNat)) (.int 1) Q else Q (.int 0) H) else Q (.int (-1)) H
theorem ok_interrupt (T : Txt K mg a) : FnOk P w K mg base CX0 3 a.f_interrupt a.d_interrupt ["processor", "vector"] (sp_interrupt a) := by
  refine T.F_interrupt.ok sc_interrupt (fun vs H Q E h => ?_) (fun cdv A outer s H vs Q E hr h => ?_)
  · obtain ⟨p, r, m, s, v, rfl, _⟩ := h
    rfl
  · obtain ⟨p, r, m, s, v, rfl, hp, k⟩ := h
    obtain ⟨dx, e⟩ := hp.ins
    refine ⟨_, (pss_cons (ps_if (PW.pt (pw_or (pt_cmpR op_ne (pe_op op_mod (pv 1) pe_int) pe_int (nomark _)) (pw_or (pt_cmpR op_lt (pv 1) (pe_gint rfl T.c_FIRST_VECTOR) (nomark _)) (pw_or1 (pt_cmpR op_gt (pv 1) (pe_gint rfl T.c_LAST_VECTOR) (nomark _)))))) (pss_one (ps_ret (pe_gint rfl T.c_REFUSED))) pss_nil)
        (pss_cons (ps_if (pt_cmpR op_eq (pe_op op_and (pe_ix ix_list (pe_fld (pv 0) rfl) (pe_gint rfl T.c_SR) (fun _ _ => rfl)) (pe_gint rfl T.c_ALLOWED)) pe_int (nomark _)) (pss_one (ps_ret (pe_gint rfl T.c_NOT_ALLOWED))) pss_nil)
        (pss_cons (ps_expr (pe_meth (pv 0) T.cl_Processor T.m_Processor_push ((ok_Processor_push T).mono (by decide)) hr T.bd_Processor_push .nil pass0 (pa_cons (pe_ix ix_list (pe_fld (pv 0) rfl) (pe_gint rfl T.c_PC) (fun _ _ => rfl)) pa_nil)))
        (pss_cons (ps_expr (pe_meth (pv 0) T.cl_Processor T.m_Processor_push ((ok_Processor_push T).mono (by decide)) hr T.bd_Processor_push .nil pass0 (pa_cons (pe_ix ix_list (pe_fld (pv 0) rfl) (pe_gint rfl T.c_SR) (fun _ _ => rfl)) pa_nil)))
        (pss_cons (ps_expr (pe_meth (pv 0) T.cl_Processor T.m_Processor_keep ((ok_Processor_keep T).mono (by decide)) hr T.bd_Processor_keep .nil pass0 (pa_cons (pe_gint rfl T.c_SR) (pa_cons pe_int pa_nil))))
        (pss_cons (ps_expr (pe_meth (pv 0) T.cl_Processor T.m_Processor_keep ((ok_Processor_keep T).mono (by decide)) hr T.bd_Processor_keep .nil pass0 (pa_cons (pe_gint rfl T.c_PC) (pa_cons (pe_meth (pv 0) T.cl_Processor T.m_Processor_word_at ((ok_Processor_word_at T).mono (by decide)) hr T.bd_Processor_word_at .nil pass0 (pa_cons (pv 1) pa_nil)) pa_nil))))
        (pss_one (ps_ret (pe_gint rfl T.c_INTERRUPTED))))))))), ?_⟩
    try simp only [RXX, T.cl_Processor, T.n_Processor_registers, e]
    refine ite2 (fun h1 => ?_) (fun h1 => ite2 (fun h2 => ?_) (fun h2 => ite2 (fun h3 => ?_) (fun h3 => ?_)))
    · rw [if_neg (by omega)] at k
      exact k
    · rw [if_neg (by omega)] at k
      exact k
    · rw [if_neg (by omega)] at k
      exact k
    · rw [if_pos (by omega)] at k
      refine rd_ixL (SqL.of hp.rg) (hp.regAt (k := 2) rfl (by decide)) ?_
      try simp only [RXX, T.cl_Processor, T.n_Processor_registers, e, fl8]
      have hf : (((s.reg 2).testBit 3).toNat * 8 : Nat) = if s.flag 3 = true then 8 else 0 := by
        show (((s.reg 2).testBit 3).toNat * 8 : Nat) = if (s.reg 2).testBit 3 = true then 8 else 0
        cases (s.reg 2).testBit 3 <;> rfl
      rw [hf]
      refine ite2 (fun h4 => ?_) (fun h4 => ?_)
      · have h5 : ¬ s.flag 3 = true := fun z => by
          rw [if_pos z] at h4
          omega
        rw [if_neg h5] at k
        exact k
      · have h5 : s.flag 3 = true := by
          by_cases z : s.flag 3 = true
          · exact z
          · rw [if_neg z] at h4
            exact absurd rfl h4
        rw [if_pos h5] at k
        refine rd_ixL (SqL.of hp.rg) (hp.regAt (k := 0) rfl (by decide)) ?_
        refine ⟨p, r, m, s, _, rfl, hp, hp.good.rk 0, fun H1 a1 k1 => ?_⟩
        obtain ⟨dx1, e1⟩ := a1.ins
        try simp only [RXX, T.cl_Processor, T.n_Processor_registers, e1]
        refine rd_ixL (SqL.of a1.rg) (a1.regAt (k := 2) rfl (by decide)) ?_
        refine ⟨p, r, m, _, _, rfl, a1, a1.good.rk 2, fun H2 a2 k2 => ?_⟩
        obtain ⟨dx2, e2⟩ := a2.ins
        try simp only [RXX, T.cl_Processor, T.n_Processor_registers, e2]
        refine ⟨p, r, m, _, 2, 0, rfl, a2, by decide, fun H3 a3 k3 => ?_⟩
        have a3 : PAt a H3 p r m (((s.push (s.reg 0)).push ((s.push (s.reg 0)).reg 2)).setReg 2 0) := a3
        obtain ⟨dx3, e3⟩ := a3.ins
        try simp only [RXX, T.cl_Processor, T.n_Processor_registers, e3]
        refine ⟨p, r, m, _, v.toNat, by rw [show ((v.toNat : Nat) : Int) = v by omega], a3, ?_⟩
        try simp only [RXX, T.cl_Processor, T.n_Processor_registers, e3]
        refine ⟨p, r, m, _, 0, _, rfl, a3, by decide, fun H4 a4 k4 => ?_⟩
        rw [setReg_int rfl] at a4
        try simp only [RXX, T.cl_Processor, T.n_Processor_registers]
        refine k H4 ?_ (k1.trans (k2.trans (k3.trans k4)))
        have e9 : (s.push (s.reg 0)).reg 2 = s.reg 2 := by
          show (s.setReg 1 (Sz20.w16 (s.reg 1 + 65534))).reg 2 = s.reg 2
          rw [reg_setReg, if_neg (by omega)]
        rw [e9] at a4
        exact a4
/-! ### one call -/
def sp_answer_call (K : PySem.W.Frag) (a : Ad) : Sp := fun vs H Q _ => ∃ (p r m q dq c : Addr) (s : Sz20.St) (i : Nat) (l : List Int) (cl : List (List Int)) (t : List Int), vs = [.ref p, .ref q] ∧
  PAt a H p r m s ∧ H q = some (.ins a.C_CallReader dq (rdF c i)) ∧ SqL K H c (l.map V.int) ∧ One (l.drop i) cl t ∧ okW cl = true ∧
  ∀ (H' : Hp) (r' m' b : Addr) (i' : Nat), PAt a H' p r' m' (stepW s cl).1 → (r' = r ∨ H r' = none) → (m' = m ∨ H m' = none) → H' q = some (.ins a.C_CallReader dq (rdF c i')) → l.drop i' = t →
    H b = none → H' b = some (.lst ((stepW s cl).2.map V.int)) → (∀ d o, d ≠ p → d ≠ r → d ≠ m → d ≠ q → H d = some o → H' d = some o) → Q (.ref b) H'
theorem ok_answer_call (T : Txt K mg a) : FnOk P w K mg base CX0 10 a.f_answer_call a.d_answer_call ["processor", "reader"] (sp_answer_call K a) := by
  refine T.F_answer_call.ok sc_answer_call (fun vs H Q E h => ?_) (fun cdv A outer s H vs Q E hr h => ?_)
  · obtain ⟨p, r, m, q, dq, c, s, i, l, cl, t, rfl, _⟩ := h
    rfl
  · obtain ⟨p, r, m, q, dq, c, s, i, l, cl, t, rfl, hp, hq, hS, hO, hok, k⟩ := h
    refine ⟨_, (pss_cons (ps_set (i := 2) sc_answer_call.nd rfl (Or.inl rfl) (pe_meth0 (pv 1) T.cl_CallReader T.m_CallReader_take ((ok_CallReader_take T).mono (by decide)) hr T.bd_CallReader_take .nil pass0))
        (pss_cons (ps_if (pt_cmpR op_eq (pv 2) (pe_gint rfl T.c_CLEAR) (nomark _)) (pss_one (ps_ret (pe_lst (pa_cons (pe_meth0 (pv 0) T.cl_Processor T.m_Processor_wipe ((ok_Processor_wipe T).mono (by decide)) hr T.bd_Processor_wipe .nil pass0) pa_nil)))) pss_nil)
        (pss_cons (ps_if (pt_cmpR op_eq (pv 2) (pe_gint rfl T.c_LOAD) (nomark _)) (pss_cons (ps_set (i := 3) sc_answer_call.nd rfl (Or.inl rfl) (pe_meth0 (pv 1) T.cl_CallReader T.m_CallReader_take ((ok_CallReader_take T).mono (by decide)) hr T.bd_CallReader_take .nil pass0))
        (pss_one (ps_ret (pe_lst (pa_cons (pe_meth (pv 0) T.cl_Processor T.m_Processor_load ((ok_Processor_load T).mono (by decide)) hr T.bd_Processor_load .nil pass0 (pa_cons (pv 3) (pa_cons (pe_meth0 (pv 1) T.cl_CallReader T.m_CallReader_take_row ((ok_CallReader_take_row T).mono (by decide)) hr T.bd_CallReader_take_row .nil pass0) pa_nil))) pa_nil))))) pss_nil)
        (pss_cons (ps_if (pt_cmpR op_eq (pv 2) (pe_gint rfl T.c_LOOK) (nomark _)) (pss_cons (ps_set (i := 3) sc_answer_call.nd rfl (Or.inl rfl) (pe_meth0 (pv 1) T.cl_CallReader T.m_CallReader_take ((ok_CallReader_take T).mono (by decide)) hr T.bd_CallReader_take .nil pass0))
        (pss_one (ps_ret (pe_meth (pv 0) T.cl_Processor T.m_Processor_look ((ok_Processor_look T).mono (by decide)) hr T.bd_Processor_look .nil pass0 (pa_cons (pv 3) (pa_cons (pe_meth0 (pv 1) T.cl_CallReader T.m_CallReader_take ((ok_CallReader_take T).mono (by decide)) hr T.bd_CallReader_take .nil pass0) pa_nil)))))) pss_nil)
        (pss_cons (ps_if (pt_cmpR op_eq (pv 2) (pe_gint rfl T.c_SET) (nomark _)) (pss_cons (ps_set (i := 4) sc_answer_call.nd rfl (Or.inl rfl) (pe_meth0 (pv 1) T.cl_CallReader T.m_CallReader_take ((ok_CallReader_take T).mono (by decide)) hr T.bd_CallReader_take .nil pass0))
        (pss_one (ps_ret (pe_lst (pa_cons (pe_meth (pv 0) T.cl_Processor T.m_Processor_put ((ok_Processor_put T).mono (by decide)) hr T.bd_Processor_put .nil pass0 (pa_cons (pv 4) (pa_cons (pe_meth0 (pv 1) T.cl_CallReader T.m_CallReader_take ((ok_CallReader_take T).mono (by decide)) hr T.bd_CallReader_take .nil pass0) pa_nil))) pa_nil))))) pss_nil)
        (pss_cons (ps_if (pt_cmpR op_eq (pv 2) (pe_gint rfl T.c_GET) (nomark _)) (pss_one (ps_ret (pe_lst (pa_cons (pe_meth (pv 0) T.cl_Processor T.m_Processor_held ((ok_Processor_held T).mono (by decide)) hr T.bd_Processor_held .nil pass0 (pa_cons (pe_meth0 (pv 1) T.cl_CallReader T.m_CallReader_take ((ok_CallReader_take T).mono (by decide)) hr T.bd_CallReader_take .nil pass0) pa_nil)) pa_nil)))) pss_nil)
        (pss_cons (ps_if (pt_cmpR op_eq (pv 2) (pe_gint rfl T.c_RUN) (nomark _)) (pss_one (ps_ret (pe_lst (pa_cons (pe_call ((ok_run T).mono (by decide)) hr rfl T.g_run T.k_run T.bd_run .nil pass0 (pa_cons (pv 0) (pa_cons (pe_meth0 (pv 1) T.cl_CallReader T.m_CallReader_take ((ok_CallReader_take T).mono (by decide)) hr T.bd_CallReader_take .nil pass0) pa_nil))) pa_nil)))) pss_nil)
        (pss_cons (ps_if (pt_cmpR op_eq (pv 2) (pe_gint rfl T.c_INTERRUPT) (nomark _)) (pss_one (ps_ret (pe_lst (pa_cons (pe_call ((ok_interrupt T).mono (by decide)) hr rfl T.g_interrupt T.k_interrupt T.bd_interrupt .nil pass0 (pa_cons (pv 0) (pa_cons (pe_meth0 (pv 1) T.cl_CallReader T.m_CallReader_take ((ok_CallReader_take T).mono (by decide)) hr T.bd_CallReader_take .nil pass0) pa_nil))) pa_nil)))) pss_nil)
        (pss_one ps_never))))))))), ?_⟩
    try simp only [RDX, T.cl_CallReader, T.cl_Processor, rdF_calls, rdF_place, rdF_take, rdF_take_row, rdF_has_more, rdF_put, rdF_len, pF_reg, pF_mem, pF_wipe, pF_load, pF_look, pF_keep, pF_put, pF_len, pF_held, pF_word_at, pF_keep_word, pF_next_word, pF_push, pF_pull, hq]
    have hpq : q ≠ p ∧ q ≠ r ∧ q ≠ m := by
      obtain ⟨dx, e⟩ := hp.ins
      refine ⟨ne_of hq e ?_, ne_of hq hp.rg (by intro z; cases z), ne_of hq hp.me (by intro z; cases z)⟩
      intro z
      injection z with z1 z2 z3
      cases z3
    obtain ⟨dx, e⟩ := hp.ins
    have fin : ∀ (H1 : Hp) (r' m' : Addr) (i' : Nat) (z : Int), PAt a H1 p r' m' (stepW s cl).1 → (r' = r ∨ H r' = none) → (m' = m ∨ H m' = none) → H1 q = some (.ins a.C_CallReader dq (rdF c i')) → l.drop i' = t →
        (∀ d o, d ≠ p → d ≠ r → d ≠ m → d ≠ q → H d = some o → H1 d = some o) → (∀ d, H1 d = none → H d = none) → (stepW s cl).2 = [z] → 1 ≤ sizeLine ∧ ∀ b, H1 b = none → Q (.ref b) (upd H1 b (.lst [.int z])) := by
      intro H1 r' m' i' z h1 h2 h3 h4 h5 h6 h7 h8
      refine ⟨by decide, fun b hb => k _ r' m' b i' (h1.keep fun c o q => by rw [upd_ne (ne_of_none q hb)]; exact q) h2 h3 (by rw [upd_ne (ne_of_none h4 hb)]; exact h4) h5 (h7 b hb) (by rw [upd_same, h8]; rfl) fun d o a1 a2 a3 a4 q => ?_⟩
      have q := h6 d o a1 a2 a3 a4 q
      rw [upd_ne (ne_of_none q hb)]
      exact q
    have hpu : ∀ o, PAt a (upd H q o) p r m s := fun o => hp.other hpq.1.symm hpq.2.1.symm hpq.2.2.symm
    have hSu : ∀ o, SqL K (upd H q o) c (l.map V.int) := fun o => sqL_ins hS hq
    have hnu : ∀ o d, upd H q o d = none → H d = none := fun o d h => (upd_none.mp h).2
    generalize hd : l.drop i = d at hO
    cases hO with
    | clear t =>
      obtain ⟨x0, d0⟩ := drop_get hd
      refine ⟨q, dq, c, i, l, 1, rfl, hq, hS, x0, ?_⟩
      try simp only [RDX, T.cl_CallReader, T.cl_Processor, rdF_calls, rdF_place, rdF_take, rdF_take_row, rdF_has_more, rdF_put, rdF_len, pF_reg, pF_mem, pF_wipe, pF_load, pF_look, pF_keep, pF_put, pF_len, pF_held, pF_word_at, pF_keep_word, pF_next_word, pF_push, pF_pull, upd_ne hpq.1.symm, e]
      refine ⟨p, dx, _, rfl, by rw [upd_ne hpq.1.symm]; exact e, .inr ⟨r, m, rfl⟩, fun H1 r' m' f1 f2 h1 h2 => ?_⟩
      refine fin H1 r' m' (i + 1) 0 h1 (.inr (hnu _ _ f1)) (.inr (hnu _ _ f2)) (h2 _ _ hpq.1 upd_same) d0 (fun d o a1 a2 a3 a4 h => h2 _ _ a1 (by rw [upd_ne a4]; exact h)) (fun d h => ?_) rfl
      by_cases z : d = p
      · obtain ⟨dx', e'⟩ := h1.ins
        rw [z, e'] at h
        cases h
      · cases y : H d with
        | none => rfl
        | some o =>
          by_cases z2 : d = q
          · rw [z2, h2 _ _ hpq.1 upd_same] at h
            cases h
          · rw [h2 d o z (by rw [upd_ne z2]; exact y)] at h
            cases h
    | load x y t =>
      obtain ⟨x0, d0⟩ := drop_get hd
      obtain ⟨x1, d1⟩ := drop_get d0
      obtain ⟨x2, d2⟩ := drop_get d1
      have hle : i + 2 < l.length := (List.getElem?_eq_some_iff.mp x2).1
      refine ⟨q, dq, c, i, l, 2, rfl, hq, hS, x0, ?_⟩
      try simp only [RDX, T.cl_CallReader, T.cl_Processor, rdF_calls, rdF_place, rdF_take, rdF_take_row, rdF_has_more, rdF_put, rdF_len, pF_reg, pF_mem, pF_wipe, pF_load, pF_look, pF_keep, pF_put, pF_len, pF_held, pF_word_at, pF_keep_word, pF_next_word, pF_push, pF_pull, upd_ne hpq.1.symm, e]
      refine ⟨q, dq, c, i + 1, l, x, rfl, upd_same, hSu _, x1, ?_⟩
      try simp only [RDX, T.cl_CallReader, T.cl_Processor, rdF_calls, rdF_place, rdF_take, rdF_take_row, rdF_has_more, rdF_put, rdF_len, pF_reg, pF_mem, pF_wipe, pF_load, pF_look, pF_keep, pF_put, pF_len, pF_held, pF_word_at, pF_keep_word, pF_next_word, pF_push, pF_pull, upd_ne hpq.1.symm, e]
      refine ⟨q, dq, c, i + 2, y.length, l, rfl, upd_same, hSu _, x2, fun b hb => ?_⟩
      try simp only [RDX, T.cl_CallReader, T.cl_Processor, rdF_calls, rdF_place, rdF_take, rdF_take_row, rdF_has_more, rdF_put, rdF_len, pF_reg, pF_mem, pF_wipe, pF_load, pF_look, pF_keep, pF_put, pF_len, pF_held, pF_word_at, pF_keep_word, pF_next_word, pF_push, pF_pull]
      obtain ⟨nb, hb⟩ := upd_none.mp hb
      rw [show (l.drop (i + 2 + 1)).take y.length = y by rw [d2, List.take_left]]
      have hb0 : ∀ z ∈ y, 0 ≤ z ∧ z < 256 := by
        have h : (Sz20Neutral.whole32 x && (Sz20Neutral.whole32 (y.length : Int) && (y.all (fun (z : Int) => Sz20Neutral.natural z 8) && Sz20Neutral.long y (y.length : Int) 0 65536))) = true := hok
        rw [Bool.and_eq_true, Bool.and_eq_true, Bool.and_eq_true] at h
        intro z hz
        have h := List.all_eq_true.mp h.2.2.1 z hz
        unfold Sz20Neutral.natural at h
        rw [Bool.and_eq_true, decide_eq_true_eq, decide_eq_true_eq] at h
        exact h
      have hp1 := (hpu (.ins a.C_CallReader dq (rdF c (i + 2 + 1 + y.length : Nat)))).keep (H' := upd (upd H q (.ins a.C_CallReader dq (rdF c (i + 2 + 1 + y.length : Nat)))) b (.lst (y.map V.int))) fun d o h => by rw [upd_ne (by intro z; subst z; rw [upd_ne nb, hb] at h; cases h)]; exact h
      refine ⟨p, r, m, b, s, x, y, rfl, hp1, SqL.of upd_same, ne_of_none hp.me hb |>.symm, hb0, fun H1 h1 h2 => ?_⟩
      rw [step_load] at fin
      refine fin H1 r m (i + 2 + 1 + y.length) _ h1 (.inl rfl) (.inl rfl) (h2 _ _ hpq.2.2 (by rw [upd_ne nb.symm, upd_same])) ?_ (fun d o a1 a2 a3 a4 h => h2 _ _ a3 (by rw [upd_ne (ne_of_none h hb), upd_ne a4]; exact h)) (fun d h => ?_) rfl
      · rw [← List.drop_drop, d2, List.drop_left]
      · exact hnu _ d ((upd_none.mp (none_back h2 ⟨_, h1.me⟩ h)).2)
    | look x y t =>
      obtain ⟨x0, d0⟩ := drop_get hd
      obtain ⟨x1, d1⟩ := drop_get d0
      obtain ⟨x2, d2⟩ := drop_get d1
      refine ⟨q, dq, c, i, l, 3, rfl, hq, hS, x0, ?_⟩
      try simp only [RDX, T.cl_CallReader, T.cl_Processor, rdF_calls, rdF_place, rdF_take, rdF_take_row, rdF_has_more, rdF_put, rdF_len, pF_reg, pF_mem, pF_wipe, pF_load, pF_look, pF_keep, pF_put, pF_len, pF_held, pF_word_at, pF_keep_word, pF_next_word, pF_push, pF_pull, upd_ne hpq.1.symm, e]
      refine ⟨q, dq, c, i + 1, l, x, rfl, upd_same, hSu _, x1, ?_⟩
      try simp only [RDX, T.cl_CallReader, T.cl_Processor, rdF_calls, rdF_place, rdF_take, rdF_take_row, rdF_has_more, rdF_put, rdF_len, pF_reg, pF_mem, pF_wipe, pF_load, pF_look, pF_keep, pF_put, pF_len, pF_held, pF_word_at, pF_keep_word, pF_next_word, pF_push, pF_pull, upd_ne hpq.1.symm, e]
      refine ⟨q, dq, c, i + 2, l, y, rfl, upd_same, hSu _, x2, ?_⟩
      try simp only [RDX, T.cl_CallReader, T.cl_Processor, rdF_calls, rdF_place, rdF_take, rdF_take_row, rdF_has_more, rdF_put, rdF_len, pF_reg, pF_mem, pF_wipe, pF_load, pF_look, pF_keep, pF_put, pF_len, pF_held, pF_word_at, pF_keep_word, pF_next_word, pF_push, pF_pull]
      refine ⟨p, r, m, s, x, y, rfl, hpu _, fun H1 b hb h1 h2 => ?_⟩
      rw [step_look s hp.good] at k
      exact k H1 r m b (i + 2 + 1) ((hpu _).keep h1) (.inl rfl) (.inl rfl) (h1 _ _ upd_same) d2 (hnu _ _ hb) h2 fun d o a1 a2 a3 a4 h => h1 _ _ (by rw [upd_ne a4]; exact h)
    | set x y t =>
      obtain ⟨x0, d0⟩ := drop_get hd
      obtain ⟨x1, d1⟩ := drop_get d0
      obtain ⟨x2, d2⟩ := drop_get d1
      refine ⟨q, dq, c, i, l, 4, rfl, hq, hS, x0, ?_⟩
      try simp only [RDX, T.cl_CallReader, T.cl_Processor, rdF_calls, rdF_place, rdF_take, rdF_take_row, rdF_has_more, rdF_put, rdF_len, pF_reg, pF_mem, pF_wipe, pF_load, pF_look, pF_keep, pF_put, pF_len, pF_held, pF_word_at, pF_keep_word, pF_next_word, pF_push, pF_pull, upd_ne hpq.1.symm, e]
      refine ⟨q, dq, c, i + 1, l, x, rfl, upd_same, hSu _, x1, ?_⟩
      try simp only [RDX, T.cl_CallReader, T.cl_Processor, rdF_calls, rdF_place, rdF_take, rdF_take_row, rdF_has_more, rdF_put, rdF_len, pF_reg, pF_mem, pF_wipe, pF_load, pF_look, pF_keep, pF_put, pF_len, pF_held, pF_word_at, pF_keep_word, pF_next_word, pF_push, pF_pull, upd_ne hpq.1.symm, e]
      refine ⟨q, dq, c, i + 2, l, y, rfl, upd_same, hSu _, x2, ?_⟩
      try simp only [RDX, T.cl_CallReader, T.cl_Processor, rdF_calls, rdF_place, rdF_take, rdF_take_row, rdF_has_more, rdF_put, rdF_len, pF_reg, pF_mem, pF_wipe, pF_load, pF_look, pF_keep, pF_put, pF_len, pF_held, pF_word_at, pF_keep_word, pF_next_word, pF_push, pF_pull]
      rw [step_set] at fin
      refine ⟨p, r, m, s, x, y, rfl, hpu _, ite2 (fun hc => ?_) fun hc => ?_⟩
      · rw [if_pos hc] at fin
        exact fun H1 h1 k1 => fin H1 r m (i + 2 + 1) 0 h1 (.inl rfl) (.inl rfl) (k1 q _ hpq.2.1 hpq.2.2 upd_same) d2 (fun d o a1 a2 a3 a4 h => k1 d o a2 a3 (by rw [upd_ne a4]; exact h)) (fun d h => hnu _ d (k1.back h1 h)) rfl
      · rw [if_neg hc] at fin
        refine fin _ r m (i + 2 + 1) (-1) (hpu _) (.inl rfl) (.inl rfl) upd_same d2 (fun d o a1 a2 a3 a4 h => by rw [upd_ne a4]; exact h) (fun d h => hnu _ d h) rfl
    | get x t =>
      obtain ⟨x0, d0⟩ := drop_get hd
      obtain ⟨x1, d1⟩ := drop_get d0
      refine ⟨q, dq, c, i, l, 5, rfl, hq, hS, x0, ?_⟩
      try simp only [RDX, T.cl_CallReader, T.cl_Processor, rdF_calls, rdF_place, rdF_take, rdF_take_row, rdF_has_more, rdF_put, rdF_len, pF_reg, pF_mem, pF_wipe, pF_load, pF_look, pF_keep, pF_put, pF_len, pF_held, pF_word_at, pF_keep_word, pF_next_word, pF_push, pF_pull, upd_ne hpq.1.symm, e]
      refine ⟨q, dq, c, i + 1, l, x, rfl, upd_same, hSu _, x1, ?_⟩
      try simp only [RDX, T.cl_CallReader, T.cl_Processor, rdF_calls, rdF_place, rdF_take, rdF_take_row, rdF_has_more, rdF_put, rdF_len, pF_reg, pF_mem, pF_wipe, pF_load, pF_look, pF_keep, pF_put, pF_len, pF_held, pF_word_at, pF_keep_word, pF_next_word, pF_push, pF_pull, upd_ne hpq.1.symm, e]
      rw [step_get] at fin
      refine ⟨p, r, m, s, x, rfl, hpu _, ?_⟩
      refine fin _ r m (i + 1 + 1) _ (hpu _) (.inl rfl) (.inl rfl) upd_same d1 (fun d o a1 a2 a3 a4 h => by rw [upd_ne a4]; exact h) (fun d h => hnu _ d h) ?_
      by_cases hc : 0 ≤ x ∧ x < 16 ∧ x ≠ 3
      · rw [if_pos hc, if_pos hc]
      · rw [if_neg hc, if_neg hc]
    | run x t =>
      obtain ⟨x0, d0⟩ := drop_get hd
      obtain ⟨x1, d1⟩ := drop_get d0
      refine ⟨q, dq, c, i, l, 6, rfl, hq, hS, x0, ?_⟩
      try simp only [RDX, T.cl_CallReader, T.cl_Processor, rdF_calls, rdF_place, rdF_take, rdF_take_row, rdF_has_more, rdF_put, rdF_len, pF_reg, pF_mem, pF_wipe, pF_load, pF_look, pF_keep, pF_put, pF_len, pF_held, pF_word_at, pF_keep_word, pF_next_word, pF_push, pF_pull, upd_ne hpq.1.symm, e]
      refine ⟨q, dq, c, i + 1, l, x, rfl, upd_same, hSu _, x1, ?_⟩
      try simp only [RDX, T.cl_CallReader, T.cl_Processor, rdF_calls, rdF_place, rdF_take, rdF_take_row, rdF_has_more, rdF_put, rdF_len, pF_reg, pF_mem, pF_wipe, pF_load, pF_look, pF_keep, pF_put, pF_len, pF_held, pF_word_at, pF_keep_word, pF_next_word, pF_push, pF_pull, upd_ne hpq.1.symm, e]
      rw [step_run] at fin
      refine ⟨p, r, m, s, x, rfl, hpu _, ite2 (fun hc => ?_) fun hc => ?_⟩
      · rw [if_pos hc] at fin
        exact fun H1 h1 k1 => fin H1 r m (i + 1 + 1) _ h1 (.inl rfl) (.inl rfl) (k1 q _ hpq.2.1 hpq.2.2 upd_same) d1 (fun d o a1 a2 a3 a4 h => k1 d o a2 a3 (by rw [upd_ne a4]; exact h)) (fun d h => hnu _ d (k1.back h1 h)) rfl
      · rw [if_neg hc] at fin
        refine fin _ r m (i + 1 + 1) (-1) (hpu _) (.inl rfl) (.inl rfl) upd_same d1 (fun d o a1 a2 a3 a4 h => by rw [upd_ne a4]; exact h) (fun d h => hnu _ d h) rfl
    | interrupt x t =>
      obtain ⟨x0, d0⟩ := drop_get hd
      obtain ⟨x1, d1⟩ := drop_get d0
      refine ⟨q, dq, c, i, l, 7, rfl, hq, hS, x0, ?_⟩
      try simp only [RDX, T.cl_CallReader, T.cl_Processor, rdF_calls, rdF_place, rdF_take, rdF_take_row, rdF_has_more, rdF_put, rdF_len, pF_reg, pF_mem, pF_wipe, pF_load, pF_look, pF_keep, pF_put, pF_len, pF_held, pF_word_at, pF_keep_word, pF_next_word, pF_push, pF_pull, upd_ne hpq.1.symm, e]
      refine ⟨q, dq, c, i + 1, l, x, rfl, upd_same, hSu _, x1, ?_⟩
      try simp only [RDX, T.cl_CallReader, T.cl_Processor, rdF_calls, rdF_place, rdF_take, rdF_take_row, rdF_has_more, rdF_put, rdF_len, pF_reg, pF_mem, pF_wipe, pF_load, pF_look, pF_keep, pF_put, pF_len, pF_held, pF_word_at, pF_keep_word, pF_next_word, pF_push, pF_pull, upd_ne hpq.1.symm, e]
      rw [step_interrupt] at fin
      refine ⟨p, r, m, s, x, rfl, hpu _, ite2 (fun hc => ite2 (fun hf => ?_) fun hf => ?_) fun hc => ?_⟩
      · rw [if_pos hc, if_pos hf] at fin
        exact fun H1 h1 k1 => fin H1 r m (i + 1 + 1) _ h1 (.inl rfl) (.inl rfl) (k1 q _ hpq.2.1 hpq.2.2 upd_same) d1 (fun d o a1 a2 a3 a4 h => k1 d o a2 a3 (by rw [upd_ne a4]; exact h)) (fun d h => hnu _ d (k1.back h1 h)) rfl
      · rw [if_pos hc, if_neg hf] at fin
        refine fin _ r m (i + 1 + 1) 0 (hpu _) (.inl rfl) (.inl rfl) upd_same d1 (fun d o a1 a2 a3 a4 h => by rw [upd_ne a4]; exact h) (fun d h => hnu _ d h) rfl
      · rw [if_neg hc] at fin
        refine fin _ r m (i + 1 + 1) (-1) (hpu _) (.inl rfl) (.inl rfl) upd_same d1 (fun d o a1 a2 a3 a4 h => by rw [upd_ne a4]; exact h) (fun d h => hnu _ d h) rfl
/-! ### all calls -/
def sp_answers (K : PySem.W.Frag) : Sp := fun vs H Q _ => ∃ (c : Addr) (l : List Int), vs = [.ref c] ∧ SqL K H c (l.map V.int) ∧ PySz20.answers_asked l = true ∧ ∀ (H' : Hp) (g : Addr), H' g = some (.lst ((PySz20.answers l).map V.int)) → Q (.ref g) H'
theorem ok_answers (T : Txt K mg a) : FnOk P w K mg base CX0 11 a.f_answers a.d_answers ["calls"] (sp_answers K) := by
  refine T.F_answers.ok sc_answers (fun vs H Q E h => ?_) (fun cdv A outer s H vs Q E hr h => ?_)
  · obtain ⟨c, l, rfl, _⟩ := h
    rfl
  · obtain ⟨c, l, rfl, hS, hask, k⟩ := h
    obtain ⟨cs0, hR0, hlen, hok0, hans, _⟩ := asked_of hask
    refine ⟨_, (pss_cons (ps_set (i := 1) sc_answers.nd rfl (Or.inl rfl) (pe_make0 T.mk_Processor ((ok_Processor_init T).mono (by decide)) hr rfl T.g_Processor T.bd_Processor_init .nil pass0))
        (pss_cons (ps_set (i := 2) sc_answers.nd rfl (Or.inl rfl) (pe_make T.mk_CallReader ((ok_CallReader_init T).mono (by decide)) hr rfl T.g_CallReader T.bd_CallReader_init .nil pass0 (pa_cons (pv 0) pa_nil)))
        (pss_cons (ps_set (i := 3) sc_answers.nd rfl (Or.inl rfl) (pe_lst pa_nil))
        (pss_cons (ps_while PassesOwn.never (pt_truth (pe_meth0 (pv 2) T.cl_CallReader T.m_CallReader_has_more ((ok_CallReader_has_more T).mono (by decide)) hr T.bd_CallReader_has_more .nil pass0) (fun _ => rfl)) (pss_cons (ps_set (i := 4) sc_answers.nd rfl (Or.inl rfl) (pe_call ((ok_answer_call T).mono (by decide)) hr rfl T.g_answer_call T.k_answer_call T.bd_answer_call .nil pass0 (pa_cons (pv 1) (pa_cons (pv 2) pa_nil))))
        (pss_cons (ps_expr (pe_bm PySem.F.plainAttrs_list PySem.F.slot_list_append PySem.F.type_list_append mt_append (pv 3) (pa_cons (pe_callB call_len_seq (by rfl) T.b_len PySem.boot_len (pa_cons (pv 4) pa_nil)) pa_nil)))
        (pss_one (ps_expr (pe_bm PySem.F.plainAttrs_list PySem.F.slot_list_extend PySem.F.type_list_extend mt_extend (pv 3) (pa_cons (pv 4) pa_nil)))))))
        (pss_one (ps_ret (pv 3))))))), ?_⟩
    try simp only [RDX, T.cl_CallReader, rdF_calls, rdF_place, rdF_take, rdF_take_row, rdF_has_more, rdF_put, rdF_len, pF_reg, pF_mem, pF_wipe, pF_load, pF_look, pF_keep, pF_put, pF_len, pF_held, pF_word_at, pF_keep_word, pF_next_word, pF_push, pF_pull]
    intro p dp p0 dp0 np
    refine ⟨p, dp, rfl, upd_same, fun H1 r m f1 f2 h1 h2 => ⟨rfl, ?_⟩⟩
    intro q dq q0 dq0 nq
    refine ⟨q, dq, c, rfl, upd_same, fun H2 h3 h4 => ⟨rfl, by decide, fun g hg => ?_⟩⟩
    obtain ⟨nrp, f1⟩ := upd_none.mp f1
    obtain ⟨nrd, f1⟩ := upd_none.mp f1
    obtain ⟨nmp, f2⟩ := upd_none.mp f2
    obtain ⟨nmd, f2⟩ := upd_none.mp f2
    -- H to H1, H1 to H2: all is kept
    have s1 : ∀ d o, H d = some o → H1 d = some o := fun d o e => h2 d o (ne_of_none e p0) (by rw [upd_ne (ne_of_none e p0), upd_ne (ne_of_none e dp0)]; exact e)
    have s2 : ∀ d o, H1 d = some o → H2 d = some o := fun d o e => by
      rw [h4 d (ne_of_none e q0), upd_ne (ne_of_none e q0), upd_ne (ne_of_none e dq0)]
      exact e
    have s3 : ∀ d o, H2 d = some o → upd H2 g (.lst []) d = some o := fun d o e => by
      rw [upd_ne (ne_of_none e hg)]
      exact e
    have hg0 : H g = none := by
      cases z : H g with
      | none => rfl
      | some o =>
        rw [s2 _ _ (s1 _ _ z)] at hg
        cases hg
    have P2 : PAt a H2 p r m Sz20.blank := h1.keep s2
    refine ⟨fun n σ H' => ∃ (v : Option V) (r m : Addr) (i : Nat) (s : Sz20.St) (cs : List (List (List Int))) (out : List Int), n = cs.length ∧ σ = [some (.ref c), some (.ref p), some (.ref q), some (.ref g), v] ∧ PAt a H' p r m s ∧
        H' q = some (.ins a.C_CallReader dq (rdF c i)) ∧ Far K H' c (l.map V.int) r m g ∧ Rest (l.drop i) cs ∧ (∀ c ∈ cs, okW c = true) ∧ H' g = some (.lst (out.map V.int)) ∧ g ≠ r ∧ g ≠ m ∧ out ++ due s cs = due Sz20.blank cs0 ∧ out.length + 2002 * cs.length ≤ 2002 * 400,
      ⟨cs0.length, none, r, m, 0, Sz20.blank, cs0, [], rfl, rfl, P2.keep s3, s3 _ _ h3, (Far.of hS f1 f2 hg0).same fun d o e => s3 _ _ (s2 _ _ (s1 _ _ e)), hR0, hok0, upd_same, (ne_of_none P2.rg hg).symm, (ne_of_none P2.me hg).symm, rfl, ?_⟩, ?_⟩
    · show 0 + 2002 * cs0.length ≤ 2002 * 400
      omega
    · rintro n σ H' ⟨v, r, m, i, s, cs, out, rfl, rfl, hp, hq, hF, hR, hok, hg', ngr, ngm, hdue, hsz⟩
      obtain ⟨dx, e⟩ := hp.ins
      refine ⟨_, rfl, q, rfl, dq, _, hq, rdF_has_more _ _, ?_⟩
      refine ⟨q, dq, c, i, l, rfl, hq, hF.sq, _, rfl, ?_⟩
      refine ite2 (fun hi => ?_) (fun hi => ?_)
      · have hi : i < l.length := of_decide_eq_true hi
        obtain ⟨x, t0, hd⟩ : ∃ x t0, l.drop i = x :: t0 := ⟨_, _, List.drop_eq_getElem_cons hi⟩
        rw [hd] at hR
        obtain ⟨cl, t, cs', hc, rfl, hR'⟩ := hR.cons
        have hO := one_of hc
        rw [← hd] at hO
        refine ⟨_, fun σ' H'' h => ⟨cs'.length, Nat.lt_succ_self _, h⟩, ?_⟩
        try simp only [RDX, T.cl_CallReader, rdF_calls, rdF_place, rdF_take, rdF_take_row, rdF_has_more, rdF_put, rdF_len, pF_reg, pF_mem, pF_wipe, pF_load, pF_look, pF_keep, pF_put, pF_len, pF_held, pF_word_at, pF_keep_word, pF_next_word, pF_push, pF_pull]
        refine ⟨p, r, m, q, dq, c, s, i, l, cl, t, rfl, hp, hq, hF.sq, hO, hok _ (List.Mem.head _), fun H3 r' m' b i' g1 g2 g3 g4 g5 g6 g7 g8 => ?_⟩
        try simp only [RDX, T.cl_CallReader, rdF_calls, rdF_place, rdF_take, rdF_take_row, rdF_has_more, rdF_put, rdF_len, pF_reg, pF_mem, pF_wipe, pF_load, pF_look, pF_keep, pF_put, pF_len, pF_held, pF_word_at, pF_keep_word, pF_next_word, pF_push, pF_pull]
        have hg3 : H3 g = some (.lst (out.map V.int)) := g8 _ _ (ne_of hg' e (by intro z; cases z)) ngr ngm (ne_of hg' hq (by intro z; cases z)) hg'
        have hbg : b ≠ g := (ne_of_none hg' g6).symm
        have hsh := short_stepW (m := s) (hok _ (List.Mem.head _))
        have e24 : sizeLine = 16777216 := rfl
        rw [List.length_cons] at hsz
        refine ⟨.inl ⟨rfl, _, SqL.of hg3⟩, _, .inl (SqL.of g7), _, hg3, by rw [List.length_map, e24]; omega, .inl ⟨rfl, _, SqL.of upd_same⟩, _, by rw [upd_ne hbg]; exact g7, ?_, ?_⟩
        · rw [List.length_append, List.length_map, List.length_map, e24]
          show out.length + 1 + _ ≤ _
          omega
        · have ngr' : g ≠ r' := by
            rcases g2 with z | z
            · rw [z]; exact ngr
            · exact ne_of_none hg' z
          have ngm' : g ≠ m' := by
            rcases g3 with z | z
            · rw [z]; exact ngm
            · exact ne_of_none hg' z
          obtain ⟨dx3, e3⟩ := g1.ins
          refine ⟨_, r', m', i', (stepW s cl).1, cs', rfl, rfl, g1.other (ne_of e3 hg3 (by intro z; cases z)) ngr'.symm ngm'.symm, by rw [upd_ne (ne_of g4 hg3 (by intro z; cases z))]; exact g4, (hF.step e hq g2 g3 g8).write, by rw [g5]; exact hR', fun c hc => hok c (List.Mem.tail _ hc),
            out ++ [((stepW s cl).2.length : Int)] ++ (stepW s cl).2, ?_, ngr', ngm', ?_, ?_⟩
          · rw [List.map_append, List.map_append, List.length_map]
            rfl
          · rw [← hdue, due_cons, List.append_assoc, List.append_assoc]
            rfl
          · rw [List.length_append, List.length_append]
            show out.length + 1 + _ + _ ≤ _
            omega
      · have hi : ¬ i < l.length := fun z => hi (decide_eq_true z)
        rw [List.drop_eq_nil_of_le (by omega)] at hR
        rw [hR.nil, due_nil, List.append_nil] at hdue
        refine ⟨_, rfl, k H' g ?_⟩
        rw [hans, ← hdue]
        exact hg'
end
theorem all_mk {P : Program} {w : World} {K : PySem.W.Frag} {h : Heap} {mg : Str → Option Value} {fa C_Processor C_CallReader f_in_memory f_can_be_asked f_Processor_init f_Processor_wipe f_Processor_load f_Processor_look f_Processor_keep f_Processor_put f_Processor_held f_Processor_word_at f_Processor_keep_word f_Processor_next_word f_Processor_push f_Processor_pull f_CallReader_init f_CallReader_has_more f_CallReader_take f_CallReader_take_row f_has_sign f_with_flags f_differ f_is_taken f_words_on f_do_jump f_numbers_below f_free_number f_beyond_register f_step_of f_first_operand f_second_operand f_value_of f_keep_result f_kind_of f_has_one_operand f_moved_right f_widened f_outcome_of_one f_push_byte f_do_return f_do_one f_added f_sum_of f_added_decimal f_common_bits f_exclusive_or f_outcome_of_two f_do_two f_is_instruction f_do_instruction f_goes_on f_run f_interrupt f_answer_call f_answers a_KEPT_BITS : Addr} (X : K.In h) (G : h.Ns mainGlobals mg) (hfa : mg "answers" = some (.ref fa))
    {od_in_memory an_in_memory : Option Addr} {sl_in_memory : Array (Option Value)} {oc_in_memory kV_in_memory dc_in_memory pm_in_memory cd_in_memory ct_in_memory : Value} {od_can_be_asked an_can_be_asked : Option Addr} {sl_can_be_asked : Array (Option Value)} {oc_can_be_asked kV_can_be_asked dc_can_be_asked pm_can_be_asked cd_can_be_asked ct_can_be_asked : Value} {od_Processor_init an_Processor_init : Option Addr} {sl_Processor_init : Array (Option Value)} {oc_Processor_init kV_Processor_init dc_Processor_init pm_Processor_init cd_Processor_init ct_Processor_init : Value} {od_Processor_wipe an_Processor_wipe : Option Addr} {sl_Processor_wipe : Array (Option Value)} {oc_Processor_wipe kV_Processor_wipe dc_Processor_wipe pm_Processor_wipe cd_Processor_wipe ct_Processor_wipe : Value} {od_Processor_load an_Processor_load : Option Addr} {sl_Processor_load : Array (Option Value)} {oc_Processor_load kV_Processor_load dc_Processor_load pm_Processor_load cd_Processor_load ct_Processor_load : Value} {od_Processor_look an_Processor_look : Option Addr} {sl_Processor_look : Array (Option Value)} {oc_Processor_look kV_Processor_look dc_Processor_look pm_Processor_look cd_Processor_look ct_Processor_look : Value} {od_Processor_keep an_Processor_keep : Option Addr} {sl_Processor_keep : Array (Option Value)} {oc_Processor_keep kV_Processor_keep dc_Processor_keep pm_Processor_keep cd_Processor_keep ct_Processor_keep : Value} {od_Processor_put an_Processor_put : Option Addr} {sl_Processor_put : Array (Option Value)} {oc_Processor_put kV_Processor_put dc_Processor_put pm_Processor_put cd_Processor_put ct_Processor_put : Value} {od_Processor_held an_Processor_held : Option Addr} {sl_Processor_held : Array (Option Value)} {oc_Processor_held kV_Processor_held dc_Processor_held pm_Processor_held cd_Processor_held ct_Processor_held : Value} {od_Processor_word_at an_Processor_word_at : Option Addr} {sl_Processor_word_at : Array (Option Value)} {oc_Processor_word_at kV_Processor_word_at dc_Processor_word_at pm_Processor_word_at cd_Processor_word_at ct_Processor_word_at : Value} {od_Processor_keep_word an_Processor_keep_word : Option Addr} {sl_Processor_keep_word : Array (Option Value)} {oc_Processor_keep_word kV_Processor_keep_word dc_Processor_keep_word pm_Processor_keep_word cd_Processor_keep_word ct_Processor_keep_word : Value} {od_Processor_next_word an_Processor_next_word : Option Addr} {sl_Processor_next_word : Array (Option Value)} {oc_Processor_next_word kV_Processor_next_word dc_Processor_next_word pm_Processor_next_word cd_Processor_next_word ct_Processor_next_word : Value} {od_Processor_push an_Processor_push : Option Addr} {sl_Processor_push : Array (Option Value)} {oc_Processor_push kV_Processor_push dc_Processor_push pm_Processor_push cd_Processor_push ct_Processor_push : Value} {od_Processor_pull an_Processor_pull : Option Addr} {sl_Processor_pull : Array (Option Value)} {oc_Processor_pull kV_Processor_pull dc_Processor_pull pm_Processor_pull cd_Processor_pull ct_Processor_pull : Value} {od_CallReader_init an_CallReader_init : Option Addr} {sl_CallReader_init : Array (Option Value)} {oc_CallReader_init kV_CallReader_init dc_CallReader_init pm_CallReader_init cd_CallReader_init ct_CallReader_init : Value} {od_CallReader_has_more an_CallReader_has_more : Option Addr} {sl_CallReader_has_more : Array (Option Value)} {oc_CallReader_has_more kV_CallReader_has_more dc_CallReader_has_more pm_CallReader_has_more cd_CallReader_has_more ct_CallReader_has_more : Value} {od_CallReader_take an_CallReader_take : Option Addr} {sl_CallReader_take : Array (Option Value)} {oc_CallReader_take kV_CallReader_take dc_CallReader_take pm_CallReader_take cd_CallReader_take ct_CallReader_take : Value} {od_CallReader_take_row an_CallReader_take_row : Option Addr} {sl_CallReader_take_row : Array (Option Value)} {oc_CallReader_take_row kV_CallReader_take_row dc_CallReader_take_row pm_CallReader_take_row cd_CallReader_take_row ct_CallReader_take_row : Value} {od_has_sign an_has_sign : Option Addr} {sl_has_sign : Array (Option Value)} {oc_has_sign kV_has_sign dc_has_sign pm_has_sign cd_has_sign ct_has_sign : Value} {od_with_flags an_with_flags : Option Addr} {sl_with_flags : Array (Option Value)} {oc_with_flags kV_with_flags dc_with_flags pm_with_flags cd_with_flags ct_with_flags : Value} {od_differ an_differ : Option Addr} {sl_differ : Array (Option Value)} {oc_differ kV_differ dc_differ pm_differ cd_differ ct_differ : Value} {od_is_taken an_is_taken : Option Addr} {sl_is_taken : Array (Option Value)} {oc_is_taken kV_is_taken dc_is_taken pm_is_taken cd_is_taken ct_is_taken : Value} {od_words_on an_words_on : Option Addr} {sl_words_on : Array (Option Value)} {oc_words_on kV_words_on dc_words_on pm_words_on cd_words_on ct_words_on : Value} {od_do_jump an_do_jump : Option Addr} {sl_do_jump : Array (Option Value)} {oc_do_jump kV_do_jump dc_do_jump pm_do_jump cd_do_jump ct_do_jump : Value} {od_numbers_below an_numbers_below : Option Addr} {sl_numbers_below : Array (Option Value)} {oc_numbers_below kV_numbers_below dc_numbers_below pm_numbers_below cd_numbers_below ct_numbers_below : Value} {od_free_number an_free_number : Option Addr} {sl_free_number : Array (Option Value)} {oc_free_number kV_free_number dc_free_number pm_free_number cd_free_number ct_free_number : Value} {od_beyond_register an_beyond_register : Option Addr} {sl_beyond_register : Array (Option Value)} {oc_beyond_register kV_beyond_register dc_beyond_register pm_beyond_register cd_beyond_register ct_beyond_register : Value} {od_step_of an_step_of : Option Addr} {sl_step_of : Array (Option Value)} {oc_step_of kV_step_of dc_step_of pm_step_of cd_step_of ct_step_of : Value} {od_first_operand an_first_operand : Option Addr} {sl_first_operand : Array (Option Value)} {oc_first_operand kV_first_operand dc_first_operand pm_first_operand cd_first_operand ct_first_operand : Value} {od_second_operand an_second_operand : Option Addr} {sl_second_operand : Array (Option Value)} {oc_second_operand kV_second_operand dc_second_operand pm_second_operand cd_second_operand ct_second_operand : Value} {od_value_of an_value_of : Option Addr} {sl_value_of : Array (Option Value)} {oc_value_of kV_value_of dc_value_of pm_value_of cd_value_of ct_value_of : Value} {od_keep_result an_keep_result : Option Addr} {sl_keep_result : Array (Option Value)} {oc_keep_result kV_keep_result dc_keep_result pm_keep_result cd_keep_result ct_keep_result : Value} {od_kind_of an_kind_of : Option Addr} {sl_kind_of : Array (Option Value)} {oc_kind_of kV_kind_of dc_kind_of pm_kind_of cd_kind_of ct_kind_of : Value} {od_has_one_operand an_has_one_operand : Option Addr} {sl_has_one_operand : Array (Option Value)} {oc_has_one_operand kV_has_one_operand dc_has_one_operand pm_has_one_operand cd_has_one_operand ct_has_one_operand : Value} {od_moved_right an_moved_right : Option Addr} {sl_moved_right : Array (Option Value)} {oc_moved_right kV_moved_right dc_moved_right pm_moved_right cd_moved_right ct_moved_right : Value} {od_widened an_widened : Option Addr} {sl_widened : Array (Option Value)} {oc_widened kV_widened dc_widened pm_widened cd_widened ct_widened : Value} {od_outcome_of_one an_outcome_of_one : Option Addr} {sl_outcome_of_one : Array (Option Value)} {oc_outcome_of_one kV_outcome_of_one dc_outcome_of_one pm_outcome_of_one cd_outcome_of_one ct_outcome_of_one : Value} {od_push_byte an_push_byte : Option Addr} {sl_push_byte : Array (Option Value)} {oc_push_byte kV_push_byte dc_push_byte pm_push_byte cd_push_byte ct_push_byte : Value} {od_do_return an_do_return : Option Addr} {sl_do_return : Array (Option Value)} {oc_do_return kV_do_return dc_do_return pm_do_return cd_do_return ct_do_return : Value} {od_do_one an_do_one : Option Addr} {sl_do_one : Array (Option Value)} {oc_do_one kV_do_one dc_do_one pm_do_one cd_do_one ct_do_one : Value} {od_added an_added : Option Addr} {sl_added : Array (Option Value)} {oc_added kV_added dc_added pm_added cd_added ct_added : Value} {od_sum_of an_sum_of : Option Addr} {sl_sum_of : Array (Option Value)} {oc_sum_of kV_sum_of dc_sum_of pm_sum_of cd_sum_of ct_sum_of : Value} {od_added_decimal an_added_decimal : Option Addr} {sl_added_decimal : Array (Option Value)} {oc_added_decimal kV_added_decimal dc_added_decimal pm_added_decimal cd_added_decimal ct_added_decimal : Value} {od_common_bits an_common_bits : Option Addr} {sl_common_bits : Array (Option Value)} {oc_common_bits kV_common_bits dc_common_bits pm_common_bits cd_common_bits ct_common_bits : Value} {od_exclusive_or an_exclusive_or : Option Addr} {sl_exclusive_or : Array (Option Value)} {oc_exclusive_or kV_exclusive_or dc_exclusive_or pm_exclusive_or cd_exclusive_or ct_exclusive_or : Value} {od_outcome_of_two an_outcome_of_two : Option Addr} {sl_outcome_of_two : Array (Option Value)} {oc_outcome_of_two kV_outcome_of_two dc_outcome_of_two pm_outcome_of_two cd_outcome_of_two ct_outcome_of_two : Value} {od_do_two an_do_two : Option Addr} {sl_do_two : Array (Option Value)} {oc_do_two kV_do_two dc_do_two pm_do_two cd_do_two ct_do_two : Value} {od_is_instruction an_is_instruction : Option Addr} {sl_is_instruction : Array (Option Value)} {oc_is_instruction kV_is_instruction dc_is_instruction pm_is_instruction cd_is_instruction ct_is_instruction : Value} {od_do_instruction an_do_instruction : Option Addr} {sl_do_instruction : Array (Option Value)} {oc_do_instruction kV_do_instruction dc_do_instruction pm_do_instruction cd_do_instruction ct_do_instruction : Value} {od_goes_on an_goes_on : Option Addr} {sl_goes_on : Array (Option Value)} {oc_goes_on kV_goes_on dc_goes_on pm_goes_on cd_goes_on ct_goes_on : Value} {od_run an_run : Option Addr} {sl_run : Array (Option Value)} {oc_run kV_run dc_run pm_run cd_run ct_run : Value} {od_interrupt an_interrupt : Option Addr} {sl_interrupt : Array (Option Value)} {oc_interrupt kV_interrupt dc_interrupt pm_interrupt cd_interrupt ct_interrupt : Value} {od_answer_call an_answer_call : Option Addr} {sl_answer_call : Array (Option Value)} {oc_answer_call kV_answer_call dc_answer_call pm_answer_call cd_answer_call ct_answer_call : Value} {od_answers an_answers : Option Addr} {sl_answers : Array (Option Value)} {oc_answers kV_answers dc_answers pm_answers cd_answers ct_answers : Value} {t_ADD : Tok} {t_ADD_DECIMAL : Tok} {t_ADD_WITH_CARRY : Tok} {t_ALLOWED : Tok} {t_BEHIND_ONE_OPERAND : Tok} {t_BITS_TOGETHER : Tok} {t_BYTES : Tok} {t_CALL : Tok} {t_CARRY : Tok} {t_CLEAR : Tok} {t_COMMON_BITS_TEST : Tok} {t_COMPARE : Tok} {t_DONE : Tok} {t_EXCLUSIVE_OR : Tok} {t_FIRST_VECTOR : Tok} {t_GET : Tok} {t_HALVE : Tok} {t_INTERRUPT : Tok} {t_INTERRUPTED : Tok} {t_IN_MEMORY : Tok} {t_IN_REGISTER : Tok} {t_JUMPS : Tok} {t_LAST_VECTOR : Tok} {t_LOAD : Tok} {t_LOOK : Tok} {t_MEMORY_SIZE : Tok} {t_MOST_INSTRUCTIONS : Tok} {t_MOVE : Tok} {t_NEGATIVE : Tok} {t_NOTHING : Tok} {t_NOT_ALLOWED : Tok} {t_ONE_OPERAND : Tok} {t_ON_BYTES : Tok} {t_OTHER_BITS : Tok} {t_OVERFLOW : Tok} {t_PC : Tok} {t_PLAIN_NUMBER : Tok} {t_PUSH : Tok} {t_REFUSED : Tok} {t_RETURN : Tok} {t_RETURN_WORD : Tok} {t_ROTATE : Tok} {t_RUN : Tok} {t_SET : Tok} {t_SP : Tok} {t_SR : Tok} {t_STOPPED : Tok} {t_SUBTRACT_WITH_CARRY : Tok} {t_SWAP_BYTES : Tok} {t_TWO_OPERANDS : Tok} {t_WIDEN_SIGN : Tok} {t_WITHOUT_BITS : Tok} {t_WORDS : Tok} {t_WORD_PLACE : Tok} {t_ZERO : Tok} {t_ZERO_RESULT : Tok} {t0_KEPT_BITS t1_KEPT_BITS t2_KEPT_BITS t3_KEPT_BITS t4_KEPT_BITS t5_KEPT_BITS t6_KEPT_BITS t7_KEPT_BITS t8_KEPT_BITS t9_KEPT_BITS t10_KEPT_BITS t11_KEPT_BITS t12_KEPT_BITS t13_KEPT_BITS t14_KEPT_BITS t15_KEPT_BITS : Tok} {n_KEPT_BITS : Nat} {o_KEPT_BITS : Option Addr} {s_KEPT_BITS : Array (Option Value)}
    (e_Processor : PySem.W.nsIn K mainGlobals "Processor" = some (some (.ref C_Processor)))
    (pg_Processor : PySem.W.plainGet K C_Processor Str.empty = true)
    (hd_Processor : PySem.W.hasDictIn K C_Processor = true)
    (po_Processor : PySem.W.plainOver K C_Processor = true)
    (sa_Processor : PySem.W.findIn K (.ref C_Processor) "__setattr__" = some (some (.builtin "object.__setattr__")))
    (mk_Processor : PySem.W.makesIn K C_Processor = true)
    (kc_Processor : PySem.W.keepIn K (.ref C_Processor) = true)
    (e_CallReader : PySem.W.nsIn K mainGlobals "CallReader" = some (some (.ref C_CallReader)))
    (pg_CallReader : PySem.W.plainGet K C_CallReader Str.empty = true)
    (hd_CallReader : PySem.W.hasDictIn K C_CallReader = true)
    (po_CallReader : PySem.W.plainOver K C_CallReader = true)
    (sa_CallReader : PySem.W.findIn K (.ref C_CallReader) "__setattr__" = some (some (.builtin "object.__setattr__")))
    (mk_CallReader : PySem.W.makesIn K C_CallReader = true)
    (kc_CallReader : PySem.W.keepIn K (.ref C_CallReader) = true)
    (n_CallReader_calls : PySem.W.findIn K (.ref C_CallReader) "calls" = some none)
    (n_CallReader_place : PySem.W.findIn K (.ref C_CallReader) "place" = some none)
    (n_Processor_memory : PySem.W.findIn K (.ref C_Processor) "memory" = some none)
    (n_Processor_registers : PySem.W.findIn K (.ref C_Processor) "registers" = some none)
    (a_in_memory : PySem.W.nsIn K mainGlobals "in_memory" = some (some (.ref f_in_memory)))
    (l_in_memory : K.lookup f_in_memory = some ⟨oc_in_memory, od_in_memory, .func (PySem.W.fnOf "in_memory" "in_memory" (defArgs s_in_memory) (defBody s_in_memory) (defScope s_in_memory) .none kV_in_memory dc_in_memory pm_in_memory an_in_memory cd_in_memory ct_in_memory), sl_in_memory⟩)
    (c_in_memory : PySem.W.codeIn K cd_in_memory "in_memory" = true)
    (k_in_memory : PySem.W.keepIn K (.ref f_in_memory) = true)
    (a_can_be_asked : PySem.W.nsIn K mainGlobals "can_be_asked" = some (some (.ref f_can_be_asked)))
    (l_can_be_asked : K.lookup f_can_be_asked = some ⟨oc_can_be_asked, od_can_be_asked, .func (PySem.W.fnOf "can_be_asked" "can_be_asked" (defArgs s_can_be_asked) (defBody s_can_be_asked) (defScope s_can_be_asked) .none kV_can_be_asked dc_can_be_asked pm_can_be_asked an_can_be_asked cd_can_be_asked ct_can_be_asked), sl_can_be_asked⟩)
    (c_can_be_asked : PySem.W.codeIn K cd_can_be_asked "can_be_asked" = true)
    (k_can_be_asked : PySem.W.keepIn K (.ref f_can_be_asked) = true)
    (a_Processor_init : PySem.W.findIn K (.ref C_Processor) "__init__" = some (some (.ref f_Processor_init)))
    (i_Processor_init : PySem.W.isFn K (.ref f_Processor_init) = true)
    (l_Processor_init : K.lookup f_Processor_init = some ⟨oc_Processor_init, od_Processor_init, .func (PySem.W.fnOf "__init__" "Processor.__init__" (defArgs s_Processor_init) (defBody s_Processor_init) (defScope s_Processor_init) .none kV_Processor_init dc_Processor_init pm_Processor_init an_Processor_init cd_Processor_init ct_Processor_init), sl_Processor_init⟩)
    (c_Processor_init : PySem.W.codeIn K cd_Processor_init "Processor.__init__" = true)
    (k_Processor_init : PySem.W.keepIn K (.ref f_Processor_init) = true)
    (a_Processor_wipe : PySem.W.findIn K (.ref C_Processor) "wipe" = some (some (.ref f_Processor_wipe)))
    (i_Processor_wipe : PySem.W.isFn K (.ref f_Processor_wipe) = true)
    (l_Processor_wipe : K.lookup f_Processor_wipe = some ⟨oc_Processor_wipe, od_Processor_wipe, .func (PySem.W.fnOf "wipe" "Processor.wipe" (defArgs s_Processor_wipe) (defBody s_Processor_wipe) (defScope s_Processor_wipe) .none kV_Processor_wipe dc_Processor_wipe pm_Processor_wipe an_Processor_wipe cd_Processor_wipe ct_Processor_wipe), sl_Processor_wipe⟩)
    (c_Processor_wipe : PySem.W.codeIn K cd_Processor_wipe "Processor.wipe" = true)
    (k_Processor_wipe : PySem.W.keepIn K (.ref f_Processor_wipe) = true)
    (a_Processor_load : PySem.W.findIn K (.ref C_Processor) "load" = some (some (.ref f_Processor_load)))
    (i_Processor_load : PySem.W.isFn K (.ref f_Processor_load) = true)
    (l_Processor_load : K.lookup f_Processor_load = some ⟨oc_Processor_load, od_Processor_load, .func (PySem.W.fnOf "load" "Processor.load" (defArgs s_Processor_load) (defBody s_Processor_load) (defScope s_Processor_load) .none kV_Processor_load dc_Processor_load pm_Processor_load an_Processor_load cd_Processor_load ct_Processor_load), sl_Processor_load⟩)
    (c_Processor_load : PySem.W.codeIn K cd_Processor_load "Processor.load" = true)
    (k_Processor_load : PySem.W.keepIn K (.ref f_Processor_load) = true)
    (a_Processor_look : PySem.W.findIn K (.ref C_Processor) "look" = some (some (.ref f_Processor_look)))
    (i_Processor_look : PySem.W.isFn K (.ref f_Processor_look) = true)
    (l_Processor_look : K.lookup f_Processor_look = some ⟨oc_Processor_look, od_Processor_look, .func (PySem.W.fnOf "look" "Processor.look" (defArgs s_Processor_look) (defBody s_Processor_look) (defScope s_Processor_look) .none kV_Processor_look dc_Processor_look pm_Processor_look an_Processor_look cd_Processor_look ct_Processor_look), sl_Processor_look⟩)
    (c_Processor_look : PySem.W.codeIn K cd_Processor_look "Processor.look" = true)
    (k_Processor_look : PySem.W.keepIn K (.ref f_Processor_look) = true)
    (a_Processor_keep : PySem.W.findIn K (.ref C_Processor) "keep" = some (some (.ref f_Processor_keep)))
    (i_Processor_keep : PySem.W.isFn K (.ref f_Processor_keep) = true)
    (l_Processor_keep : K.lookup f_Processor_keep = some ⟨oc_Processor_keep, od_Processor_keep, .func (PySem.W.fnOf "keep" "Processor.keep" (defArgs s_Processor_keep) (defBody s_Processor_keep) (defScope s_Processor_keep) .none kV_Processor_keep dc_Processor_keep pm_Processor_keep an_Processor_keep cd_Processor_keep ct_Processor_keep), sl_Processor_keep⟩)
    (c_Processor_keep : PySem.W.codeIn K cd_Processor_keep "Processor.keep" = true)
    (k_Processor_keep : PySem.W.keepIn K (.ref f_Processor_keep) = true)
    (a_Processor_put : PySem.W.findIn K (.ref C_Processor) "put" = some (some (.ref f_Processor_put)))
    (i_Processor_put : PySem.W.isFn K (.ref f_Processor_put) = true)
    (l_Processor_put : K.lookup f_Processor_put = some ⟨oc_Processor_put, od_Processor_put, .func (PySem.W.fnOf "put" "Processor.put" (defArgs s_Processor_put) (defBody s_Processor_put) (defScope s_Processor_put) .none kV_Processor_put dc_Processor_put pm_Processor_put an_Processor_put cd_Processor_put ct_Processor_put), sl_Processor_put⟩)
    (c_Processor_put : PySem.W.codeIn K cd_Processor_put "Processor.put" = true)
    (k_Processor_put : PySem.W.keepIn K (.ref f_Processor_put) = true)
    (a_Processor_held : PySem.W.findIn K (.ref C_Processor) "held" = some (some (.ref f_Processor_held)))
    (i_Processor_held : PySem.W.isFn K (.ref f_Processor_held) = true)
    (l_Processor_held : K.lookup f_Processor_held = some ⟨oc_Processor_held, od_Processor_held, .func (PySem.W.fnOf "held" "Processor.held" (defArgs s_Processor_held) (defBody s_Processor_held) (defScope s_Processor_held) .none kV_Processor_held dc_Processor_held pm_Processor_held an_Processor_held cd_Processor_held ct_Processor_held), sl_Processor_held⟩)
    (c_Processor_held : PySem.W.codeIn K cd_Processor_held "Processor.held" = true)
    (k_Processor_held : PySem.W.keepIn K (.ref f_Processor_held) = true)
    (a_Processor_word_at : PySem.W.findIn K (.ref C_Processor) "word_at" = some (some (.ref f_Processor_word_at)))
    (i_Processor_word_at : PySem.W.isFn K (.ref f_Processor_word_at) = true)
    (l_Processor_word_at : K.lookup f_Processor_word_at = some ⟨oc_Processor_word_at, od_Processor_word_at, .func (PySem.W.fnOf "word_at" "Processor.word_at" (defArgs s_Processor_word_at) (defBody s_Processor_word_at) (defScope s_Processor_word_at) .none kV_Processor_word_at dc_Processor_word_at pm_Processor_word_at an_Processor_word_at cd_Processor_word_at ct_Processor_word_at), sl_Processor_word_at⟩)
    (c_Processor_word_at : PySem.W.codeIn K cd_Processor_word_at "Processor.word_at" = true)
    (k_Processor_word_at : PySem.W.keepIn K (.ref f_Processor_word_at) = true)
    (a_Processor_keep_word : PySem.W.findIn K (.ref C_Processor) "keep_word" = some (some (.ref f_Processor_keep_word)))
    (i_Processor_keep_word : PySem.W.isFn K (.ref f_Processor_keep_word) = true)
    (l_Processor_keep_word : K.lookup f_Processor_keep_word = some ⟨oc_Processor_keep_word, od_Processor_keep_word, .func (PySem.W.fnOf "keep_word" "Processor.keep_word" (defArgs s_Processor_keep_word) (defBody s_Processor_keep_word) (defScope s_Processor_keep_word) .none kV_Processor_keep_word dc_Processor_keep_word pm_Processor_keep_word an_Processor_keep_word cd_Processor_keep_word ct_Processor_keep_word), sl_Processor_keep_word⟩)
    (c_Processor_keep_word : PySem.W.codeIn K cd_Processor_keep_word "Processor.keep_word" = true)
    (k_Processor_keep_word : PySem.W.keepIn K (.ref f_Processor_keep_word) = true)
    (a_Processor_next_word : PySem.W.findIn K (.ref C_Processor) "next_word" = some (some (.ref f_Processor_next_word)))
    (i_Processor_next_word : PySem.W.isFn K (.ref f_Processor_next_word) = true)
    (l_Processor_next_word : K.lookup f_Processor_next_word = some ⟨oc_Processor_next_word, od_Processor_next_word, .func (PySem.W.fnOf "next_word" "Processor.next_word" (defArgs s_Processor_next_word) (defBody s_Processor_next_word) (defScope s_Processor_next_word) .none kV_Processor_next_word dc_Processor_next_word pm_Processor_next_word an_Processor_next_word cd_Processor_next_word ct_Processor_next_word), sl_Processor_next_word⟩)
    (c_Processor_next_word : PySem.W.codeIn K cd_Processor_next_word "Processor.next_word" = true)
    (k_Processor_next_word : PySem.W.keepIn K (.ref f_Processor_next_word) = true)
    (a_Processor_push : PySem.W.findIn K (.ref C_Processor) "push" = some (some (.ref f_Processor_push)))
    (i_Processor_push : PySem.W.isFn K (.ref f_Processor_push) = true)
    (l_Processor_push : K.lookup f_Processor_push = some ⟨oc_Processor_push, od_Processor_push, .func (PySem.W.fnOf "push" "Processor.push" (defArgs s_Processor_push) (defBody s_Processor_push) (defScope s_Processor_push) .none kV_Processor_push dc_Processor_push pm_Processor_push an_Processor_push cd_Processor_push ct_Processor_push), sl_Processor_push⟩)
    (c_Processor_push : PySem.W.codeIn K cd_Processor_push "Processor.push" = true)
    (k_Processor_push : PySem.W.keepIn K (.ref f_Processor_push) = true)
    (a_Processor_pull : PySem.W.findIn K (.ref C_Processor) "pull" = some (some (.ref f_Processor_pull)))
    (i_Processor_pull : PySem.W.isFn K (.ref f_Processor_pull) = true)
    (l_Processor_pull : K.lookup f_Processor_pull = some ⟨oc_Processor_pull, od_Processor_pull, .func (PySem.W.fnOf "pull" "Processor.pull" (defArgs s_Processor_pull) (defBody s_Processor_pull) (defScope s_Processor_pull) .none kV_Processor_pull dc_Processor_pull pm_Processor_pull an_Processor_pull cd_Processor_pull ct_Processor_pull), sl_Processor_pull⟩)
    (c_Processor_pull : PySem.W.codeIn K cd_Processor_pull "Processor.pull" = true)
    (k_Processor_pull : PySem.W.keepIn K (.ref f_Processor_pull) = true)
    (a_CallReader_init : PySem.W.findIn K (.ref C_CallReader) "__init__" = some (some (.ref f_CallReader_init)))
    (i_CallReader_init : PySem.W.isFn K (.ref f_CallReader_init) = true)
    (l_CallReader_init : K.lookup f_CallReader_init = some ⟨oc_CallReader_init, od_CallReader_init, .func (PySem.W.fnOf "__init__" "CallReader.__init__" (defArgs s_CallReader_init) (defBody s_CallReader_init) (defScope s_CallReader_init) .none kV_CallReader_init dc_CallReader_init pm_CallReader_init an_CallReader_init cd_CallReader_init ct_CallReader_init), sl_CallReader_init⟩)
    (c_CallReader_init : PySem.W.codeIn K cd_CallReader_init "CallReader.__init__" = true)
    (k_CallReader_init : PySem.W.keepIn K (.ref f_CallReader_init) = true)
    (a_CallReader_has_more : PySem.W.findIn K (.ref C_CallReader) "has_more" = some (some (.ref f_CallReader_has_more)))
    (i_CallReader_has_more : PySem.W.isFn K (.ref f_CallReader_has_more) = true)
    (l_CallReader_has_more : K.lookup f_CallReader_has_more = some ⟨oc_CallReader_has_more, od_CallReader_has_more, .func (PySem.W.fnOf "has_more" "CallReader.has_more" (defArgs s_CallReader_has_more) (defBody s_CallReader_has_more) (defScope s_CallReader_has_more) .none kV_CallReader_has_more dc_CallReader_has_more pm_CallReader_has_more an_CallReader_has_more cd_CallReader_has_more ct_CallReader_has_more), sl_CallReader_has_more⟩)
    (c_CallReader_has_more : PySem.W.codeIn K cd_CallReader_has_more "CallReader.has_more" = true)
    (k_CallReader_has_more : PySem.W.keepIn K (.ref f_CallReader_has_more) = true)
    (a_CallReader_take : PySem.W.findIn K (.ref C_CallReader) "take" = some (some (.ref f_CallReader_take)))
    (i_CallReader_take : PySem.W.isFn K (.ref f_CallReader_take) = true)
    (l_CallReader_take : K.lookup f_CallReader_take = some ⟨oc_CallReader_take, od_CallReader_take, .func (PySem.W.fnOf "take" "CallReader.take" (defArgs s_CallReader_take) (defBody s_CallReader_take) (defScope s_CallReader_take) .none kV_CallReader_take dc_CallReader_take pm_CallReader_take an_CallReader_take cd_CallReader_take ct_CallReader_take), sl_CallReader_take⟩)
    (c_CallReader_take : PySem.W.codeIn K cd_CallReader_take "CallReader.take" = true)
    (k_CallReader_take : PySem.W.keepIn K (.ref f_CallReader_take) = true)
    (a_CallReader_take_row : PySem.W.findIn K (.ref C_CallReader) "take_row" = some (some (.ref f_CallReader_take_row)))
    (i_CallReader_take_row : PySem.W.isFn K (.ref f_CallReader_take_row) = true)
    (l_CallReader_take_row : K.lookup f_CallReader_take_row = some ⟨oc_CallReader_take_row, od_CallReader_take_row, .func (PySem.W.fnOf "take_row" "CallReader.take_row" (defArgs s_CallReader_take_row) (defBody s_CallReader_take_row) (defScope s_CallReader_take_row) .none kV_CallReader_take_row dc_CallReader_take_row pm_CallReader_take_row an_CallReader_take_row cd_CallReader_take_row ct_CallReader_take_row), sl_CallReader_take_row⟩)
    (c_CallReader_take_row : PySem.W.codeIn K cd_CallReader_take_row "CallReader.take_row" = true)
    (k_CallReader_take_row : PySem.W.keepIn K (.ref f_CallReader_take_row) = true)
    (a_has_sign : PySem.W.nsIn K mainGlobals "has_sign" = some (some (.ref f_has_sign)))
    (l_has_sign : K.lookup f_has_sign = some ⟨oc_has_sign, od_has_sign, .func (PySem.W.fnOf "has_sign" "has_sign" (defArgs s_has_sign) (defBody s_has_sign) (defScope s_has_sign) .none kV_has_sign dc_has_sign pm_has_sign an_has_sign cd_has_sign ct_has_sign), sl_has_sign⟩)
    (c_has_sign : PySem.W.codeIn K cd_has_sign "has_sign" = true)
    (k_has_sign : PySem.W.keepIn K (.ref f_has_sign) = true)
    (a_with_flags : PySem.W.nsIn K mainGlobals "with_flags" = some (some (.ref f_with_flags)))
    (l_with_flags : K.lookup f_with_flags = some ⟨oc_with_flags, od_with_flags, .func (PySem.W.fnOf "with_flags" "with_flags" (defArgs s_with_flags) (defBody s_with_flags) (defScope s_with_flags) .none kV_with_flags dc_with_flags pm_with_flags an_with_flags cd_with_flags ct_with_flags), sl_with_flags⟩)
    (c_with_flags : PySem.W.codeIn K cd_with_flags "with_flags" = true)
    (k_with_flags : PySem.W.keepIn K (.ref f_with_flags) = true)
    (a_differ : PySem.W.nsIn K mainGlobals "differ" = some (some (.ref f_differ)))
    (l_differ : K.lookup f_differ = some ⟨oc_differ, od_differ, .func (PySem.W.fnOf "differ" "differ" (defArgs s_differ) (defBody s_differ) (defScope s_differ) .none kV_differ dc_differ pm_differ an_differ cd_differ ct_differ), sl_differ⟩)
    (c_differ : PySem.W.codeIn K cd_differ "differ" = true)
    (k_differ : PySem.W.keepIn K (.ref f_differ) = true)
    (a_is_taken : PySem.W.nsIn K mainGlobals "is_taken" = some (some (.ref f_is_taken)))
    (l_is_taken : K.lookup f_is_taken = some ⟨oc_is_taken, od_is_taken, .func (PySem.W.fnOf "is_taken" "is_taken" (defArgs s_is_taken) (defBody s_is_taken) (defScope s_is_taken) .none kV_is_taken dc_is_taken pm_is_taken an_is_taken cd_is_taken ct_is_taken), sl_is_taken⟩)
    (c_is_taken : PySem.W.codeIn K cd_is_taken "is_taken" = true)
    (k_is_taken : PySem.W.keepIn K (.ref f_is_taken) = true)
    (a_words_on : PySem.W.nsIn K mainGlobals "words_on" = some (some (.ref f_words_on)))
    (l_words_on : K.lookup f_words_on = some ⟨oc_words_on, od_words_on, .func (PySem.W.fnOf "words_on" "words_on" (defArgs s_words_on) (defBody s_words_on) (defScope s_words_on) .none kV_words_on dc_words_on pm_words_on an_words_on cd_words_on ct_words_on), sl_words_on⟩)
    (c_words_on : PySem.W.codeIn K cd_words_on "words_on" = true)
    (k_words_on : PySem.W.keepIn K (.ref f_words_on) = true)
    (a_do_jump : PySem.W.nsIn K mainGlobals "do_jump" = some (some (.ref f_do_jump)))
    (l_do_jump : K.lookup f_do_jump = some ⟨oc_do_jump, od_do_jump, .func (PySem.W.fnOf "do_jump" "do_jump" (defArgs s_do_jump) (defBody s_do_jump) (defScope s_do_jump) .none kV_do_jump dc_do_jump pm_do_jump an_do_jump cd_do_jump ct_do_jump), sl_do_jump⟩)
    (c_do_jump : PySem.W.codeIn K cd_do_jump "do_jump" = true)
    (k_do_jump : PySem.W.keepIn K (.ref f_do_jump) = true)
    (a_numbers_below : PySem.W.nsIn K mainGlobals "numbers_below" = some (some (.ref f_numbers_below)))
    (l_numbers_below : K.lookup f_numbers_below = some ⟨oc_numbers_below, od_numbers_below, .func (PySem.W.fnOf "numbers_below" "numbers_below" (defArgs s_numbers_below) (defBody s_numbers_below) (defScope s_numbers_below) .none kV_numbers_below dc_numbers_below pm_numbers_below an_numbers_below cd_numbers_below ct_numbers_below), sl_numbers_below⟩)
    (c_numbers_below : PySem.W.codeIn K cd_numbers_below "numbers_below" = true)
    (k_numbers_below : PySem.W.keepIn K (.ref f_numbers_below) = true)
    (a_free_number : PySem.W.nsIn K mainGlobals "free_number" = some (some (.ref f_free_number)))
    (l_free_number : K.lookup f_free_number = some ⟨oc_free_number, od_free_number, .func (PySem.W.fnOf "free_number" "free_number" (defArgs s_free_number) (defBody s_free_number) (defScope s_free_number) .none kV_free_number dc_free_number pm_free_number an_free_number cd_free_number ct_free_number), sl_free_number⟩)
    (c_free_number : PySem.W.codeIn K cd_free_number "free_number" = true)
    (k_free_number : PySem.W.keepIn K (.ref f_free_number) = true)
    (a_beyond_register : PySem.W.nsIn K mainGlobals "beyond_register" = some (some (.ref f_beyond_register)))
    (l_beyond_register : K.lookup f_beyond_register = some ⟨oc_beyond_register, od_beyond_register, .func (PySem.W.fnOf "beyond_register" "beyond_register" (defArgs s_beyond_register) (defBody s_beyond_register) (defScope s_beyond_register) .none kV_beyond_register dc_beyond_register pm_beyond_register an_beyond_register cd_beyond_register ct_beyond_register), sl_beyond_register⟩)
    (c_beyond_register : PySem.W.codeIn K cd_beyond_register "beyond_register" = true)
    (k_beyond_register : PySem.W.keepIn K (.ref f_beyond_register) = true)
    (a_step_of : PySem.W.nsIn K mainGlobals "step_of" = some (some (.ref f_step_of)))
    (l_step_of : K.lookup f_step_of = some ⟨oc_step_of, od_step_of, .func (PySem.W.fnOf "step_of" "step_of" (defArgs s_step_of) (defBody s_step_of) (defScope s_step_of) .none kV_step_of dc_step_of pm_step_of an_step_of cd_step_of ct_step_of), sl_step_of⟩)
    (c_step_of : PySem.W.codeIn K cd_step_of "step_of" = true)
    (k_step_of : PySem.W.keepIn K (.ref f_step_of) = true)
    (a_first_operand : PySem.W.nsIn K mainGlobals "first_operand" = some (some (.ref f_first_operand)))
    (l_first_operand : K.lookup f_first_operand = some ⟨oc_first_operand, od_first_operand, .func (PySem.W.fnOf "first_operand" "first_operand" (defArgs s_first_operand) (defBody s_first_operand) (defScope s_first_operand) .none kV_first_operand dc_first_operand pm_first_operand an_first_operand cd_first_operand ct_first_operand), sl_first_operand⟩)
    (c_first_operand : PySem.W.codeIn K cd_first_operand "first_operand" = true)
    (k_first_operand : PySem.W.keepIn K (.ref f_first_operand) = true)
    (a_second_operand : PySem.W.nsIn K mainGlobals "second_operand" = some (some (.ref f_second_operand)))
    (l_second_operand : K.lookup f_second_operand = some ⟨oc_second_operand, od_second_operand, .func (PySem.W.fnOf "second_operand" "second_operand" (defArgs s_second_operand) (defBody s_second_operand) (defScope s_second_operand) .none kV_second_operand dc_second_operand pm_second_operand an_second_operand cd_second_operand ct_second_operand), sl_second_operand⟩)
    (c_second_operand : PySem.W.codeIn K cd_second_operand "second_operand" = true)
    (k_second_operand : PySem.W.keepIn K (.ref f_second_operand) = true)
    (a_value_of : PySem.W.nsIn K mainGlobals "value_of" = some (some (.ref f_value_of)))
    (l_value_of : K.lookup f_value_of = some ⟨oc_value_of, od_value_of, .func (PySem.W.fnOf "value_of" "value_of" (defArgs s_value_of) (defBody s_value_of) (defScope s_value_of) .none kV_value_of dc_value_of pm_value_of an_value_of cd_value_of ct_value_of), sl_value_of⟩)
    (c_value_of : PySem.W.codeIn K cd_value_of "value_of" = true)
    (k_value_of : PySem.W.keepIn K (.ref f_value_of) = true)
    (a_keep_result : PySem.W.nsIn K mainGlobals "keep_result" = some (some (.ref f_keep_result)))
    (l_keep_result : K.lookup f_keep_result = some ⟨oc_keep_result, od_keep_result, .func (PySem.W.fnOf "keep_result" "keep_result" (defArgs s_keep_result) (defBody s_keep_result) (defScope s_keep_result) .none kV_keep_result dc_keep_result pm_keep_result an_keep_result cd_keep_result ct_keep_result), sl_keep_result⟩)
    (c_keep_result : PySem.W.codeIn K cd_keep_result "keep_result" = true)
    (k_keep_result : PySem.W.keepIn K (.ref f_keep_result) = true)
    (a_kind_of : PySem.W.nsIn K mainGlobals "kind_of" = some (some (.ref f_kind_of)))
    (l_kind_of : K.lookup f_kind_of = some ⟨oc_kind_of, od_kind_of, .func (PySem.W.fnOf "kind_of" "kind_of" (defArgs s_kind_of) (defBody s_kind_of) (defScope s_kind_of) .none kV_kind_of dc_kind_of pm_kind_of an_kind_of cd_kind_of ct_kind_of), sl_kind_of⟩)
    (c_kind_of : PySem.W.codeIn K cd_kind_of "kind_of" = true)
    (k_kind_of : PySem.W.keepIn K (.ref f_kind_of) = true)
    (a_has_one_operand : PySem.W.nsIn K mainGlobals "has_one_operand" = some (some (.ref f_has_one_operand)))
    (l_has_one_operand : K.lookup f_has_one_operand = some ⟨oc_has_one_operand, od_has_one_operand, .func (PySem.W.fnOf "has_one_operand" "has_one_operand" (defArgs s_has_one_operand) (defBody s_has_one_operand) (defScope s_has_one_operand) .none kV_has_one_operand dc_has_one_operand pm_has_one_operand an_has_one_operand cd_has_one_operand ct_has_one_operand), sl_has_one_operand⟩)
    (c_has_one_operand : PySem.W.codeIn K cd_has_one_operand "has_one_operand" = true)
    (k_has_one_operand : PySem.W.keepIn K (.ref f_has_one_operand) = true)
    (a_moved_right : PySem.W.nsIn K mainGlobals "moved_right" = some (some (.ref f_moved_right)))
    (l_moved_right : K.lookup f_moved_right = some ⟨oc_moved_right, od_moved_right, .func (PySem.W.fnOf "moved_right" "moved_right" (defArgs s_moved_right) (defBody s_moved_right) (defScope s_moved_right) .none kV_moved_right dc_moved_right pm_moved_right an_moved_right cd_moved_right ct_moved_right), sl_moved_right⟩)
    (c_moved_right : PySem.W.codeIn K cd_moved_right "moved_right" = true)
    (k_moved_right : PySem.W.keepIn K (.ref f_moved_right) = true)
    (a_widened : PySem.W.nsIn K mainGlobals "widened" = some (some (.ref f_widened)))
    (l_widened : K.lookup f_widened = some ⟨oc_widened, od_widened, .func (PySem.W.fnOf "widened" "widened" (defArgs s_widened) (defBody s_widened) (defScope s_widened) .none kV_widened dc_widened pm_widened an_widened cd_widened ct_widened), sl_widened⟩)
    (c_widened : PySem.W.codeIn K cd_widened "widened" = true)
    (k_widened : PySem.W.keepIn K (.ref f_widened) = true)
    (a_outcome_of_one : PySem.W.nsIn K mainGlobals "outcome_of_one" = some (some (.ref f_outcome_of_one)))
    (l_outcome_of_one : K.lookup f_outcome_of_one = some ⟨oc_outcome_of_one, od_outcome_of_one, .func (PySem.W.fnOf "outcome_of_one" "outcome_of_one" (defArgs s_outcome_of_one) (defBody s_outcome_of_one) (defScope s_outcome_of_one) .none kV_outcome_of_one dc_outcome_of_one pm_outcome_of_one an_outcome_of_one cd_outcome_of_one ct_outcome_of_one), sl_outcome_of_one⟩)
    (c_outcome_of_one : PySem.W.codeIn K cd_outcome_of_one "outcome_of_one" = true)
    (k_outcome_of_one : PySem.W.keepIn K (.ref f_outcome_of_one) = true)
    (a_push_byte : PySem.W.nsIn K mainGlobals "push_byte" = some (some (.ref f_push_byte)))
    (l_push_byte : K.lookup f_push_byte = some ⟨oc_push_byte, od_push_byte, .func (PySem.W.fnOf "push_byte" "push_byte" (defArgs s_push_byte) (defBody s_push_byte) (defScope s_push_byte) .none kV_push_byte dc_push_byte pm_push_byte an_push_byte cd_push_byte ct_push_byte), sl_push_byte⟩)
    (c_push_byte : PySem.W.codeIn K cd_push_byte "push_byte" = true)
    (k_push_byte : PySem.W.keepIn K (.ref f_push_byte) = true)
    (a_do_return : PySem.W.nsIn K mainGlobals "do_return" = some (some (.ref f_do_return)))
    (l_do_return : K.lookup f_do_return = some ⟨oc_do_return, od_do_return, .func (PySem.W.fnOf "do_return" "do_return" (defArgs s_do_return) (defBody s_do_return) (defScope s_do_return) .none kV_do_return dc_do_return pm_do_return an_do_return cd_do_return ct_do_return), sl_do_return⟩)
    (c_do_return : PySem.W.codeIn K cd_do_return "do_return" = true)
    (k_do_return : PySem.W.keepIn K (.ref f_do_return) = true)
    (a_do_one : PySem.W.nsIn K mainGlobals "do_one" = some (some (.ref f_do_one)))
    (l_do_one : K.lookup f_do_one = some ⟨oc_do_one, od_do_one, .func (PySem.W.fnOf "do_one" "do_one" (defArgs s_do_one) (defBody s_do_one) (defScope s_do_one) .none kV_do_one dc_do_one pm_do_one an_do_one cd_do_one ct_do_one), sl_do_one⟩)
    (c_do_one : PySem.W.codeIn K cd_do_one "do_one" = true)
    (k_do_one : PySem.W.keepIn K (.ref f_do_one) = true)
    (a_added : PySem.W.nsIn K mainGlobals "added" = some (some (.ref f_added)))
    (l_added : K.lookup f_added = some ⟨oc_added, od_added, .func (PySem.W.fnOf "added" "added" (defArgs s_added) (defBody s_added) (defScope s_added) .none kV_added dc_added pm_added an_added cd_added ct_added), sl_added⟩)
    (c_added : PySem.W.codeIn K cd_added "added" = true)
    (k_added : PySem.W.keepIn K (.ref f_added) = true)
    (a_sum_of : PySem.W.nsIn K mainGlobals "sum_of" = some (some (.ref f_sum_of)))
    (l_sum_of : K.lookup f_sum_of = some ⟨oc_sum_of, od_sum_of, .func (PySem.W.fnOf "sum_of" "sum_of" (defArgs s_sum_of) (defBody s_sum_of) (defScope s_sum_of) .none kV_sum_of dc_sum_of pm_sum_of an_sum_of cd_sum_of ct_sum_of), sl_sum_of⟩)
    (c_sum_of : PySem.W.codeIn K cd_sum_of "sum_of" = true)
    (k_sum_of : PySem.W.keepIn K (.ref f_sum_of) = true)
    (a_added_decimal : PySem.W.nsIn K mainGlobals "added_decimal" = some (some (.ref f_added_decimal)))
    (l_added_decimal : K.lookup f_added_decimal = some ⟨oc_added_decimal, od_added_decimal, .func (PySem.W.fnOf "added_decimal" "added_decimal" (defArgs s_added_decimal) (defBody s_added_decimal) (defScope s_added_decimal) .none kV_added_decimal dc_added_decimal pm_added_decimal an_added_decimal cd_added_decimal ct_added_decimal), sl_added_decimal⟩)
    (c_added_decimal : PySem.W.codeIn K cd_added_decimal "added_decimal" = true)
    (k_added_decimal : PySem.W.keepIn K (.ref f_added_decimal) = true)
    (a_common_bits : PySem.W.nsIn K mainGlobals "common_bits" = some (some (.ref f_common_bits)))
    (l_common_bits : K.lookup f_common_bits = some ⟨oc_common_bits, od_common_bits, .func (PySem.W.fnOf "common_bits" "common_bits" (defArgs s_common_bits) (defBody s_common_bits) (defScope s_common_bits) .none kV_common_bits dc_common_bits pm_common_bits an_common_bits cd_common_bits ct_common_bits), sl_common_bits⟩)
    (c_common_bits : PySem.W.codeIn K cd_common_bits "common_bits" = true)
    (k_common_bits : PySem.W.keepIn K (.ref f_common_bits) = true)
    (a_exclusive_or : PySem.W.nsIn K mainGlobals "exclusive_or" = some (some (.ref f_exclusive_or)))
    (l_exclusive_or : K.lookup f_exclusive_or = some ⟨oc_exclusive_or, od_exclusive_or, .func (PySem.W.fnOf "exclusive_or" "exclusive_or" (defArgs s_exclusive_or) (defBody s_exclusive_or) (defScope s_exclusive_or) .none kV_exclusive_or dc_exclusive_or pm_exclusive_or an_exclusive_or cd_exclusive_or ct_exclusive_or), sl_exclusive_or⟩)
    (c_exclusive_or : PySem.W.codeIn K cd_exclusive_or "exclusive_or" = true)
    (k_exclusive_or : PySem.W.keepIn K (.ref f_exclusive_or) = true)
    (a_outcome_of_two : PySem.W.nsIn K mainGlobals "outcome_of_two" = some (some (.ref f_outcome_of_two)))
    (l_outcome_of_two : K.lookup f_outcome_of_two = some ⟨oc_outcome_of_two, od_outcome_of_two, .func (PySem.W.fnOf "outcome_of_two" "outcome_of_two" (defArgs s_outcome_of_two) (defBody s_outcome_of_two) (defScope s_outcome_of_two) .none kV_outcome_of_two dc_outcome_of_two pm_outcome_of_two an_outcome_of_two cd_outcome_of_two ct_outcome_of_two), sl_outcome_of_two⟩)
    (c_outcome_of_two : PySem.W.codeIn K cd_outcome_of_two "outcome_of_two" = true)
    (k_outcome_of_two : PySem.W.keepIn K (.ref f_outcome_of_two) = true)
    (a_do_two : PySem.W.nsIn K mainGlobals "do_two" = some (some (.ref f_do_two)))
    (l_do_two : K.lookup f_do_two = some ⟨oc_do_two, od_do_two, .func (PySem.W.fnOf "do_two" "do_two" (defArgs s_do_two) (defBody s_do_two) (defScope s_do_two) .none kV_do_two dc_do_two pm_do_two an_do_two cd_do_two ct_do_two), sl_do_two⟩)
    (c_do_two : PySem.W.codeIn K cd_do_two "do_two" = true)
    (k_do_two : PySem.W.keepIn K (.ref f_do_two) = true)
    (a_is_instruction : PySem.W.nsIn K mainGlobals "is_instruction" = some (some (.ref f_is_instruction)))
    (l_is_instruction : K.lookup f_is_instruction = some ⟨oc_is_instruction, od_is_instruction, .func (PySem.W.fnOf "is_instruction" "is_instruction" (defArgs s_is_instruction) (defBody s_is_instruction) (defScope s_is_instruction) .none kV_is_instruction dc_is_instruction pm_is_instruction an_is_instruction cd_is_instruction ct_is_instruction), sl_is_instruction⟩)
    (c_is_instruction : PySem.W.codeIn K cd_is_instruction "is_instruction" = true)
    (k_is_instruction : PySem.W.keepIn K (.ref f_is_instruction) = true)
    (a_do_instruction : PySem.W.nsIn K mainGlobals "do_instruction" = some (some (.ref f_do_instruction)))
    (l_do_instruction : K.lookup f_do_instruction = some ⟨oc_do_instruction, od_do_instruction, .func (PySem.W.fnOf "do_instruction" "do_instruction" (defArgs s_do_instruction) (defBody s_do_instruction) (defScope s_do_instruction) .none kV_do_instruction dc_do_instruction pm_do_instruction an_do_instruction cd_do_instruction ct_do_instruction), sl_do_instruction⟩)
    (c_do_instruction : PySem.W.codeIn K cd_do_instruction "do_instruction" = true)
    (k_do_instruction : PySem.W.keepIn K (.ref f_do_instruction) = true)
    (a_goes_on : PySem.W.nsIn K mainGlobals "goes_on" = some (some (.ref f_goes_on)))
    (l_goes_on : K.lookup f_goes_on = some ⟨oc_goes_on, od_goes_on, .func (PySem.W.fnOf "goes_on" "goes_on" (defArgs s_goes_on) (defBody s_goes_on) (defScope s_goes_on) .none kV_goes_on dc_goes_on pm_goes_on an_goes_on cd_goes_on ct_goes_on), sl_goes_on⟩)
    (c_goes_on : PySem.W.codeIn K cd_goes_on "goes_on" = true)
    (k_goes_on : PySem.W.keepIn K (.ref f_goes_on) = true)
    (a_run : PySem.W.nsIn K mainGlobals "run" = some (some (.ref f_run)))
    (l_run : K.lookup f_run = some ⟨oc_run, od_run, .func (PySem.W.fnOf "run" "run" (defArgs s_run) (defBody s_run) (defScope s_run) .none kV_run dc_run pm_run an_run cd_run ct_run), sl_run⟩)
    (c_run : PySem.W.codeIn K cd_run "run" = true)
    (k_run : PySem.W.keepIn K (.ref f_run) = true)
    (a_interrupt : PySem.W.nsIn K mainGlobals "interrupt" = some (some (.ref f_interrupt)))
    (l_interrupt : K.lookup f_interrupt = some ⟨oc_interrupt, od_interrupt, .func (PySem.W.fnOf "interrupt" "interrupt" (defArgs s_interrupt) (defBody s_interrupt) (defScope s_interrupt) .none kV_interrupt dc_interrupt pm_interrupt an_interrupt cd_interrupt ct_interrupt), sl_interrupt⟩)
    (c_interrupt : PySem.W.codeIn K cd_interrupt "interrupt" = true)
    (k_interrupt : PySem.W.keepIn K (.ref f_interrupt) = true)
    (a_answer_call : PySem.W.nsIn K mainGlobals "answer_call" = some (some (.ref f_answer_call)))
    (l_answer_call : K.lookup f_answer_call = some ⟨oc_answer_call, od_answer_call, .func (PySem.W.fnOf "answer_call" "answer_call" (defArgs s_answer_call) (defBody s_answer_call) (defScope s_answer_call) .none kV_answer_call dc_answer_call pm_answer_call an_answer_call cd_answer_call ct_answer_call), sl_answer_call⟩)
    (c_answer_call : PySem.W.codeIn K cd_answer_call "answer_call" = true)
    (k_answer_call : PySem.W.keepIn K (.ref f_answer_call) = true)
    (a_answers : PySem.W.nsIn K mainGlobals "answers" = some (some (.ref f_answers)))
    (l_answers : K.lookup f_answers = some ⟨oc_answers, od_answers, .func (PySem.W.fnOf "answers" "answers" (defArgs s_answers) (defBody s_answers) (defScope s_answers) .none kV_answers dc_answers pm_answers an_answers cd_answers ct_answers), sl_answers⟩)
    (c_answers : PySem.W.codeIn K cd_answers "answers" = true)
    (k_answers : PySem.W.keepIn K (.ref f_answers) = true)
    (c_ADD : PySem.W.nsIn K mainGlobals "ADD" = some (some (.int 5 t_ADD)))
    (c_ADD_DECIMAL : PySem.W.nsIn K mainGlobals "ADD_DECIMAL" = some (some (.int 10 t_ADD_DECIMAL)))
    (c_ADD_WITH_CARRY : PySem.W.nsIn K mainGlobals "ADD_WITH_CARRY" = some (some (.int 6 t_ADD_WITH_CARRY)))
    (c_ALLOWED : PySem.W.nsIn K mainGlobals "ALLOWED" = some (some (.int 8 t_ALLOWED)))
    (c_BEHIND_ONE_OPERAND : PySem.W.nsIn K mainGlobals "BEHIND_ONE_OPERAND" = some (some (.int 5120 t_BEHIND_ONE_OPERAND)))
    (c_BITS_TOGETHER : PySem.W.nsIn K mainGlobals "BITS_TOGETHER" = some (some (.int 13 t_BITS_TOGETHER)))
    (c_BYTES : PySem.W.nsIn K mainGlobals "BYTES" = some (some (.int 256 t_BYTES)))
    (c_CALL : PySem.W.nsIn K mainGlobals "CALL" = some (some (.int 5 t_CALL)))
    (c_CARRY : PySem.W.nsIn K mainGlobals "CARRY" = some (some (.int 1 t_CARRY)))
    (c_CLEAR : PySem.W.nsIn K mainGlobals "CLEAR" = some (some (.int 1 t_CLEAR)))
    (c_COMMON_BITS_TEST : PySem.W.nsIn K mainGlobals "COMMON_BITS_TEST" = some (some (.int 11 t_COMMON_BITS_TEST)))
    (c_COMPARE : PySem.W.nsIn K mainGlobals "COMPARE" = some (some (.int 9 t_COMPARE)))
    (c_DONE : PySem.W.nsIn K mainGlobals "DONE" = some (some (.int 0 t_DONE)))
    (c_EXCLUSIVE_OR : PySem.W.nsIn K mainGlobals "EXCLUSIVE_OR" = some (some (.int 14 t_EXCLUSIVE_OR)))
    (c_FIRST_VECTOR : PySem.W.nsIn K mainGlobals "FIRST_VECTOR" = some (some (.int 65472 t_FIRST_VECTOR)))
    (c_GET : PySem.W.nsIn K mainGlobals "GET" = some (some (.int 5 t_GET)))
    (c_HALVE : PySem.W.nsIn K mainGlobals "HALVE" = some (some (.int 2 t_HALVE)))
    (c_INTERRUPT : PySem.W.nsIn K mainGlobals "INTERRUPT" = some (some (.int 7 t_INTERRUPT)))
    (c_INTERRUPTED : PySem.W.nsIn K mainGlobals "INTERRUPTED" = some (some (.int 1 t_INTERRUPTED)))
    (c_IN_MEMORY : PySem.W.nsIn K mainGlobals "IN_MEMORY" = some (some (.int 1 t_IN_MEMORY)))
    (c_IN_REGISTER : PySem.W.nsIn K mainGlobals "IN_REGISTER" = some (some (.int 0 t_IN_REGISTER)))
    (c_JUMPS : PySem.W.nsIn K mainGlobals "JUMPS" = some (some (.int 8192 t_JUMPS)))
    (c_LAST_VECTOR : PySem.W.nsIn K mainGlobals "LAST_VECTOR" = some (some (.int 65535 t_LAST_VECTOR)))
    (c_LOAD : PySem.W.nsIn K mainGlobals "LOAD" = some (some (.int 2 t_LOAD)))
    (c_LOOK : PySem.W.nsIn K mainGlobals "LOOK" = some (some (.int 3 t_LOOK)))
    (c_MEMORY_SIZE : PySem.W.nsIn K mainGlobals "MEMORY_SIZE" = some (some (.int 65536 t_MEMORY_SIZE)))
    (c_MOST_INSTRUCTIONS : PySem.W.nsIn K mainGlobals "MOST_INSTRUCTIONS" = some (some (.int 1000000 t_MOST_INSTRUCTIONS)))
    (c_MOVE : PySem.W.nsIn K mainGlobals "MOVE" = some (some (.int 4 t_MOVE)))
    (c_NEGATIVE : PySem.W.nsIn K mainGlobals "NEGATIVE" = some (some (.int 4 t_NEGATIVE)))
    (c_NOTHING : PySem.W.nsIn K mainGlobals "NOTHING" = some (some (.int 7 t_NOTHING)))
    (c_NOT_ALLOWED : PySem.W.nsIn K mainGlobals "NOT_ALLOWED" = some (some (.int 0 t_NOT_ALLOWED)))
    (c_ONE_OPERAND : PySem.W.nsIn K mainGlobals "ONE_OPERAND" = some (some (.int 4096 t_ONE_OPERAND)))
    (c_ON_BYTES : PySem.W.nsIn K mainGlobals "ON_BYTES" = some (some (.int 64 t_ON_BYTES)))
    (c_OTHER_BITS : PySem.W.nsIn K mainGlobals "OTHER_BITS" = some (some (.int 248 t_OTHER_BITS)))
    (c_OVERFLOW : PySem.W.nsIn K mainGlobals "OVERFLOW" = some (some (.int 256 t_OVERFLOW)))
    (c_PC : PySem.W.nsIn K mainGlobals "PC" = some (some (.int 0 t_PC)))
    (c_PLAIN_NUMBER : PySem.W.nsIn K mainGlobals "PLAIN_NUMBER" = some (some (.int 2 t_PLAIN_NUMBER)))
    (c_PUSH : PySem.W.nsIn K mainGlobals "PUSH" = some (some (.int 4 t_PUSH)))
    (c_REFUSED : PySem.W.nsIn K mainGlobals "REFUSED" = some (some (.int (-1) t_REFUSED)))
    (c_RETURN : PySem.W.nsIn K mainGlobals "RETURN" = some (some (.int 6 t_RETURN)))
    (c_RETURN_WORD : PySem.W.nsIn K mainGlobals "RETURN_WORD" = some (some (.int 4864 t_RETURN_WORD)))
    (c_ROTATE : PySem.W.nsIn K mainGlobals "ROTATE" = some (some (.int 0 t_ROTATE)))
    (c_RUN : PySem.W.nsIn K mainGlobals "RUN" = some (some (.int 6 t_RUN)))
    (c_SET : PySem.W.nsIn K mainGlobals "SET" = some (some (.int 4 t_SET)))
    (c_SP : PySem.W.nsIn K mainGlobals "SP" = some (some (.int 1 t_SP)))
    (c_SR : PySem.W.nsIn K mainGlobals "SR" = some (some (.int 2 t_SR)))
    (c_STOPPED : PySem.W.nsIn K mainGlobals "STOPPED" = some (some (.int 16 t_STOPPED)))
    (c_SUBTRACT_WITH_CARRY : PySem.W.nsIn K mainGlobals "SUBTRACT_WITH_CARRY" = some (some (.int 7 t_SUBTRACT_WITH_CARRY)))
    (c_SWAP_BYTES : PySem.W.nsIn K mainGlobals "SWAP_BYTES" = some (some (.int 1 t_SWAP_BYTES)))
    (c_TWO_OPERANDS : PySem.W.nsIn K mainGlobals "TWO_OPERANDS" = some (some (.int 16384 t_TWO_OPERANDS)))
    (c_WIDEN_SIGN : PySem.W.nsIn K mainGlobals "WIDEN_SIGN" = some (some (.int 3 t_WIDEN_SIGN)))
    (c_WITHOUT_BITS : PySem.W.nsIn K mainGlobals "WITHOUT_BITS" = some (some (.int 12 t_WITHOUT_BITS)))
    (c_WORDS : PySem.W.nsIn K mainGlobals "WORDS" = some (some (.int 65536 t_WORDS)))
    (c_WORD_PLACE : PySem.W.nsIn K mainGlobals "WORD_PLACE" = some (some (.int 65534 t_WORD_PLACE)))
    (c_ZERO : PySem.W.nsIn K mainGlobals "ZERO" = some (some (.int 3 t_ZERO)))
    (c_ZERO_RESULT : PySem.W.nsIn K mainGlobals "ZERO_RESULT" = some (some (.int 2 t_ZERO_RESULT)))
    (g_KEPT_BITS : PySem.W.nsIn K mainGlobals "KEPT_BITS" = some (some (.ref a_KEPT_BITS)))
    (v_KEPT_BITS : K.lookup a_KEPT_BITS = some ⟨.type "tuple", o_KEPT_BITS, .seq #[.int 65534 t0_KEPT_BITS, .int 65534 t1_KEPT_BITS, .int 511 t2_KEPT_BITS, .int 0 t3_KEPT_BITS, .int 65535 t4_KEPT_BITS, .int 65535 t5_KEPT_BITS, .int 65535 t6_KEPT_BITS, .int 65535 t7_KEPT_BITS, .int 65535 t8_KEPT_BITS, .int 65535 t9_KEPT_BITS, .int 65535 t10_KEPT_BITS, .int 65535 t11_KEPT_BITS, .int 65535 t12_KEPT_BITS, .int 65535 t13_KEPT_BITS, .int 65535 t14_KEPT_BITS, .int 65535 t15_KEPT_BITS] n_KEPT_BITS, s_KEPT_BITS⟩)
    (b_enumerate : PySem.W.nsIn K mainGlobals "enumerate" = some none)
    (b_len : PySem.W.nsIn K mainGlobals "len" = some none) :
    ∃ fd : FuncData, (∀ (s : Shared) (us : List Value), us.length = (["calls"] : List Str).length → BindsTo s fd ⟨us, []⟩ ((["calls"] : List Str).zip us)) ∧ ∀ base : Heap, K.In base → base.Ns mainGlobals mg → FnOk P w K mg base CX0 11 fa fd ["calls"] (sp_answers K) := by
  have e := hfa.symm.trans (PySem.W.mg_of X G a_answers)
  have e : f_answers = fa := by
    cases e
    rfl
  subst e
  have T : Txt K mg { C_Processor := C_Processor, C_CallReader := C_CallReader, f_in_memory := f_in_memory, d_in_memory := PySem.W.fnOf "in_memory" "in_memory" (defArgs s_in_memory) (defBody s_in_memory) (defScope s_in_memory) .none kV_in_memory dc_in_memory pm_in_memory an_in_memory cd_in_memory ct_in_memory, f_can_be_asked := f_can_be_asked, d_can_be_asked := PySem.W.fnOf "can_be_asked" "can_be_asked" (defArgs s_can_be_asked) (defBody s_can_be_asked) (defScope s_can_be_asked) .none kV_can_be_asked dc_can_be_asked pm_can_be_asked an_can_be_asked cd_can_be_asked ct_can_be_asked, f_Processor_init := f_Processor_init, d_Processor_init := PySem.W.fnOf "__init__" "Processor.__init__" (defArgs s_Processor_init) (defBody s_Processor_init) (defScope s_Processor_init) .none kV_Processor_init dc_Processor_init pm_Processor_init an_Processor_init cd_Processor_init ct_Processor_init, f_Processor_wipe := f_Processor_wipe, d_Processor_wipe := PySem.W.fnOf "wipe" "Processor.wipe" (defArgs s_Processor_wipe) (defBody s_Processor_wipe) (defScope s_Processor_wipe) .none kV_Processor_wipe dc_Processor_wipe pm_Processor_wipe an_Processor_wipe cd_Processor_wipe ct_Processor_wipe, f_Processor_load := f_Processor_load, d_Processor_load := PySem.W.fnOf "load" "Processor.load" (defArgs s_Processor_load) (defBody s_Processor_load) (defScope s_Processor_load) .none kV_Processor_load dc_Processor_load pm_Processor_load an_Processor_load cd_Processor_load ct_Processor_load, f_Processor_look := f_Processor_look, d_Processor_look := PySem.W.fnOf "look" "Processor.look" (defArgs s_Processor_look) (defBody s_Processor_look) (defScope s_Processor_look) .none kV_Processor_look dc_Processor_look pm_Processor_look an_Processor_look cd_Processor_look ct_Processor_look, f_Processor_keep := f_Processor_keep, d_Processor_keep := PySem.W.fnOf "keep" "Processor.keep" (defArgs s_Processor_keep) (defBody s_Processor_keep) (defScope s_Processor_keep) .none kV_Processor_keep dc_Processor_keep pm_Processor_keep an_Processor_keep cd_Processor_keep ct_Processor_keep, f_Processor_put := f_Processor_put, d_Processor_put := PySem.W.fnOf "put" "Processor.put" (defArgs s_Processor_put) (defBody s_Processor_put) (defScope s_Processor_put) .none kV_Processor_put dc_Processor_put pm_Processor_put an_Processor_put cd_Processor_put ct_Processor_put, f_Processor_held := f_Processor_held, d_Processor_held := PySem.W.fnOf "held" "Processor.held" (defArgs s_Processor_held) (defBody s_Processor_held) (defScope s_Processor_held) .none kV_Processor_held dc_Processor_held pm_Processor_held an_Processor_held cd_Processor_held ct_Processor_held, f_Processor_word_at := f_Processor_word_at, d_Processor_word_at := PySem.W.fnOf "word_at" "Processor.word_at" (defArgs s_Processor_word_at) (defBody s_Processor_word_at) (defScope s_Processor_word_at) .none kV_Processor_word_at dc_Processor_word_at pm_Processor_word_at an_Processor_word_at cd_Processor_word_at ct_Processor_word_at, f_Processor_keep_word := f_Processor_keep_word, d_Processor_keep_word := PySem.W.fnOf "keep_word" "Processor.keep_word" (defArgs s_Processor_keep_word) (defBody s_Processor_keep_word) (defScope s_Processor_keep_word) .none kV_Processor_keep_word dc_Processor_keep_word pm_Processor_keep_word an_Processor_keep_word cd_Processor_keep_word ct_Processor_keep_word, f_Processor_next_word := f_Processor_next_word, d_Processor_next_word := PySem.W.fnOf "next_word" "Processor.next_word" (defArgs s_Processor_next_word) (defBody s_Processor_next_word) (defScope s_Processor_next_word) .none kV_Processor_next_word dc_Processor_next_word pm_Processor_next_word an_Processor_next_word cd_Processor_next_word ct_Processor_next_word, f_Processor_push := f_Processor_push, d_Processor_push := PySem.W.fnOf "push" "Processor.push" (defArgs s_Processor_push) (defBody s_Processor_push) (defScope s_Processor_push) .none kV_Processor_push dc_Processor_push pm_Processor_push an_Processor_push cd_Processor_push ct_Processor_push, f_Processor_pull := f_Processor_pull, d_Processor_pull := PySem.W.fnOf "pull" "Processor.pull" (defArgs s_Processor_pull) (defBody s_Processor_pull) (defScope s_Processor_pull) .none kV_Processor_pull dc_Processor_pull pm_Processor_pull an_Processor_pull cd_Processor_pull ct_Processor_pull, f_CallReader_init := f_CallReader_init, d_CallReader_init := PySem.W.fnOf "__init__" "CallReader.__init__" (defArgs s_CallReader_init) (defBody s_CallReader_init) (defScope s_CallReader_init) .none kV_CallReader_init dc_CallReader_init pm_CallReader_init an_CallReader_init cd_CallReader_init ct_CallReader_init, f_CallReader_has_more := f_CallReader_has_more, d_CallReader_has_more := PySem.W.fnOf "has_more" "CallReader.has_more" (defArgs s_CallReader_has_more) (defBody s_CallReader_has_more) (defScope s_CallReader_has_more) .none kV_CallReader_has_more dc_CallReader_has_more pm_CallReader_has_more an_CallReader_has_more cd_CallReader_has_more ct_CallReader_has_more, f_CallReader_take := f_CallReader_take, d_CallReader_take := PySem.W.fnOf "take" "CallReader.take" (defArgs s_CallReader_take) (defBody s_CallReader_take) (defScope s_CallReader_take) .none kV_CallReader_take dc_CallReader_take pm_CallReader_take an_CallReader_take cd_CallReader_take ct_CallReader_take, f_CallReader_take_row := f_CallReader_take_row, d_CallReader_take_row := PySem.W.fnOf "take_row" "CallReader.take_row" (defArgs s_CallReader_take_row) (defBody s_CallReader_take_row) (defScope s_CallReader_take_row) .none kV_CallReader_take_row dc_CallReader_take_row pm_CallReader_take_row an_CallReader_take_row cd_CallReader_take_row ct_CallReader_take_row, f_has_sign := f_has_sign, d_has_sign := PySem.W.fnOf "has_sign" "has_sign" (defArgs s_has_sign) (defBody s_has_sign) (defScope s_has_sign) .none kV_has_sign dc_has_sign pm_has_sign an_has_sign cd_has_sign ct_has_sign, f_with_flags := f_with_flags, d_with_flags := PySem.W.fnOf "with_flags" "with_flags" (defArgs s_with_flags) (defBody s_with_flags) (defScope s_with_flags) .none kV_with_flags dc_with_flags pm_with_flags an_with_flags cd_with_flags ct_with_flags, f_differ := f_differ, d_differ := PySem.W.fnOf "differ" "differ" (defArgs s_differ) (defBody s_differ) (defScope s_differ) .none kV_differ dc_differ pm_differ an_differ cd_differ ct_differ, f_is_taken := f_is_taken, d_is_taken := PySem.W.fnOf "is_taken" "is_taken" (defArgs s_is_taken) (defBody s_is_taken) (defScope s_is_taken) .none kV_is_taken dc_is_taken pm_is_taken an_is_taken cd_is_taken ct_is_taken, f_words_on := f_words_on, d_words_on := PySem.W.fnOf "words_on" "words_on" (defArgs s_words_on) (defBody s_words_on) (defScope s_words_on) .none kV_words_on dc_words_on pm_words_on an_words_on cd_words_on ct_words_on, f_do_jump := f_do_jump, d_do_jump := PySem.W.fnOf "do_jump" "do_jump" (defArgs s_do_jump) (defBody s_do_jump) (defScope s_do_jump) .none kV_do_jump dc_do_jump pm_do_jump an_do_jump cd_do_jump ct_do_jump, f_numbers_below := f_numbers_below, d_numbers_below := PySem.W.fnOf "numbers_below" "numbers_below" (defArgs s_numbers_below) (defBody s_numbers_below) (defScope s_numbers_below) .none kV_numbers_below dc_numbers_below pm_numbers_below an_numbers_below cd_numbers_below ct_numbers_below, f_free_number := f_free_number, d_free_number := PySem.W.fnOf "free_number" "free_number" (defArgs s_free_number) (defBody s_free_number) (defScope s_free_number) .none kV_free_number dc_free_number pm_free_number an_free_number cd_free_number ct_free_number, f_beyond_register := f_beyond_register, d_beyond_register := PySem.W.fnOf "beyond_register" "beyond_register" (defArgs s_beyond_register) (defBody s_beyond_register) (defScope s_beyond_register) .none kV_beyond_register dc_beyond_register pm_beyond_register an_beyond_register cd_beyond_register ct_beyond_register, f_step_of := f_step_of, d_step_of := PySem.W.fnOf "step_of" "step_of" (defArgs s_step_of) (defBody s_step_of) (defScope s_step_of) .none kV_step_of dc_step_of pm_step_of an_step_of cd_step_of ct_step_of, f_first_operand := f_first_operand, d_first_operand := PySem.W.fnOf "first_operand" "first_operand" (defArgs s_first_operand) (defBody s_first_operand) (defScope s_first_operand) .none kV_first_operand dc_first_operand pm_first_operand an_first_operand cd_first_operand ct_first_operand, f_second_operand := f_second_operand, d_second_operand := PySem.W.fnOf "second_operand" "second_operand" (defArgs s_second_operand) (defBody s_second_operand) (defScope s_second_operand) .none kV_second_operand dc_second_operand pm_second_operand an_second_operand cd_second_operand ct_second_operand, f_value_of := f_value_of, d_value_of := PySem.W.fnOf "value_of" "value_of" (defArgs s_value_of) (defBody s_value_of) (defScope s_value_of) .none kV_value_of dc_value_of pm_value_of an_value_of cd_value_of ct_value_of, f_keep_result := f_keep_result, d_keep_result := PySem.W.fnOf "keep_result" "keep_result" (defArgs s_keep_result) (defBody s_keep_result) (defScope s_keep_result) .none kV_keep_result dc_keep_result pm_keep_result an_keep_result cd_keep_result ct_keep_result, f_kind_of := f_kind_of, d_kind_of := PySem.W.fnOf "kind_of" "kind_of" (defArgs s_kind_of) (defBody s_kind_of) (defScope s_kind_of) .none kV_kind_of dc_kind_of pm_kind_of an_kind_of cd_kind_of ct_kind_of, f_has_one_operand := f_has_one_operand, d_has_one_operand := PySem.W.fnOf "has_one_operand" "has_one_operand" (defArgs s_has_one_operand) (defBody s_has_one_operand) (defScope s_has_one_operand) .none kV_has_one_operand dc_has_one_operand pm_has_one_operand an_has_one_operand cd_has_one_operand ct_has_one_operand, f_moved_right := f_moved_right, d_moved_right := PySem.W.fnOf "moved_right" "moved_right" (defArgs s_moved_right) (defBody s_moved_right) (defScope s_moved_right) .none kV_moved_right dc_moved_right pm_moved_right an_moved_right cd_moved_right ct_moved_right, f_widened := f_widened, d_widened := PySem.W.fnOf "widened" "widened" (defArgs s_widened) (defBody s_widened) (defScope s_widened) .none kV_widened dc_widened pm_widened an_widened cd_widened ct_widened, f_outcome_of_one := f_outcome_of_one, d_outcome_of_one := PySem.W.fnOf "outcome_of_one" "outcome_of_one" (defArgs s_outcome_of_one) (defBody s_outcome_of_one) (defScope s_outcome_of_one) .none kV_outcome_of_one dc_outcome_of_one pm_outcome_of_one an_outcome_of_one cd_outcome_of_one ct_outcome_of_one, f_push_byte := f_push_byte, d_push_byte := PySem.W.fnOf "push_byte" "push_byte" (defArgs s_push_byte) (defBody s_push_byte) (defScope s_push_byte) .none kV_push_byte dc_push_byte pm_push_byte an_push_byte cd_push_byte ct_push_byte, f_do_return := f_do_return, d_do_return := PySem.W.fnOf "do_return" "do_return" (defArgs s_do_return) (defBody s_do_return) (defScope s_do_return) .none kV_do_return dc_do_return pm_do_return an_do_return cd_do_return ct_do_return, f_do_one := f_do_one, d_do_one := PySem.W.fnOf "do_one" "do_one" (defArgs s_do_one) (defBody s_do_one) (defScope s_do_one) .none kV_do_one dc_do_one pm_do_one an_do_one cd_do_one ct_do_one, f_added := f_added, d_added := PySem.W.fnOf "added" "added" (defArgs s_added) (defBody s_added) (defScope s_added) .none kV_added dc_added pm_added an_added cd_added ct_added, f_sum_of := f_sum_of, d_sum_of := PySem.W.fnOf "sum_of" "sum_of" (defArgs s_sum_of) (defBody s_sum_of) (defScope s_sum_of) .none kV_sum_of dc_sum_of pm_sum_of an_sum_of cd_sum_of ct_sum_of, f_added_decimal := f_added_decimal, d_added_decimal := PySem.W.fnOf "added_decimal" "added_decimal" (defArgs s_added_decimal) (defBody s_added_decimal) (defScope s_added_decimal) .none kV_added_decimal dc_added_decimal pm_added_decimal an_added_decimal cd_added_decimal ct_added_decimal, f_common_bits := f_common_bits, d_common_bits := PySem.W.fnOf "common_bits" "common_bits" (defArgs s_common_bits) (defBody s_common_bits) (defScope s_common_bits) .none kV_common_bits dc_common_bits pm_common_bits an_common_bits cd_common_bits ct_common_bits, f_exclusive_or := f_exclusive_or, d_exclusive_or := PySem.W.fnOf "exclusive_or" "exclusive_or" (defArgs s_exclusive_or) (defBody s_exclusive_or) (defScope s_exclusive_or) .none kV_exclusive_or dc_exclusive_or pm_exclusive_or an_exclusive_or cd_exclusive_or ct_exclusive_or, f_outcome_of_two := f_outcome_of_two, d_outcome_of_two := PySem.W.fnOf "outcome_of_two" "outcome_of_two" (defArgs s_outcome_of_two) (defBody s_outcome_of_two) (defScope s_outcome_of_two) .none kV_outcome_of_two dc_outcome_of_two pm_outcome_of_two an_outcome_of_two cd_outcome_of_two ct_outcome_of_two, f_do_two := f_do_two, d_do_two := PySem.W.fnOf "do_two" "do_two" (defArgs s_do_two) (defBody s_do_two) (defScope s_do_two) .none kV_do_two dc_do_two pm_do_two an_do_two cd_do_two ct_do_two, f_is_instruction := f_is_instruction, d_is_instruction := PySem.W.fnOf "is_instruction" "is_instruction" (defArgs s_is_instruction) (defBody s_is_instruction) (defScope s_is_instruction) .none kV_is_instruction dc_is_instruction pm_is_instruction an_is_instruction cd_is_instruction ct_is_instruction, f_do_instruction := f_do_instruction, d_do_instruction := PySem.W.fnOf "do_instruction" "do_instruction" (defArgs s_do_instruction) (defBody s_do_instruction) (defScope s_do_instruction) .none kV_do_instruction dc_do_instruction pm_do_instruction an_do_instruction cd_do_instruction ct_do_instruction, f_goes_on := f_goes_on, d_goes_on := PySem.W.fnOf "goes_on" "goes_on" (defArgs s_goes_on) (defBody s_goes_on) (defScope s_goes_on) .none kV_goes_on dc_goes_on pm_goes_on an_goes_on cd_goes_on ct_goes_on, f_run := f_run, d_run := PySem.W.fnOf "run" "run" (defArgs s_run) (defBody s_run) (defScope s_run) .none kV_run dc_run pm_run an_run cd_run ct_run, f_interrupt := f_interrupt, d_interrupt := PySem.W.fnOf "interrupt" "interrupt" (defArgs s_interrupt) (defBody s_interrupt) (defScope s_interrupt) .none kV_interrupt dc_interrupt pm_interrupt an_interrupt cd_interrupt ct_interrupt, f_answer_call := f_answer_call, d_answer_call := PySem.W.fnOf "answer_call" "answer_call" (defArgs s_answer_call) (defBody s_answer_call) (defScope s_answer_call) .none kV_answer_call dc_answer_call pm_answer_call an_answer_call cd_answer_call ct_answer_call, f_answers := f_answers, d_answers := PySem.W.fnOf "answers" "answers" (defArgs s_answers) (defBody s_answers) (defScope s_answers) .none kV_answers dc_answers pm_answers an_answers cd_answers ct_answers, a_KEPT_BITS := a_KEPT_BITS } := {
    cl_Processor := ⟨pg_Processor, hd_Processor, po_Processor, sa_Processor⟩
    g_Processor := PySem.W.mg_of X G e_Processor
    mk_Processor := ⟨mk_Processor, a_Processor_init, i_Processor_init, kc_Processor⟩
    cl_CallReader := ⟨pg_CallReader, hd_CallReader, po_CallReader, sa_CallReader⟩
    g_CallReader := PySem.W.mg_of X G e_CallReader
    mk_CallReader := ⟨mk_CallReader, a_CallReader_init, i_CallReader_init, kc_CallReader⟩
    n_CallReader_calls := n_CallReader_calls
    n_CallReader_place := n_CallReader_place
    n_Processor_memory := n_Processor_memory
    n_Processor_registers := n_Processor_registers
    F_in_memory := fun_mk (st := s_in_memory) l_in_memory c_in_memory k_in_memory
    k_in_memory := k_in_memory
    bd_in_memory := (fun_mk (st := s_in_memory) l_in_memory c_in_memory k_in_memory).binds (ps := ["at", "n"]) fun _ _ _ _ _ _ us hl => match us, hl with | [_, _], _ => rfl
    g_in_memory := PySem.W.mg_of X G a_in_memory
    F_can_be_asked := fun_mk (st := s_can_be_asked) l_can_be_asked c_can_be_asked k_can_be_asked
    k_can_be_asked := k_can_be_asked
    bd_can_be_asked := (fun_mk (st := s_can_be_asked) l_can_be_asked c_can_be_asked k_can_be_asked).binds (ps := ["which"]) fun _ _ _ _ _ _ us hl => match us, hl with | [_], _ => rfl
    g_can_be_asked := PySem.W.mg_of X G a_can_be_asked
    F_Processor_init := fun_mk (st := s_Processor_init) l_Processor_init c_Processor_init k_Processor_init
    k_Processor_init := k_Processor_init
    bd_Processor_init := (fun_mk (st := s_Processor_init) l_Processor_init c_Processor_init k_Processor_init).binds (ps := ["self"]) fun _ _ _ _ _ _ us hl => match us, hl with | [_], _ => rfl
    m_Processor_init := ⟨a_Processor_init, i_Processor_init, k_Processor_init⟩
    F_Processor_wipe := fun_mk (st := s_Processor_wipe) l_Processor_wipe c_Processor_wipe k_Processor_wipe
    k_Processor_wipe := k_Processor_wipe
    bd_Processor_wipe := (fun_mk (st := s_Processor_wipe) l_Processor_wipe c_Processor_wipe k_Processor_wipe).binds (ps := ["self"]) fun _ _ _ _ _ _ us hl => match us, hl with | [_], _ => rfl
    m_Processor_wipe := ⟨a_Processor_wipe, i_Processor_wipe, k_Processor_wipe⟩
    F_Processor_load := fun_mk (st := s_Processor_load) l_Processor_load c_Processor_load k_Processor_load
    k_Processor_load := k_Processor_load
    bd_Processor_load := (fun_mk (st := s_Processor_load) l_Processor_load c_Processor_load k_Processor_load).binds (ps := ["self", "at", "row"]) fun _ _ _ _ _ _ us hl => match us, hl with | [_, _, _], _ => rfl
    m_Processor_load := ⟨a_Processor_load, i_Processor_load, k_Processor_load⟩
    F_Processor_look := fun_mk (st := s_Processor_look) l_Processor_look c_Processor_look k_Processor_look
    k_Processor_look := k_Processor_look
    bd_Processor_look := (fun_mk (st := s_Processor_look) l_Processor_look c_Processor_look k_Processor_look).binds (ps := ["self", "at", "n"]) fun _ _ _ _ _ _ us hl => match us, hl with | [_, _, _], _ => rfl
    m_Processor_look := ⟨a_Processor_look, i_Processor_look, k_Processor_look⟩
    F_Processor_keep := fun_mk (st := s_Processor_keep) l_Processor_keep c_Processor_keep k_Processor_keep
    k_Processor_keep := k_Processor_keep
    bd_Processor_keep := (fun_mk (st := s_Processor_keep) l_Processor_keep c_Processor_keep k_Processor_keep).binds (ps := ["self", "which", "value"]) fun _ _ _ _ _ _ us hl => match us, hl with | [_, _, _], _ => rfl
    m_Processor_keep := ⟨a_Processor_keep, i_Processor_keep, k_Processor_keep⟩
    F_Processor_put := fun_mk (st := s_Processor_put) l_Processor_put c_Processor_put k_Processor_put
    k_Processor_put := k_Processor_put
    bd_Processor_put := (fun_mk (st := s_Processor_put) l_Processor_put c_Processor_put k_Processor_put).binds (ps := ["self", "which", "value"]) fun _ _ _ _ _ _ us hl => match us, hl with | [_, _, _], _ => rfl
    m_Processor_put := ⟨a_Processor_put, i_Processor_put, k_Processor_put⟩
    F_Processor_held := fun_mk (st := s_Processor_held) l_Processor_held c_Processor_held k_Processor_held
    k_Processor_held := k_Processor_held
    bd_Processor_held := (fun_mk (st := s_Processor_held) l_Processor_held c_Processor_held k_Processor_held).binds (ps := ["self", "which"]) fun _ _ _ _ _ _ us hl => match us, hl with | [_, _], _ => rfl
    m_Processor_held := ⟨a_Processor_held, i_Processor_held, k_Processor_held⟩
    F_Processor_word_at := fun_mk (st := s_Processor_word_at) l_Processor_word_at c_Processor_word_at k_Processor_word_at
    k_Processor_word_at := k_Processor_word_at
    bd_Processor_word_at := (fun_mk (st := s_Processor_word_at) l_Processor_word_at c_Processor_word_at k_Processor_word_at).binds (ps := ["self", "at"]) fun _ _ _ _ _ _ us hl => match us, hl with | [_, _], _ => rfl
    m_Processor_word_at := ⟨a_Processor_word_at, i_Processor_word_at, k_Processor_word_at⟩
    F_Processor_keep_word := fun_mk (st := s_Processor_keep_word) l_Processor_keep_word c_Processor_keep_word k_Processor_keep_word
    k_Processor_keep_word := k_Processor_keep_word
    bd_Processor_keep_word := (fun_mk (st := s_Processor_keep_word) l_Processor_keep_word c_Processor_keep_word k_Processor_keep_word).binds (ps := ["self", "at", "word"]) fun _ _ _ _ _ _ us hl => match us, hl with | [_, _, _], _ => rfl
    m_Processor_keep_word := ⟨a_Processor_keep_word, i_Processor_keep_word, k_Processor_keep_word⟩
    F_Processor_next_word := fun_mk (st := s_Processor_next_word) l_Processor_next_word c_Processor_next_word k_Processor_next_word
    k_Processor_next_word := k_Processor_next_word
    bd_Processor_next_word := (fun_mk (st := s_Processor_next_word) l_Processor_next_word c_Processor_next_word k_Processor_next_word).binds (ps := ["self"]) fun _ _ _ _ _ _ us hl => match us, hl with | [_], _ => rfl
    m_Processor_next_word := ⟨a_Processor_next_word, i_Processor_next_word, k_Processor_next_word⟩
    F_Processor_push := fun_mk (st := s_Processor_push) l_Processor_push c_Processor_push k_Processor_push
    k_Processor_push := k_Processor_push
    bd_Processor_push := (fun_mk (st := s_Processor_push) l_Processor_push c_Processor_push k_Processor_push).binds (ps := ["self", "word"]) fun _ _ _ _ _ _ us hl => match us, hl with | [_, _], _ => rfl
    m_Processor_push := ⟨a_Processor_push, i_Processor_push, k_Processor_push⟩
    F_Processor_pull := fun_mk (st := s_Processor_pull) l_Processor_pull c_Processor_pull k_Processor_pull
    k_Processor_pull := k_Processor_pull
    bd_Processor_pull := (fun_mk (st := s_Processor_pull) l_Processor_pull c_Processor_pull k_Processor_pull).binds (ps := ["self"]) fun _ _ _ _ _ _ us hl => match us, hl with | [_], _ => rfl
    m_Processor_pull := ⟨a_Processor_pull, i_Processor_pull, k_Processor_pull⟩
    F_CallReader_init := fun_mk (st := s_CallReader_init) l_CallReader_init c_CallReader_init k_CallReader_init
    k_CallReader_init := k_CallReader_init
    bd_CallReader_init := (fun_mk (st := s_CallReader_init) l_CallReader_init c_CallReader_init k_CallReader_init).binds (ps := ["self", "calls"]) fun _ _ _ _ _ _ us hl => match us, hl with | [_, _], _ => rfl
    m_CallReader_init := ⟨a_CallReader_init, i_CallReader_init, k_CallReader_init⟩
    F_CallReader_has_more := fun_mk (st := s_CallReader_has_more) l_CallReader_has_more c_CallReader_has_more k_CallReader_has_more
    k_CallReader_has_more := k_CallReader_has_more
    bd_CallReader_has_more := (fun_mk (st := s_CallReader_has_more) l_CallReader_has_more c_CallReader_has_more k_CallReader_has_more).binds (ps := ["self"]) fun _ _ _ _ _ _ us hl => match us, hl with | [_], _ => rfl
    m_CallReader_has_more := ⟨a_CallReader_has_more, i_CallReader_has_more, k_CallReader_has_more⟩
    F_CallReader_take := fun_mk (st := s_CallReader_take) l_CallReader_take c_CallReader_take k_CallReader_take
    k_CallReader_take := k_CallReader_take
    bd_CallReader_take := (fun_mk (st := s_CallReader_take) l_CallReader_take c_CallReader_take k_CallReader_take).binds (ps := ["self"]) fun _ _ _ _ _ _ us hl => match us, hl with | [_], _ => rfl
    m_CallReader_take := ⟨a_CallReader_take, i_CallReader_take, k_CallReader_take⟩
    F_CallReader_take_row := fun_mk (st := s_CallReader_take_row) l_CallReader_take_row c_CallReader_take_row k_CallReader_take_row
    k_CallReader_take_row := k_CallReader_take_row
    bd_CallReader_take_row := (fun_mk (st := s_CallReader_take_row) l_CallReader_take_row c_CallReader_take_row k_CallReader_take_row).binds (ps := ["self"]) fun _ _ _ _ _ _ us hl => match us, hl with | [_], _ => rfl
    m_CallReader_take_row := ⟨a_CallReader_take_row, i_CallReader_take_row, k_CallReader_take_row⟩
    F_has_sign := fun_mk (st := s_has_sign) l_has_sign c_has_sign k_has_sign
    k_has_sign := k_has_sign
    bd_has_sign := (fun_mk (st := s_has_sign) l_has_sign c_has_sign k_has_sign).binds (ps := ["number", "q"]) fun _ _ _ _ _ _ us hl => match us, hl with | [_, _], _ => rfl
    g_has_sign := PySem.W.mg_of X G a_has_sign
    F_with_flags := fun_mk (st := s_with_flags) l_with_flags c_with_flags k_with_flags
    k_with_flags := k_with_flags
    bd_with_flags := (fun_mk (st := s_with_flags) l_with_flags c_with_flags k_with_flags).binds (ps := ["status", "result", "q", "carry", "overflow"]) fun _ _ _ _ _ _ us hl => match us, hl with | [_, _, _, _, _], _ => rfl
    g_with_flags := PySem.W.mg_of X G a_with_flags
    F_differ := fun_mk (st := s_differ) l_differ c_differ k_differ
    k_differ := k_differ
    bd_differ := (fun_mk (st := s_differ) l_differ c_differ k_differ).binds (ps := ["status"]) fun _ _ _ _ _ _ us hl => match us, hl with | [_], _ => rfl
    g_differ := PySem.W.mg_of X G a_differ
    F_is_taken := fun_mk (st := s_is_taken) l_is_taken c_is_taken k_is_taken
    k_is_taken := k_is_taken
    bd_is_taken := (fun_mk (st := s_is_taken) l_is_taken c_is_taken k_is_taken).binds (ps := ["k", "status"]) fun _ _ _ _ _ _ us hl => match us, hl with | [_, _], _ => rfl
    g_is_taken := PySem.W.mg_of X G a_is_taken
    F_words_on := fun_mk (st := s_words_on) l_words_on c_words_on k_words_on
    k_words_on := k_words_on
    bd_words_on := (fun_mk (st := s_words_on) l_words_on c_words_on k_words_on).binds (ps := ["word"]) fun _ _ _ _ _ _ us hl => match us, hl with | [_], _ => rfl
    g_words_on := PySem.W.mg_of X G a_words_on
    F_do_jump := fun_mk (st := s_do_jump) l_do_jump c_do_jump k_do_jump
    k_do_jump := k_do_jump
    bd_do_jump := (fun_mk (st := s_do_jump) l_do_jump c_do_jump k_do_jump).binds (ps := ["processor", "word"]) fun _ _ _ _ _ _ us hl => match us, hl with | [_, _], _ => rfl
    g_do_jump := PySem.W.mg_of X G a_do_jump
    F_numbers_below := fun_mk (st := s_numbers_below) l_numbers_below c_numbers_below k_numbers_below
    k_numbers_below := k_numbers_below
    bd_numbers_below := (fun_mk (st := s_numbers_below) l_numbers_below c_numbers_below k_numbers_below).binds (ps := ["word"]) fun _ _ _ _ _ _ us hl => match us, hl with | [_], _ => rfl
    g_numbers_below := PySem.W.mg_of X G a_numbers_below
    F_free_number := fun_mk (st := s_free_number) l_free_number c_free_number k_free_number
    k_free_number := k_free_number
    bd_free_number := (fun_mk (st := s_free_number) l_free_number c_free_number k_free_number).binds (ps := ["which", "way", "q"]) fun _ _ _ _ _ _ us hl => match us, hl with | [_, _, _], _ => rfl
    g_free_number := PySem.W.mg_of X G a_free_number
    F_beyond_register := fun_mk (st := s_beyond_register) l_beyond_register c_beyond_register k_beyond_register
    k_beyond_register := k_beyond_register
    bd_beyond_register := (fun_mk (st := s_beyond_register) l_beyond_register c_beyond_register k_beyond_register).binds (ps := ["processor", "which"]) fun _ _ _ _ _ _ us hl => match us, hl with | [_, _], _ => rfl
    g_beyond_register := PySem.W.mg_of X G a_beyond_register
    F_step_of := fun_mk (st := s_step_of) l_step_of c_step_of k_step_of
    k_step_of := k_step_of
    bd_step_of := (fun_mk (st := s_step_of) l_step_of c_step_of k_step_of).binds (ps := ["which", "q"]) fun _ _ _ _ _ _ us hl => match us, hl with | [_, _], _ => rfl
    g_step_of := PySem.W.mg_of X G a_step_of
    F_first_operand := fun_mk (st := s_first_operand) l_first_operand c_first_operand k_first_operand
    k_first_operand := k_first_operand
    bd_first_operand := (fun_mk (st := s_first_operand) l_first_operand c_first_operand k_first_operand).binds (ps := ["processor", "which", "way", "q"]) fun _ _ _ _ _ _ us hl => match us, hl with | [_, _, _, _], _ => rfl
    g_first_operand := PySem.W.mg_of X G a_first_operand
    F_second_operand := fun_mk (st := s_second_operand) l_second_operand c_second_operand k_second_operand
    k_second_operand := k_second_operand
    bd_second_operand := (fun_mk (st := s_second_operand) l_second_operand c_second_operand k_second_operand).binds (ps := ["processor", "which", "way"]) fun _ _ _ _ _ _ us hl => match us, hl with | [_, _, _], _ => rfl
    g_second_operand := PySem.W.mg_of X G a_second_operand
    F_value_of := fun_mk (st := s_value_of) l_value_of c_value_of k_value_of
    k_value_of := k_value_of
    bd_value_of := (fun_mk (st := s_value_of) l_value_of c_value_of k_value_of).binds (ps := ["processor", "operand", "q"]) fun _ _ _ _ _ _ us hl => match us, hl with | [_, _, _], _ => rfl
    g_value_of := PySem.W.mg_of X G a_value_of
    F_keep_result := fun_mk (st := s_keep_result) l_keep_result c_keep_result k_keep_result
    k_keep_result := k_keep_result
    bd_keep_result := (fun_mk (st := s_keep_result) l_keep_result c_keep_result k_keep_result).binds (ps := ["processor", "operand", "result", "q"]) fun _ _ _ _ _ _ us hl => match us, hl with | [_, _, _, _], _ => rfl
    g_keep_result := PySem.W.mg_of X G a_keep_result
    F_kind_of := fun_mk (st := s_kind_of) l_kind_of c_kind_of k_kind_of
    k_kind_of := k_kind_of
    bd_kind_of := (fun_mk (st := s_kind_of) l_kind_of c_kind_of k_kind_of).binds (ps := ["word"]) fun _ _ _ _ _ _ us hl => match us, hl with | [_], _ => rfl
    g_kind_of := PySem.W.mg_of X G a_kind_of
    F_has_one_operand := fun_mk (st := s_has_one_operand) l_has_one_operand c_has_one_operand k_has_one_operand
    k_has_one_operand := k_has_one_operand
    bd_has_one_operand := (fun_mk (st := s_has_one_operand) l_has_one_operand c_has_one_operand k_has_one_operand).binds (ps := ["word"]) fun _ _ _ _ _ _ us hl => match us, hl with | [_], _ => rfl
    g_has_one_operand := PySem.W.mg_of X G a_has_one_operand
    F_moved_right := fun_mk (st := s_moved_right) l_moved_right c_moved_right k_moved_right
    k_moved_right := k_moved_right
    bd_moved_right := (fun_mk (st := s_moved_right) l_moved_right c_moved_right k_moved_right).binds (ps := ["x", "top", "status", "q"]) fun _ _ _ _ _ _ us hl => match us, hl with | [_, _, _, _], _ => rfl
    g_moved_right := PySem.W.mg_of X G a_moved_right
    F_widened := fun_mk (st := s_widened) l_widened c_widened k_widened
    k_widened := k_widened
    bd_widened := (fun_mk (st := s_widened) l_widened c_widened k_widened).binds (ps := ["x", "status", "q"]) fun _ _ _ _ _ _ us hl => match us, hl with | [_, _, _], _ => rfl
    g_widened := PySem.W.mg_of X G a_widened
    F_outcome_of_one := fun_mk (st := s_outcome_of_one) l_outcome_of_one c_outcome_of_one k_outcome_of_one
    k_outcome_of_one := k_outcome_of_one
    bd_outcome_of_one := (fun_mk (st := s_outcome_of_one) l_outcome_of_one c_outcome_of_one k_outcome_of_one).binds (ps := ["k", "x", "status", "q"]) fun _ _ _ _ _ _ us hl => match us, hl with | [_, _, _, _], _ => rfl
    g_outcome_of_one := PySem.W.mg_of X G a_outcome_of_one
    F_push_byte := fun_mk (st := s_push_byte) l_push_byte c_push_byte k_push_byte
    k_push_byte := k_push_byte
    bd_push_byte := (fun_mk (st := s_push_byte) l_push_byte c_push_byte k_push_byte).binds (ps := ["processor", "byte"]) fun _ _ _ _ _ _ us hl => match us, hl with | [_, _], _ => rfl
    g_push_byte := PySem.W.mg_of X G a_push_byte
    F_do_return := fun_mk (st := s_do_return) l_do_return c_do_return k_do_return
    k_do_return := k_do_return
    bd_do_return := (fun_mk (st := s_do_return) l_do_return c_do_return k_do_return).binds (ps := ["processor"]) fun _ _ _ _ _ _ us hl => match us, hl with | [_], _ => rfl
    g_do_return := PySem.W.mg_of X G a_do_return
    F_do_one := fun_mk (st := s_do_one) l_do_one c_do_one k_do_one
    k_do_one := k_do_one
    bd_do_one := (fun_mk (st := s_do_one) l_do_one c_do_one k_do_one).binds (ps := ["processor", "word"]) fun _ _ _ _ _ _ us hl => match us, hl with | [_, _], _ => rfl
    g_do_one := PySem.W.mg_of X G a_do_one
    F_added := fun_mk (st := s_added) l_added c_added k_added
    k_added := k_added
    bd_added := (fun_mk (st := s_added) l_added c_added k_added).binds (ps := ["d", "s", "more", "status", "q"]) fun _ _ _ _ _ _ us hl => match us, hl with | [_, _, _, _, _], _ => rfl
    g_added := PySem.W.mg_of X G a_added
    F_sum_of := fun_mk (st := s_sum_of) l_sum_of c_sum_of k_sum_of
    k_sum_of := k_sum_of
    bd_sum_of := (fun_mk (st := s_sum_of) l_sum_of c_sum_of k_sum_of).binds (ps := ["what", "d", "s", "status", "q"]) fun _ _ _ _ _ _ us hl => match us, hl with | [_, _, _, _, _], _ => rfl
    g_sum_of := PySem.W.mg_of X G a_sum_of
    F_added_decimal := fun_mk (st := s_added_decimal) l_added_decimal c_added_decimal k_added_decimal
    k_added_decimal := k_added_decimal
    bd_added_decimal := (fun_mk (st := s_added_decimal) l_added_decimal c_added_decimal k_added_decimal).binds (ps := ["d", "s", "status", "q"]) fun _ _ _ _ _ _ us hl => match us, hl with | [_, _, _, _], _ => rfl
    g_added_decimal := PySem.W.mg_of X G a_added_decimal
    F_common_bits := fun_mk (st := s_common_bits) l_common_bits c_common_bits k_common_bits
    k_common_bits := k_common_bits
    bd_common_bits := (fun_mk (st := s_common_bits) l_common_bits c_common_bits k_common_bits).binds (ps := ["d", "s", "status", "q"]) fun _ _ _ _ _ _ us hl => match us, hl with | [_, _, _, _], _ => rfl
    g_common_bits := PySem.W.mg_of X G a_common_bits
    F_exclusive_or := fun_mk (st := s_exclusive_or) l_exclusive_or c_exclusive_or k_exclusive_or
    k_exclusive_or := k_exclusive_or
    bd_exclusive_or := (fun_mk (st := s_exclusive_or) l_exclusive_or c_exclusive_or k_exclusive_or).binds (ps := ["d", "s", "status", "q"]) fun _ _ _ _ _ _ us hl => match us, hl with | [_, _, _, _], _ => rfl
    g_exclusive_or := PySem.W.mg_of X G a_exclusive_or
    F_outcome_of_two := fun_mk (st := s_outcome_of_two) l_outcome_of_two c_outcome_of_two k_outcome_of_two
    k_outcome_of_two := k_outcome_of_two
    bd_outcome_of_two := (fun_mk (st := s_outcome_of_two) l_outcome_of_two c_outcome_of_two k_outcome_of_two).binds (ps := ["what", "d", "s", "status", "q"]) fun _ _ _ _ _ _ us hl => match us, hl with | [_, _, _, _, _], _ => rfl
    g_outcome_of_two := PySem.W.mg_of X G a_outcome_of_two
    F_do_two := fun_mk (st := s_do_two) l_do_two c_do_two k_do_two
    k_do_two := k_do_two
    bd_do_two := (fun_mk (st := s_do_two) l_do_two c_do_two k_do_two).binds (ps := ["processor", "word"]) fun _ _ _ _ _ _ us hl => match us, hl with | [_, _], _ => rfl
    g_do_two := PySem.W.mg_of X G a_do_two
    F_is_instruction := fun_mk (st := s_is_instruction) l_is_instruction c_is_instruction k_is_instruction
    k_is_instruction := k_is_instruction
    bd_is_instruction := (fun_mk (st := s_is_instruction) l_is_instruction c_is_instruction k_is_instruction).binds (ps := ["word"]) fun _ _ _ _ _ _ us hl => match us, hl with | [_], _ => rfl
    g_is_instruction := PySem.W.mg_of X G a_is_instruction
    F_do_instruction := fun_mk (st := s_do_instruction) l_do_instruction c_do_instruction k_do_instruction
    k_do_instruction := k_do_instruction
    bd_do_instruction := (fun_mk (st := s_do_instruction) l_do_instruction c_do_instruction k_do_instruction).binds (ps := ["processor", "word"]) fun _ _ _ _ _ _ us hl => match us, hl with | [_, _], _ => rfl
    g_do_instruction := PySem.W.mg_of X G a_do_instruction
    F_goes_on := fun_mk (st := s_goes_on) l_goes_on c_goes_on k_goes_on
    k_goes_on := k_goes_on
    bd_goes_on := (fun_mk (st := s_goes_on) l_goes_on c_goes_on k_goes_on).binds (ps := ["processor"]) fun _ _ _ _ _ _ us hl => match us, hl with | [_], _ => rfl
    g_goes_on := PySem.W.mg_of X G a_goes_on
    F_run := fun_mk (st := s_run) l_run c_run k_run
    k_run := k_run
    bd_run := (fun_mk (st := s_run) l_run c_run k_run).binds (ps := ["processor", "n"]) fun _ _ _ _ _ _ us hl => match us, hl with | [_, _], _ => rfl
    g_run := PySem.W.mg_of X G a_run
    F_interrupt := fun_mk (st := s_interrupt) l_interrupt c_interrupt k_interrupt
    k_interrupt := k_interrupt
    bd_interrupt := (fun_mk (st := s_interrupt) l_interrupt c_interrupt k_interrupt).binds (ps := ["processor", "vector"]) fun _ _ _ _ _ _ us hl => match us, hl with | [_, _], _ => rfl
    g_interrupt := PySem.W.mg_of X G a_interrupt
    F_answer_call := fun_mk (st := s_answer_call) l_answer_call c_answer_call k_answer_call
    k_answer_call := k_answer_call
    bd_answer_call := (fun_mk (st := s_answer_call) l_answer_call c_answer_call k_answer_call).binds (ps := ["processor", "reader"]) fun _ _ _ _ _ _ us hl => match us, hl with | [_, _], _ => rfl
    g_answer_call := PySem.W.mg_of X G a_answer_call
    F_answers := fun_mk (st := s_answers) l_answers c_answers k_answers
    k_answers := k_answers
    bd_answers := (fun_mk (st := s_answers) l_answers c_answers k_answers).binds (ps := ["calls"]) fun _ _ _ _ _ _ us hl => match us, hl with | [_], _ => rfl
    g_answers := PySem.W.mg_of X G a_answers
    c_ADD := ⟨_, PySem.W.mg_of X G c_ADD⟩
    c_ADD_DECIMAL := ⟨_, PySem.W.mg_of X G c_ADD_DECIMAL⟩
    c_ADD_WITH_CARRY := ⟨_, PySem.W.mg_of X G c_ADD_WITH_CARRY⟩
    c_ALLOWED := ⟨_, PySem.W.mg_of X G c_ALLOWED⟩
    c_BEHIND_ONE_OPERAND := ⟨_, PySem.W.mg_of X G c_BEHIND_ONE_OPERAND⟩
    c_BITS_TOGETHER := ⟨_, PySem.W.mg_of X G c_BITS_TOGETHER⟩
    c_BYTES := ⟨_, PySem.W.mg_of X G c_BYTES⟩
    c_CALL := ⟨_, PySem.W.mg_of X G c_CALL⟩
    c_CARRY := ⟨_, PySem.W.mg_of X G c_CARRY⟩
    c_CLEAR := ⟨_, PySem.W.mg_of X G c_CLEAR⟩
    c_COMMON_BITS_TEST := ⟨_, PySem.W.mg_of X G c_COMMON_BITS_TEST⟩
    c_COMPARE := ⟨_, PySem.W.mg_of X G c_COMPARE⟩
    c_DONE := ⟨_, PySem.W.mg_of X G c_DONE⟩
    c_EXCLUSIVE_OR := ⟨_, PySem.W.mg_of X G c_EXCLUSIVE_OR⟩
    c_FIRST_VECTOR := ⟨_, PySem.W.mg_of X G c_FIRST_VECTOR⟩
    c_GET := ⟨_, PySem.W.mg_of X G c_GET⟩
    c_HALVE := ⟨_, PySem.W.mg_of X G c_HALVE⟩
    c_INTERRUPT := ⟨_, PySem.W.mg_of X G c_INTERRUPT⟩
    c_INTERRUPTED := ⟨_, PySem.W.mg_of X G c_INTERRUPTED⟩
    c_IN_MEMORY := ⟨_, PySem.W.mg_of X G c_IN_MEMORY⟩
    c_IN_REGISTER := ⟨_, PySem.W.mg_of X G c_IN_REGISTER⟩
    c_JUMPS := ⟨_, PySem.W.mg_of X G c_JUMPS⟩
    c_LAST_VECTOR := ⟨_, PySem.W.mg_of X G c_LAST_VECTOR⟩
    c_LOAD := ⟨_, PySem.W.mg_of X G c_LOAD⟩
    c_LOOK := ⟨_, PySem.W.mg_of X G c_LOOK⟩
    c_MEMORY_SIZE := ⟨_, PySem.W.mg_of X G c_MEMORY_SIZE⟩
    c_MOST_INSTRUCTIONS := ⟨_, PySem.W.mg_of X G c_MOST_INSTRUCTIONS⟩
    c_MOVE := ⟨_, PySem.W.mg_of X G c_MOVE⟩
    c_NEGATIVE := ⟨_, PySem.W.mg_of X G c_NEGATIVE⟩
    c_NOTHING := ⟨_, PySem.W.mg_of X G c_NOTHING⟩
    c_NOT_ALLOWED := ⟨_, PySem.W.mg_of X G c_NOT_ALLOWED⟩
    c_ONE_OPERAND := ⟨_, PySem.W.mg_of X G c_ONE_OPERAND⟩
    c_ON_BYTES := ⟨_, PySem.W.mg_of X G c_ON_BYTES⟩
    c_OTHER_BITS := ⟨_, PySem.W.mg_of X G c_OTHER_BITS⟩
    c_OVERFLOW := ⟨_, PySem.W.mg_of X G c_OVERFLOW⟩
    c_PC := ⟨_, PySem.W.mg_of X G c_PC⟩
    c_PLAIN_NUMBER := ⟨_, PySem.W.mg_of X G c_PLAIN_NUMBER⟩
    c_PUSH := ⟨_, PySem.W.mg_of X G c_PUSH⟩
    c_REFUSED := ⟨_, PySem.W.mg_of X G c_REFUSED⟩
    c_RETURN := ⟨_, PySem.W.mg_of X G c_RETURN⟩
    c_RETURN_WORD := ⟨_, PySem.W.mg_of X G c_RETURN_WORD⟩
    c_ROTATE := ⟨_, PySem.W.mg_of X G c_ROTATE⟩
    c_RUN := ⟨_, PySem.W.mg_of X G c_RUN⟩
    c_SET := ⟨_, PySem.W.mg_of X G c_SET⟩
    c_SP := ⟨_, PySem.W.mg_of X G c_SP⟩
    c_SR := ⟨_, PySem.W.mg_of X G c_SR⟩
    c_STOPPED := ⟨_, PySem.W.mg_of X G c_STOPPED⟩
    c_SUBTRACT_WITH_CARRY := ⟨_, PySem.W.mg_of X G c_SUBTRACT_WITH_CARRY⟩
    c_SWAP_BYTES := ⟨_, PySem.W.mg_of X G c_SWAP_BYTES⟩
    c_TWO_OPERANDS := ⟨_, PySem.W.mg_of X G c_TWO_OPERANDS⟩
    c_WIDEN_SIGN := ⟨_, PySem.W.mg_of X G c_WIDEN_SIGN⟩
    c_WITHOUT_BITS := ⟨_, PySem.W.mg_of X G c_WITHOUT_BITS⟩
    c_WORDS := ⟨_, PySem.W.mg_of X G c_WORDS⟩
    c_WORD_PLACE := ⟨_, PySem.W.mg_of X G c_WORD_PLACE⟩
    c_ZERO := ⟨_, PySem.W.mg_of X G c_ZERO⟩
    c_ZERO_RESULT := ⟨_, PySem.W.mg_of X G c_ZERO_RESULT⟩
    g_KEPT_BITS := PySem.W.mg_of X G g_KEPT_BITS
    v_KEPT_BITS := fun H => .inr ⟨_, _, _, v_KEPT_BITS, rfl, rfl, (by show 16 ≤ sizeLine; decide), (.cons ⟨_, rfl⟩ (.cons ⟨_, rfl⟩ (.cons ⟨_, rfl⟩ (.cons ⟨_, rfl⟩ (.cons ⟨_, rfl⟩ (.cons ⟨_, rfl⟩ (.cons ⟨_, rfl⟩ (.cons ⟨_, rfl⟩ (.cons ⟨_, rfl⟩ (.cons ⟨_, rfl⟩ (.cons ⟨_, rfl⟩ (.cons ⟨_, rfl⟩ (.cons ⟨_, rfl⟩ (.cons ⟨_, rfl⟩ (.cons ⟨_, rfl⟩ (.cons ⟨_, rfl⟩ .nil))))))))))))))))⟩
    b_enumerate := PySem.W.mg_none_of X G b_enumerate
    b_len := PySem.W.mg_none_of X G b_len }
  exact ⟨_, fun s us hu => match us, hu with | [_], _ => .of_eq rfl, fun base _ _ => ok_answers T⟩
end Wr
open PySem PySem.W PyProof.Rows
set_option maxRecDepth 100000 in
set_option maxHeartbeats 0 in
theorem PySem.Challenge.cw_wordrunnerdesk_s01_answers_holds : PySem.Challenge.rw_wordrunnerdesk_s01_answers.Holds := by
  w_on
  refine holds_os (q := WrA.qV) (loose := []) (Xt := WrA.Xt) (XP := XL WrA.qV []) (Yf := (kHook WrA.cap.heap_1 WrA.keptAt WrA.kept_ok).obs) (Ya := (kHook WrA.cap.heap_1 WrA.keptAt WrA.kept_ok).val) (YP := (kHook WrA.cap.heap_1 WrA.keptAt WrA.kept_ok).says) (N := 5936) WrA.left_all (kHook WrA.cap.heap_1 WrA.keptAt WrA.kept_ok).of (kHook WrA.cap.heap_1 WrA.keptAt WrA.kept_ok).keeps (fun s e => xl_of s (Bool.and_eq_true_iff.mp e).1) XL.keeps (by rfl) (by rfl) (by rfl) (fun s e => recFacts_of (Bool.and_eq_true_iff.mp e).2) os_shapes (by first | assumption | decide +kernel) (by decide +kernel) ⟨rfl, rfl, rfl, rfl, rfl, by decide +kernel⟩ ⟨[.list [.int 1]], by decide +kernel, by decide +kernel⟩ ?hc
  refine L2.walk_specK (r := PySem.Challenge.rw_wordrunnerdesk_s01_answers) (k := 11) (CX := L2.CX0) (ps := ["calls"]) (sp := Wr.sp_answers) (by decide +kernel) rfl rfl ⟨rfl, by decide, by decide⟩ (fun w h Y => PySem.W.kIn_of Y) ?F ?S (fun _ _ _ _ z => z)
  case F =>
    intro w mg fa h Y KX G hmg
    refine' Wr.all_mk KX G hmg ?e_Processor ?pg_Processor ?hd_Processor ?po_Processor ?sa_Processor ?mk_Processor ?kc_Processor ?e_CallReader ?pg_CallReader ?hd_CallReader ?po_CallReader ?sa_CallReader ?mk_CallReader ?kc_CallReader ?n_CallReader_calls ?n_CallReader_place ?n_Processor_memory ?n_Processor_registers ?a_in_memory ?l_in_memory ?c_in_memory ?k_in_memory ?a_can_be_asked ?l_can_be_asked ?c_can_be_asked ?k_can_be_asked ?a_Processor_init ?i_Processor_init ?l_Processor_init ?c_Processor_init ?k_Processor_init ?a_Processor_wipe ?i_Processor_wipe ?l_Processor_wipe ?c_Processor_wipe ?k_Processor_wipe ?a_Processor_load ?i_Processor_load ?l_Processor_load ?c_Processor_load ?k_Processor_load ?a_Processor_look ?i_Processor_look ?l_Processor_look ?c_Processor_look ?k_Processor_look ?a_Processor_keep ?i_Processor_keep ?l_Processor_keep ?c_Processor_keep ?k_Processor_keep ?a_Processor_put ?i_Processor_put ?l_Processor_put ?c_Processor_put ?k_Processor_put ?a_Processor_held ?i_Processor_held ?l_Processor_held ?c_Processor_held ?k_Processor_held ?a_Processor_word_at ?i_Processor_word_at ?l_Processor_word_at ?c_Processor_word_at ?k_Processor_word_at ?a_Processor_keep_word ?i_Processor_keep_word ?l_Processor_keep_word ?c_Processor_keep_word ?k_Processor_keep_word ?a_Processor_next_word ?i_Processor_next_word ?l_Processor_next_word ?c_Processor_next_word ?k_Processor_next_word ?a_Processor_push ?i_Processor_push ?l_Processor_push ?c_Processor_push ?k_Processor_push ?a_Processor_pull ?i_Processor_pull ?l_Processor_pull ?c_Processor_pull ?k_Processor_pull ?a_CallReader_init ?i_CallReader_init ?l_CallReader_init ?c_CallReader_init ?k_CallReader_init ?a_CallReader_has_more ?i_CallReader_has_more ?l_CallReader_has_more ?c_CallReader_has_more ?k_CallReader_has_more ?a_CallReader_take ?i_CallReader_take ?l_CallReader_take ?c_CallReader_take ?k_CallReader_take ?a_CallReader_take_row ?i_CallReader_take_row ?l_CallReader_take_row ?c_CallReader_take_row ?k_CallReader_take_row ?a_has_sign ?l_has_sign ?c_has_sign ?k_has_sign ?a_with_flags ?l_with_flags ?c_with_flags ?k_with_flags ?a_differ ?l_differ ?c_differ ?k_differ ?a_is_taken ?l_is_taken ?c_is_taken ?k_is_taken ?a_words_on ?l_words_on ?c_words_on ?k_words_on ?a_do_jump ?l_do_jump ?c_do_jump ?k_do_jump ?a_numbers_below ?l_numbers_below ?c_numbers_below ?k_numbers_below ?a_free_number ?l_free_number ?c_free_number ?k_free_number ?a_beyond_register ?l_beyond_register ?c_beyond_register ?k_beyond_register ?a_step_of ?l_step_of ?c_step_of ?k_step_of ?a_first_operand ?l_first_operand ?c_first_operand ?k_first_operand ?a_second_operand ?l_second_operand ?c_second_operand ?k_second_operand ?a_value_of ?l_value_of ?c_value_of ?k_value_of ?a_keep_result ?l_keep_result ?c_keep_result ?k_keep_result ?a_kind_of ?l_kind_of ?c_kind_of ?k_kind_of ?a_has_one_operand ?l_has_one_operand ?c_has_one_operand ?k_has_one_operand ?a_moved_right ?l_moved_right ?c_moved_right ?k_moved_right ?a_widened ?l_widened ?c_widened ?k_widened ?a_outcome_of_one ?l_outcome_of_one ?c_outcome_of_one ?k_outcome_of_one ?a_push_byte ?l_push_byte ?c_push_byte ?k_push_byte ?a_do_return ?l_do_return ?c_do_return ?k_do_return ?a_do_one ?l_do_one ?c_do_one ?k_do_one ?a_added ?l_added ?c_added ?k_added ?a_sum_of ?l_sum_of ?c_sum_of ?k_sum_of ?a_added_decimal ?l_added_decimal ?c_added_decimal ?k_added_decimal ?a_common_bits ?l_common_bits ?c_common_bits ?k_common_bits ?a_exclusive_or ?l_exclusive_or ?c_exclusive_or ?k_exclusive_or ?a_outcome_of_two ?l_outcome_of_two ?c_outcome_of_two ?k_outcome_of_two ?a_do_two ?l_do_two ?c_do_two ?k_do_two ?a_is_instruction ?l_is_instruction ?c_is_instruction ?k_is_instruction ?a_do_instruction ?l_do_instruction ?c_do_instruction ?k_do_instruction ?a_goes_on ?l_goes_on ?c_goes_on ?k_goes_on ?a_run ?l_run ?c_run ?k_run ?a_interrupt ?l_interrupt ?c_interrupt ?k_interrupt ?a_answer_call ?l_answer_call ?c_answer_call ?k_answer_call ?a_answers ?l_answers ?c_answers ?k_answers ?c_ADD ?c_ADD_DECIMAL ?c_ADD_WITH_CARRY ?c_ALLOWED ?c_BEHIND_ONE_OPERAND ?c_BITS_TOGETHER ?c_BYTES ?c_CALL ?c_CARRY ?c_CLEAR ?c_COMMON_BITS_TEST ?c_COMPARE ?c_DONE ?c_EXCLUSIVE_OR ?c_FIRST_VECTOR ?c_GET ?c_HALVE ?c_INTERRUPT ?c_INTERRUPTED ?c_IN_MEMORY ?c_IN_REGISTER ?c_JUMPS ?c_LAST_VECTOR ?c_LOAD ?c_LOOK ?c_MEMORY_SIZE ?c_MOST_INSTRUCTIONS ?c_MOVE ?c_NEGATIVE ?c_NOTHING ?c_NOT_ALLOWED ?c_ONE_OPERAND ?c_ON_BYTES ?c_OTHER_BITS ?c_OVERFLOW ?c_PC ?c_PLAIN_NUMBER ?c_PUSH ?c_REFUSED ?c_RETURN ?c_RETURN_WORD ?c_ROTATE ?c_RUN ?c_SET ?c_SP ?c_SR ?c_STOPPED ?c_SUBTRACT_WITH_CARRY ?c_SWAP_BYTES ?c_TWO_OPERANDS ?c_WIDEN_SIGN ?c_WITHOUT_BITS ?c_WORDS ?c_WORD_PLACE ?c_ZERO ?c_ZERO_RESULT ?g_KEPT_BITS ?v_KEPT_BITS ?b_enumerate ?b_len
    (case e_Processor => k_is)
    (case pg_Processor => k_is)
    (case hd_Processor => k_is)
    (case po_Processor => k_is)
    (case sa_Processor => k_is)
    (case mk_Processor => k_is)
    (case kc_Processor => k_is)
    (case e_CallReader => k_is)
    (case pg_CallReader => k_is)
    (case hd_CallReader => k_is)
    (case po_CallReader => k_is)
    (case sa_CallReader => k_is)
    (case mk_CallReader => k_is)
    (case kc_CallReader => k_is)
    (case n_CallReader_calls => k_is)
    (case n_CallReader_place => k_is)
    (case n_Processor_memory => k_is)
    (case n_Processor_registers => k_is)
    (case a_in_memory => k_is)
    (case l_in_memory => k_is)
    (case c_in_memory => k_is)
    (case k_in_memory => k_is)
    (case a_can_be_asked => k_is)
    (case l_can_be_asked => k_is)
    (case c_can_be_asked => k_is)
    (case k_can_be_asked => k_is)
    (case a_Processor_init => k_is)
    (case i_Processor_init => k_is)
    (case l_Processor_init => k_is)
    (case c_Processor_init => k_is)
    (case k_Processor_init => k_is)
    (case a_Processor_wipe => k_is)
    (case i_Processor_wipe => k_is)
    (case l_Processor_wipe => k_is)
    (case c_Processor_wipe => k_is)
    (case k_Processor_wipe => k_is)
    (case a_Processor_load => k_is)
    (case i_Processor_load => k_is)
    (case l_Processor_load => k_is)
    (case c_Processor_load => k_is)
    (case k_Processor_load => k_is)
    (case a_Processor_look => k_is)
    (case i_Processor_look => k_is)
    (case l_Processor_look => k_is)
    (case c_Processor_look => k_is)
    (case k_Processor_look => k_is)
    (case a_Processor_keep => k_is)
    (case i_Processor_keep => k_is)
    (case l_Processor_keep => k_is)
    (case c_Processor_keep => k_is)
    (case k_Processor_keep => k_is)
    (case a_Processor_put => k_is)
    (case i_Processor_put => k_is)
    (case l_Processor_put => k_is)
    (case c_Processor_put => k_is)
    (case k_Processor_put => k_is)
    (case a_Processor_held => k_is)
    (case i_Processor_held => k_is)
    (case l_Processor_held => k_is)
    (case c_Processor_held => k_is)
    (case k_Processor_held => k_is)
    (case a_Processor_word_at => k_is)
    (case i_Processor_word_at => k_is)
    (case l_Processor_word_at => k_is)
    (case c_Processor_word_at => k_is)
    (case k_Processor_word_at => k_is)
    (case a_Processor_keep_word => k_is)
    (case i_Processor_keep_word => k_is)
    (case l_Processor_keep_word => k_is)
    (case c_Processor_keep_word => k_is)
    (case k_Processor_keep_word => k_is)
    (case a_Processor_next_word => k_is)
    (case i_Processor_next_word => k_is)
    (case l_Processor_next_word => k_is)
    (case c_Processor_next_word => k_is)
    (case k_Processor_next_word => k_is)
    (case a_Processor_push => k_is)
    (case i_Processor_push => k_is)
    (case l_Processor_push => k_is)
    (case c_Processor_push => k_is)
    (case k_Processor_push => k_is)
    (case a_Processor_pull => k_is)
    (case i_Processor_pull => k_is)
    (case l_Processor_pull => k_is)
    (case c_Processor_pull => k_is)
    (case k_Processor_pull => k_is)
    (case a_CallReader_init => k_is)
    (case i_CallReader_init => k_is)
    (case l_CallReader_init => k_is)
    (case c_CallReader_init => k_is)
    (case k_CallReader_init => k_is)
    (case a_CallReader_has_more => k_is)
    (case i_CallReader_has_more => k_is)
    (case l_CallReader_has_more => k_is)
    (case c_CallReader_has_more => k_is)
    (case k_CallReader_has_more => k_is)
    (case a_CallReader_take => k_is)
    (case i_CallReader_take => k_is)
    (case l_CallReader_take => k_is)
    (case c_CallReader_take => k_is)
    (case k_CallReader_take => k_is)
    (case a_CallReader_take_row => k_is)
    (case i_CallReader_take_row => k_is)
    (case l_CallReader_take_row => k_is)
    (case c_CallReader_take_row => k_is)
    (case k_CallReader_take_row => k_is)
    (case a_has_sign => k_is)
    (case l_has_sign => k_is)
    (case c_has_sign => k_is)
    (case k_has_sign => k_is)
    (case a_with_flags => k_is)
    (case l_with_flags => k_is)
    (case c_with_flags => k_is)
    (case k_with_flags => k_is)
    (case a_differ => k_is)
    (case l_differ => k_is)
    (case c_differ => k_is)
    (case k_differ => k_is)
    (case a_is_taken => k_is)
    (case l_is_taken => k_is)
    (case c_is_taken => k_is)
    (case k_is_taken => k_is)
    (case a_words_on => k_is)
    (case l_words_on => k_is)
    (case c_words_on => k_is)
    (case k_words_on => k_is)
    (case a_do_jump => k_is)
    (case l_do_jump => k_is)
    (case c_do_jump => k_is)
    (case k_do_jump => k_is)
    (case a_numbers_below => k_is)
    (case l_numbers_below => k_is)
    (case c_numbers_below => k_is)
    (case k_numbers_below => k_is)
    (case a_free_number => k_is)
    (case l_free_number => k_is)
    (case c_free_number => k_is)
    (case k_free_number => k_is)
    (case a_beyond_register => k_is)
    (case l_beyond_register => k_is)
    (case c_beyond_register => k_is)
    (case k_beyond_register => k_is)
    (case a_step_of => k_is)
    (case l_step_of => k_is)
    (case c_step_of => k_is)
    (case k_step_of => k_is)
    (case a_first_operand => k_is)
    (case l_first_operand => k_is)
    (case c_first_operand => k_is)
    (case k_first_operand => k_is)
    (case a_second_operand => k_is)
    (case l_second_operand => k_is)
    (case c_second_operand => k_is)
    (case k_second_operand => k_is)
    (case a_value_of => k_is)
    (case l_value_of => k_is)
    (case c_value_of => k_is)
    (case k_value_of => k_is)
    (case a_keep_result => k_is)
    (case l_keep_result => k_is)
    (case c_keep_result => k_is)
    (case k_keep_result => k_is)
    (case a_kind_of => k_is)
    (case l_kind_of => k_is)
    (case c_kind_of => k_is)
    (case k_kind_of => k_is)
    (case a_has_one_operand => k_is)
    (case l_has_one_operand => k_is)
    (case c_has_one_operand => k_is)
    (case k_has_one_operand => k_is)
    (case a_moved_right => k_is)
    (case l_moved_right => k_is)
    (case c_moved_right => k_is)
    (case k_moved_right => k_is)
    (case a_widened => k_is)
    (case l_widened => k_is)
    (case c_widened => k_is)
    (case k_widened => k_is)
    (case a_outcome_of_one => k_is)
    (case l_outcome_of_one => k_is)
    (case c_outcome_of_one => k_is)
    (case k_outcome_of_one => k_is)
    (case a_push_byte => k_is)
    (case l_push_byte => k_is)
    (case c_push_byte => k_is)
    (case k_push_byte => k_is)
    (case a_do_return => k_is)
    (case l_do_return => k_is)
    (case c_do_return => k_is)
    (case k_do_return => k_is)
    (case a_do_one => k_is)
    (case l_do_one => k_is)
    (case c_do_one => k_is)
    (case k_do_one => k_is)
    (case a_added => k_is)
    (case l_added => k_is)
    (case c_added => k_is)
    (case k_added => k_is)
    (case a_sum_of => k_is)
    (case l_sum_of => k_is)
    (case c_sum_of => k_is)
    (case k_sum_of => k_is)
    (case a_added_decimal => k_is)
    (case l_added_decimal => k_is)
    (case c_added_decimal => k_is)
    (case k_added_decimal => k_is)
    (case a_common_bits => k_is)
    (case l_common_bits => k_is)
    (case c_common_bits => k_is)
    (case k_common_bits => k_is)
    (case a_exclusive_or => k_is)
    (case l_exclusive_or => k_is)
    (case c_exclusive_or => k_is)
    (case k_exclusive_or => k_is)
    (case a_outcome_of_two => k_is)
    (case l_outcome_of_two => k_is)
    (case c_outcome_of_two => k_is)
    (case k_outcome_of_two => k_is)
    (case a_do_two => k_is)
    (case l_do_two => k_is)
    (case c_do_two => k_is)
    (case k_do_two => k_is)
    (case a_is_instruction => k_is)
    (case l_is_instruction => k_is)
    (case c_is_instruction => k_is)
    (case k_is_instruction => k_is)
    (case a_do_instruction => k_is)
    (case l_do_instruction => k_is)
    (case c_do_instruction => k_is)
    (case k_do_instruction => k_is)
    (case a_goes_on => k_is)
    (case l_goes_on => k_is)
    (case c_goes_on => k_is)
    (case k_goes_on => k_is)
    (case a_run => k_is)
    (case l_run => k_is)
    (case c_run => k_is)
    (case k_run => k_is)
    (case a_interrupt => k_is)
    (case l_interrupt => k_is)
    (case c_interrupt => k_is)
    (case k_interrupt => k_is)
    (case a_answer_call => k_is)
    (case l_answer_call => k_is)
    (case c_answer_call => k_is)
    (case k_answer_call => k_is)
    (case a_answers => k_is)
    (case l_answers => k_is)
    (case c_answers => k_is)
    (case k_answers => k_is)
    (case c_ADD => k_is)
    (case c_ADD_DECIMAL => k_is)
    (case c_ADD_WITH_CARRY => k_is)
    (case c_ALLOWED => k_is)
    (case c_BEHIND_ONE_OPERAND => k_is)
    (case c_BITS_TOGETHER => k_is)
    (case c_BYTES => k_is)
    (case c_CALL => k_is)
    (case c_CARRY => k_is)
    (case c_CLEAR => k_is)
    (case c_COMMON_BITS_TEST => k_is)
    (case c_COMPARE => k_is)
    (case c_DONE => k_is)
    (case c_EXCLUSIVE_OR => k_is)
    (case c_FIRST_VECTOR => k_is)
    (case c_GET => k_is)
    (case c_HALVE => k_is)
    (case c_INTERRUPT => k_is)
    (case c_INTERRUPTED => k_is)
    (case c_IN_MEMORY => k_is)
    (case c_IN_REGISTER => k_is)
    (case c_JUMPS => k_is)
    (case c_LAST_VECTOR => k_is)
    (case c_LOAD => k_is)
    (case c_LOOK => k_is)
    (case c_MEMORY_SIZE => k_is)
    (case c_MOST_INSTRUCTIONS => k_is)
    (case c_MOVE => k_is)
    (case c_NEGATIVE => k_is)
    (case c_NOTHING => k_is)
    (case c_NOT_ALLOWED => k_is)
    (case c_ONE_OPERAND => k_is)
    (case c_ON_BYTES => k_is)
    (case c_OTHER_BITS => k_is)
    (case c_OVERFLOW => k_is)
    (case c_PC => k_is)
    (case c_PLAIN_NUMBER => k_is)
    (case c_PUSH => k_is)
    (case c_REFUSED => k_is)
    (case c_RETURN => k_is)
    (case c_RETURN_WORD => k_is)
    (case c_ROTATE => k_is)
    (case c_RUN => k_is)
    (case c_SET => k_is)
    (case c_SP => k_is)
    (case c_SR => k_is)
    (case c_STOPPED => k_is)
    (case c_SUBTRACT_WITH_CARRY => k_is)
    (case c_SWAP_BYTES => k_is)
    (case c_TWO_OPERANDS => k_is)
    (case c_WIDEN_SIGN => k_is)
    (case c_WITHOUT_BITS => k_is)
    (case c_WORDS => k_is)
    (case c_WORD_PLACE => k_is)
    (case c_ZERO => k_is)
    (case c_ZERO_RESULT => k_is)
    (case g_KEPT_BITS => k_is)
    (case v_KEPT_BITS => k_is)
    (case b_enumerate => k_is)
    (case b_len => k_is)
  case S =>
    intro K H xs a hO hwi hask hx
    cases hx with
    | cons h1 h2 =>
      cases h2
      cases h1 with
      | lst hs ha =>
        have e := L2.ints_dw a.1 _ ha
        subst e
        exact ⟨_, a.1, rfl, hs, hask, fun H' p hp => .lst (L2.SqL.of hp) (L2.dw_ints _)⟩

