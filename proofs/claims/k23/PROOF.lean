import PyProof.Rows.All
import Wide.All
import OpenK.AllK
import Wide.FinOn
import HandS.ForMost
import HandS.IsInst
import HandS.Wide
import HandS.WideBits
import HandS.MakeKwOnly
import HandS.SlotsOwn
import PyProof.ReprRoads
import HandS.Property
import HandS.FStr
import HandS.RaiseMore
import KE.KCallOwn
import PyProof.InstNe
import PyProof.ReprLen
import PyProof.Rows.ReprOcc
import HandS.Star
import HandS.ClsMeth
import HandS.Style
import HandS.TupAny
import HandS.Deep
import KE.KRevSl
import KE.GoesMore
import HandS.Iter
import HandS.Codes
import HandS.Exc
import KE.KExcInit
import HandS.ExcInit
import KE.KExcIs
import PyProof.CallFns
import HandS.Dict
import HandS.HotCalls
import HandS.ExcInitHot
import HandS.Lambda
import HandS.Comp
import KE.KLam
import HandS.Flow
import PyProof.ExcBaseAll.LookupError
import PyProof.ExcBaseAll.ArithmeticError
import PyProof.ExcBaseAll.ValueError
import PyProof.InstStoreFacts
import HandS.EndTab
import KE.KNestM
import HandS.Conv
import HandS.RevRange
import PyProof.ReprBulk
import HandS.GenYield
import HandS.GenList
import HandS.HeadHook4
import HandS.Head2
import HandS.HeadHook3
import PySem.Challenge.RW_rungladders_k23_whole_numbers_that_show
set_option Elab.async false
set_option linter.all false
set_option maxRecDepth 100000
namespace RL
open PySem L2 PySem.Spec PyProof.Rows
end RL

namespace RL
open PySem L2 PySem.Spec PyProof.Rows
end RL

namespace RL
open PySem L2 PySem.Spec PyProof.Rows PySem.W Builtin
end RL

namespace RL
def rtN : Nat → Nat
  | 0 => 0
  | n + 1 => if (rtN n + 1) * (rtN n + 1) ≤ n + 1 then rtN n + 1 else rtN n
def rt (w : Int) : Int := (rtN w.toNat : Int)
def gc (a b : Int) : Int := (Int.gcd a b : Int)
def parts (a b c : Int) : Int × Int × Int :=
  if a = 0 then (0, b / gc c b, c / gc c b)
  else if rt (b * b + 4 * a * c) * rt (b * b + 4 * a * c) = b * b + 4 * a * c then
    (0, 2 * a / gc (rt (b * b + 4 * a * c) - b) (2 * a), (rt (b * b + 4 * a * c) - b) / gc (rt (b * b + 4 * a * c) - b) (2 * a))
  else (a / gc (gc a b) c, b / gc (gc a b) c, c / gc (gc a b) c)
end RL

namespace RL
end RL

namespace RL
end RL

namespace RL
end RL

namespace RL
open PySem L2
def ts (i : Int) : Str := Str.ofString (toString i)
end RL

set_option maxHeartbeats 1000000
namespace RL
open PySem L2 PySem.Spec PyProof.Rows PySem.W
end RL

namespace RL
end RL

namespace RL
open PySem L2
def top (i : Nat) : Stmt := PySem.Challenge.pw_rungladders_k23_whole_numbers_that_show.main.body.getD i (.Pass ⟨0, 0, 0, 0⟩)
section
variable {P : Program} {w : World} {K : PySem.W.Frag} {mg : Str → Option Value} {base : Heap}
abbrev s_law_sip : Stmt := top 86
abbrev s_law_pick : Stmt := top 87
abbrev s_law_pair : Stmt := top 88
end
end RL

namespace RL
open PySem L2
section
variable {P : Program} {w : World} {K : PySem.W.Frag} {mg : Str → Option Value} {base : Heap}
abbrev s_law_cup : Stmt := top 85
end
end RL

namespace RL
open PySem L2
section
variable {P : Program} {w : World} {K : PySem.W.Frag} {mg : Str → Option Value} {base : Heap} {tG : Tok} {aO : Addr}
abbrev s_is_integer : Stmt := top 8
abbrev s_is_integer_within : Stmt := top 9
abbrev s_is_pair_of_integers : Stmt := top 11
abbrev s_is_resistance : Stmt := top 12
abbrev s_pair_of : Stmt := top 13
abbrev s_common_divisor : Stmt := top 14
abbrev s_lowest_terms : Stmt := top 15
abbrev s_lowest_pair : Stmt := top 16
end
end RL

set_option maxHeartbeats 1000000
namespace RL
open PySem L2 PySem.Spec PyProof.Rows
open AutoSeq1 (wpAny_loadPart')
end RL

namespace RL
open PySem L2
section
variable {P : Program} {w : World} {K : PySem.W.Frag} {mg : Str → Option Value} {base : Heap} {tG t1 t2 t3 : Tok} {aO aW J C : Addr}
abbrev s_JoinedRow_init : Stmt := inClass (top 34) 0
abbrev s_is_piece : Stmt := top 37
abbrev s_checked_row : Stmt := top 36
abbrev s_matrix_and_scale : Stmt := top 38
abbrev s_shown_before : Stmt := top 39
abbrev s_piece_text : Stmt := top 41
abbrev s_piece_with_text : Stmt := top 42
end
end RL

set_option maxHeartbeats 1000000
namespace RL
open PySem L2 PySem.Spec PyProof.Rows
section
variable {P : Program} {w : World} {K : PySem.W.Frag} {mg : Str → Option Value} {base : Heap} {tG t1 t2 t3 : Tok} {aO aW J C fP fJ : Addr} {fdJ : FuncData}
abbrev s_Pattern_init : Stmt := inClass (top 35) 0
end
end RL

set_option maxHeartbeats 1000000
namespace RL
open PySem L2 PySem.Spec PyProof.Rows
section
variable {P : Program} {w : World} {K : PySem.W.Frag} {mg : Str → Option Value} {base : Heap} {tG t1 t2 t3 : Tok} {aO aW J C fP fJ : Addr} {fdJ : FuncData}
abbrev s_Pattern_call : Stmt := inClass (top 35) 1
abbrev s_Pattern_numbers : Stmt := inClass (top 35) 3
abbrev s_Pattern_add : Stmt := inClass (top 35) 4
abbrev s_Pattern_read : Stmt := inClass (top 35) 10
end
end RL

set_option maxHeartbeats 1000000
namespace RL
open PySem L2 PySem.Spec PyProof.Rows
section
variable {P : Program} {w : World} {K : PySem.W.Frag} {mg : Str → Option Value} {base : Heap} {tG t1 t2 t3 : Tok} {aO aW J C fP fJ : Addr} {fdJ : FuncData}
abbrev s_law_front : Stmt := top 90
abbrev s_law_row : Stmt := top 91
abbrev s_law_words : Stmt := top 93
abbrev s_law_end : Stmt := top 94
variable {pr gr : Addr} {fr : FuncData}
abbrev s_law_read : Stmt := top 96
end
end RL

set_option maxHeartbeats 1000000
namespace RL
open PySem L2 PySem.Spec PyProof.Rows
section
variable {P : Program} {w : World} {K : PySem.W.Frag} {mg : Str → Option Value} {base : Heap} {tG t1 t2 t3 tP tC : Tok} {aO aW J C Ce Cl fP fJ : Addr} {fdJ : FuncData}
abbrev s_square_root : Stmt := top 20
abbrev s_sign : Stmt := top 19
abbrev s_under_root : Stmt := top 50
abbrev s_equation_of_fraction : Stmt := top 52
abbrev s_simplest_equation : Stmt := top 51
end
end RL

set_option maxHeartbeats 1000000
namespace RL
open PySem L2 PySem.Spec PyProof.Rows
section
variable {P : Program} {w : World} {K : PySem.W.Frag} {mg : Str → Option Value} {base : Heap} {tG t1 t2 t3 tP tC : Tok} {aO aW J C Ce Cl fP fJ : Addr} {fdJ : FuncData}
abbrev s_Exact_init : Stmt := inClass (top 49) 0
abbrev s_Exact_fraction : Stmt := inClass (top 49) 1
abbrev s_Exact_equation : Stmt := inClass (top 49) 2
end
end RL

namespace RL
end RL

namespace RL
end RL

set_option maxHeartbeats 1000000
namespace RL
open PySem L2 PySem.Spec PyProof.Rows
section
variable {P : Program} {w : World} {K : PySem.W.Frag} {mg : Str → Option Value} {base : Heap} {tG t1 t2 t3 tP tC : Tok} {aO aW J C Ce Cl fP fJ : Addr} {fdJ : FuncData}
abbrev s_is_count : Stmt := top 10
abbrev s_pair_order : Stmt := top 17
abbrev s_check_pattern : Stmt := top 44
abbrev s_check_resistance : Stmt := top 45
abbrev s_check_count : Stmt := top 46
abbrev s_ladder_limit : Stmt := top 60
abbrev s_Ladder_init : Stmt := inClass (top 59) 0
abbrev s_Ladder_after : Stmt := inClass (top 59) 3
abbrev s_Ladder_call : Stmt := inClass (top 59) 1
abbrev s_Ladder_goes : Stmt := inClass (top 59) 5
abbrev s_Ladder_limit : Stmt := inClass (top 59) 6
end
end RL

namespace RL
end RL

namespace RL
end RL

namespace RL
end RL

namespace RL
end RL

namespace RL
end RL

set_option exponentiation.threshold 1000
namespace RL
end RL

namespace RL
end RL

namespace RL
end RL

namespace RL
end RL

namespace RL
end RL

namespace RL
end RL

namespace RL
end RL

namespace RL
end RL

namespace RL
end RL

namespace RL
end RL

namespace RL
end RL

namespace RL
end RL

namespace RL
end RL

namespace RL
end RL

namespace RL
end RL

namespace RL
end RL

namespace RL
end RL

namespace RL
end RL

namespace RL
end RL

namespace RL
end RL

namespace RL
end RL

namespace RL
end RL

namespace RL
end RL

namespace RL
end RL

namespace RL
end RL

namespace RL
end RL

namespace RL
end RL

namespace RL
end RL

namespace RL
end RL

namespace RL
end RL

namespace RL
end RL

set_option maxHeartbeats 2000000
namespace PySem
namespace RLX
open PySem.W PySem.Calls PyProof.Rows PySem.HandSPX
end RLX
end PySem

set_option maxHeartbeats 2000000
namespace RL
open PySem L2 PySem.Spec PyProof.Rows Builtin Builtin.ObjectAttr
end RL

set_option maxHeartbeats 1000000
namespace RL
open PySem L2 PySem.Spec PyProof.Rows
end RL

set_option maxHeartbeats 1000000
namespace RL
open PySem L2
end RL

set_option maxHeartbeats 2000000
namespace RL
open PySem L2 PySem.Spec PyProof.Rows
end RL

set_option maxHeartbeats 2000000
namespace RL
open PySem L2 PySem.Spec PyProof.Rows
end RL

set_option maxHeartbeats 2000000
namespace RL
open PySem L2 PySem.Spec PyProof.Rows
end RL

set_option maxHeartbeats 2000000
namespace RL
open PySem L2 PySem.Spec PyProof.Rows
end RL

set_option maxHeartbeats 2000000
namespace RL
open PySem L2 PySem.Spec PyProof.Rows
section
variable {P : Program} {w : World} {K : PySem.W.Frag} {mg : Str → Option Value} {base : Heap} {tG t1 t2 t3 tP tC : Tok} {aO aW J C Ce Cl fP fJ : Addr} {fdJ fx fe : FuncData} {gx ge : Addr}
abbrev s_beside_fraction : Stmt := top 53
abbrev s_Exact_eq : Stmt := inClass (top 49) 6
end
end RL

namespace RL
end RL

namespace RL
end RL

namespace RL
end RL

namespace RL
end RL

namespace RL
end RL

namespace RL
end RL

namespace RL
end RL

namespace RL
end RL

namespace RL
end RL

namespace RL
end RL

namespace RL
end RL

namespace RL
end RL

namespace RL
end RL

namespace RL
end RL

namespace RL
end RL

set_option maxHeartbeats 2000000
namespace RL
open PySem L2 PySem.Spec PyProof.Rows
end RL

namespace RL
open PySem L2 PySem.Spec PyProof.Rows
end RL

set_option maxHeartbeats 1000000
namespace RL
open PySem L2 PySem.Spec PyProof.Rows
section
variable {P : Program} {w : World} {K : PySem.W.Frag} {mg : Str → Option Value} {base : Heap} {tG t1 t2 t3 tP tC : Tok} {aO aW J C Ce Cl fP fJ : Addr} {fdJ : FuncData}
abbrev s_law_mixed : Stmt := top 92
end
end RL

set_option maxHeartbeats 2000000
namespace RL
open PySem L2 PySem.Spec PyProof.Rows
end RL

set_option maxHeartbeats 2000000
namespace RL
open PySem L2 PySem.Spec PyProof.Rows
end RL

namespace RL
open PySem L2 PySem.Spec PyProof.Rows
end RL

set_option maxHeartbeats 2000000
namespace RL
open PySem L2 PySem.Spec PyProof.Rows
end RL

set_option maxHeartbeats 2000000
namespace RL
open PySem L2 PySem.Spec PyProof.Rows
section
variable {P : Program} {w : World} {K : PySem.W.Frag} {mg : Str → Option Value} {base : Heap} {tG t1 t2 t3 tP tC : Tok} {aO aW J C Ce Cl gx : Addr} {fx : FuncData}
abbrev s_limit_beside : Stmt := top 55
abbrev s_Ladder_load : Stmt := inClass (top 59) 7
abbrev s_Ladder_last_stage : Stmt := inClass (top 59) 4
abbrev s_check_run : Stmt := top 74
end
end RL

set_option maxHeartbeats 4000000
namespace RL
open PySem L2 PySem.Spec PyProof.Rows
section
variable {P : Program} {w : World} {K : PySem.W.Frag} {mg : Str → Option Value} {base : Heap} {tG t1 t2 t3 tP tC : Tok} {aO aW J C Ce Cl Cg Cs : Addr}
abbrev s_squared : Stmt := top 78
abbrev s_sections_before : Stmt := top 77
abbrev s_least_number : Stmt := top 76
abbrev s_first_with : Stmt := top 83
end
end RL

set_option maxHeartbeats 4000000
namespace RL
open PySem L2 PySem.Spec PyProof.Rows
section
variable {P : Program} {w : World} {K : PySem.W.Frag} {mg : Str → Option Value} {base : Heap} {tG t1 t2 t3 tP tC : Tok} {aO aW J C Ce Cl Cg Cs : Addr}
abbrev s_first_reaching : Stmt := top 81
abbrev s_first_passing : Stmt := top 82
end
end RL

set_option maxHeartbeats 4000000
namespace RL
open PySem L2 PySem.Spec PyProof.Rows
end RL

namespace RL
end RL

namespace RL
end RL

namespace RL
open PySem L2
end RL

namespace RL
open PySem
end RL

set_option maxHeartbeats 2000000
namespace PySem
end PySem
namespace L2
open PySem PySem.Spec PyProof.Rows GenW
end L2

set_option maxHeartbeats 2000000
namespace RL
open PySem L2 PySem.Spec PyProof.Rows GenW
end RL

namespace RL
end RL

set_option maxHeartbeats 4000000
namespace RL
open PySem L2 PySem.Spec PyProof.Rows
section
variable {P : Program} {w : World} {K : PySem.W.Frag} {mg : Str → Option Value} {base : Heap} {tG t1 t2 t3 tP tC : Tok} {aO aW J C Ce Cl fP fJ : Addr} {fdJ : FuncData}
abbrev s_law_walk : Stmt := top 97
end
end RL

set_option maxHeartbeats 2000000
namespace RL
open PySem L2 PySem.Spec PyProof.Rows
end RL

set_option maxHeartbeats 4000000
namespace RL
open PySem L2 PySem.Spec PyProof.Rows
section
variable {P : Program} {w : World} {K : PySem.W.Frag} {mg : Str → Option Value} {base : Heap} {tG t1 t2 t3 tP tC : Tok} {aO aW J C Ce Cl Cg Cs pg gg pl gl : Addr} {fg fl : FuncData} {TT : List (Addr × Str)}
abbrev s_count_of : Stmt := top 80
end
end RL

set_option maxHeartbeats 1000000
namespace PySem
end PySem
namespace RL
open PySem L2 PyProof.Rows
end RL

namespace RL
open PySem L2 PySem.Spec PyProof.Rows
end RL

set_option maxHeartbeats 4000000
namespace RL
open PySem L2 PySem.Spec PyProof.Rows
section
variable {P : Program} {w : World} {K : PySem.W.Frag} {mg : Str → Option Value} {base : Heap} {tG t1 t2 t3 tP tC : Tok} {aO aW J C Ce Cl Cg Cs fL : Addr} {fdL : FuncData} {TT : List (Addr × Str)}
abbrev s_law_told : Stmt := top 95
abbrev s_law_lines : Stmt := top 98
abbrev s_law_near : Stmt := top 99
end
end RL

set_option maxHeartbeats 4000000
namespace RL
open PySem L2 PySem.Spec PyProof.Rows
section
variable {P : Program} {w : World} {K : PySem.W.Frag} {mg : Str → Option Value} {base : Heap} {tG t1 t2 t3 tP tC : Tok} {aO aW J C Ce Cl Cg Cs fL fP : Addr} {fdL : FuncData} {TT : List (Addr × Str)}
abbrev s_law_far : Stmt := top 100
abbrev s_law_right : Stmt := top 101
abbrev s_law : Stmt := top 102
end
end RL

namespace RL
open PySem L2
end RL

set_option maxHeartbeats 2000000
namespace RL
open PySem PySem.Spec PyProof.Rows L2 He
abbrev Ad : Type := PySem.W.Frag → Addr
def rcA (a : Ad) (s : String) : Ad := fun K => match PySem.W.recIn K (a K) s with
  | some (.ref f :: _) => f
  | _ => 0
def glA (x : Str) : Ad := fun K => ga K x
def meA (a : Ad) (m : Str) : Ad := fun K => ma K (a K) m
def cdA (a : Ad) : Ad := fun K => match K.lookup (a K) with
  | some ⟨_, _, .func fd, _⟩ => (match fd.code with
    | .ref c => c
    | _ => 0)
  | _ => 0
def tbA (a : Ad) : Ad := fun K => tabOf K (a K)
def intB (x : Str) (i : Int) (K : PySem.W.Frag) : Bool := match PySem.W.nsIn K mainGlobals x with
  | some (some (.int j _)) => decide (j = i)
  | _ => false
def recB (a f : Ad) (s : String) (K : PySem.W.Frag) : Bool := match PySem.W.recIn K (a K) s with
  | some (.ref g :: _) => decide (g = f K)
  | _ => false
def codeB (f : Ad) (q : Str) (K : PySem.W.Frag) : Bool := match K.lookup (f K) with
  | some ⟨_, _, .func fd, _⟩ => PySem.W.codeIn K fd.code q
  | _ => false
def fnV (f : Ad) (K : PySem.W.Frag) : FnV := match K.lookup (f K) with
  | some ⟨_, _, .func fd, _⟩ => some (fd.name, fd.qualname, fd.params, fd.body, fd.scope, fd.globals, fd.closure, fd.defaults, fd.builtins)
  | _ => none
structure DnH where
  at_ : Ad
  name : Str
  qual : Str
  st : Stmt
def DnH.val (d : DnH) : FnV := some (d.name, d.qual, defArgs d.st, .stmts (defBody d.st), defScope d.st, mainGlobals, [], .none, builtinsNs)
def tup2i (a : Ad) (i j : Int) (K : PySem.W.Frag) : Bool := match K.lookup (a K) with
  | some ⟨t, _, .seq vs _, _⟩ => decide (t = .type "tuple") && (match vs.toList with
    | [.int x _, .int y _] => decide (x = i) && decide (y = j)
    | _ => false)
  | _ => false
def tup2s (a : Ad) (i j : Str) (K : PySem.W.Frag) : Bool := match K.lookup (a K) with
  | some ⟨t, _, .seq vs _, _⟩ => decide (t = .type "tuple") && (match vs.toList with
    | [.str x _, .str y _] => decide (x = i) && decide (y = j)
    | _ => false)
  | _ => false
def smA (a : Ad) (m : Str) : Ad := fun K => match PySem.W.findCls K (.ref (a K)) (.type "type") m with
  | some (.get _ (.ref p) _ _) => p
  | _ => 0
def smB (a p : Ad) (m : Str) (K : PySem.W.Frag) : Bool := match PySem.W.findCls K (.ref (a K)) (.type "type") m with
  | some (.get g (.ref q) z (.ref c)) => decide (g = .builtin "staticmethod.__get__") && (decide (q = p K) && (decide (z = .none) && decide (c = a K)))
  | _ => false
def tabsZ (g : Addr → Option Obj) (tf : List Ad) (K : PySem.W.Frag) : Bool := tf.all fun p => PySem.W.codeHdIn K (cdA p K) (tbA (cdA p) K) && (match g (tbA (cdA p) K) with
  | some o => emptyTab o
  | none => false)
abbrev AlZ : Type := List FnV × Bool × Bool
def obsK (fn : List DnH) (tf : List Ad) (ex : List (PySem.W.Frag → Bool)) (g : Addr → Option Obj) (K : PySem.W.Frag) : AlZ := (fn.map (fun d => fnV d.at_ K), (ex.all fun e => e K), tabsZ g tf K)
def obsZ (n : List Addr) (fn : List DnH) (tf : List Ad) (ex : List (PySem.W.Frag → Bool)) (g : Addr → Option Obj) : AlZ := obsK fn tf ex g (frT g n)
def valZ (fn : List DnH) : AlZ := (fn.map DnH.val, true, true)
end RL

set_option maxHeartbeats 2000000
namespace RL
open PySem PySem.Spec PyProof.Rows L2 He
abbrev Tz : Type := Ad × List Str
abbrev AlW : Type := AlZ × List (Option (List (Option (Str × Int))))
def obsW (n : List Addr) (fn : List DnH) (tf : List Ad) (ex : List (PySem.W.Frag → Bool)) (ts : List Tz) (g : Addr → Option Obj) : AlW := (obsZ n fn tf ex g, ts.map fun t => dicW (frT g n) (t.1 (frT g n)))
def valW (fn : List DnH) (ts : List Tz) (w : World) : AlW := (valZ fn, ts.map fun t => some (keysIn w.params t.2))
end RL

set_option maxHeartbeats 0
namespace RL
open PySem PySem.Spec PyProof.Rows L2 He
def e0 : PySem.W.Frag → Bool := fun K => intB "GREATEST" 1000000000000 K
def e1 : PySem.W.Frag → Bool := fun K => intB "MOST_OHMS" 12 K
def e2 : PySem.W.Frag → Bool := fun K => intB "MOST_PIECES" 4 K
def e3 : PySem.W.Frag → Bool := fun K => intB "MOST_JOINED" 8 K
def A_aO : Ad := glA "OPEN"
def e4 : PySem.W.Frag → Bool := fun K => decide (PySem.W.nsIn K mainGlobals "OPEN" = some (some (.ref (A_aO K))))
def e5 : PySem.W.Frag → Bool := fun K => tup2i A_aO 1 0 K
def A_aW : Ad := glA "WORDS"
def e6 : PySem.W.Frag → Bool := fun K => decide (PySem.W.nsIn K mainGlobals "WORDS" = some (some (.ref (A_aW K))))
def e7 : PySem.W.Frag → Bool := fun K => tup2s A_aW (Str.ofString "rail") (Str.ofString "rung") K
def A_J : Ad := glA "JoinedRow"
def e8 : PySem.W.Frag → Bool := fun K => decide (PySem.W.nsIn K mainGlobals "JoinedRow" = some (some (.ref (A_J K))))
def e9 : PySem.W.Frag → Bool := fun K => PySem.W.plainGet K (A_J K) Str.empty
def e10 : PySem.W.Frag → Bool := fun K => PySem.W.hasDictIn K (A_J K)
def e11 : PySem.W.Frag → Bool := fun K => PySem.W.plainOver K (A_J K)
def e12 : PySem.W.Frag → Bool := fun K => decide (PySem.W.findIn K (.ref (A_J K)) "__setattr__" = some (some (.builtin "object.__setattr__")))
def e13 : PySem.W.Frag → Bool := fun K => PySem.W.makesIn K (A_J K)
def e14 : PySem.W.Frag → Bool := fun K => PySem.W.keepIn K (.ref (A_J K))
def e15 : PySem.W.Frag → Bool := fun K => decide (PySem.W.findIn K (.ref (A_J K)) "row" = some none)
def e16 : PySem.W.Frag → Bool := fun K => decide (PySem.W.findIn K (.ref (A_J K)) "__class__" = some (some (.builtin "object.__class__")))
def e17 : PySem.W.Frag → Bool := fun K => decide (PySem.W.mroIn K (A_J K) (.type "object") = some true)
def e18 : PySem.W.Frag → Bool := fun K => decide (PySem.W.specialIn K (.builtin "object.__class__") "__get__" = some (some (.builtin "getset_descriptor.__get__")))
def e19 : PySem.W.Frag → Bool := fun K => decide (PySem.W.takesIn K (.builtin "object.__class__") = some true)
def A_C : Ad := glA "Pattern"
def e20 : PySem.W.Frag → Bool := fun K => decide (PySem.W.nsIn K mainGlobals "Pattern" = some (some (.ref (A_C K))))
def e21 : PySem.W.Frag → Bool := fun K => PySem.W.plainGet K (A_C K) Str.empty
def e22 : PySem.W.Frag → Bool := fun K => PySem.W.hasDictIn K (A_C K)
def e23 : PySem.W.Frag → Bool := fun K => PySem.W.plainOver K (A_C K)
def e24 : PySem.W.Frag → Bool := fun K => decide (PySem.W.findIn K (.ref (A_C K)) "__setattr__" = some (some (.builtin "object.__setattr__")))
def e25 : PySem.W.Frag → Bool := fun K => PySem.W.makesIn K (A_C K)
def e26 : PySem.W.Frag → Bool := fun K => PySem.W.keepIn K (.ref (A_C K))
def e27 : PySem.W.Frag → Bool := fun K => decide (PySem.W.findIn K (.ref (A_C K)) "row" = some none)
def e28 : PySem.W.Frag → Bool := fun K => decide (PySem.W.findIn K (.ref (A_C K)) "matrix" = some none)
def e29 : PySem.W.Frag → Bool := fun K => decide (PySem.W.findIn K (.ref (A_C K)) "scale" = some none)
def e30 : PySem.W.Frag → Bool := fun K => decide (PySem.W.findIn K (.ref (A_C K)) "four" = some none)
def e31 : PySem.W.Frag → Bool := fun K => decide (PySem.W.kitOne K (.type "tuple") (.ref (A_J K)) = some false)
def e32 : PySem.W.Frag → Bool := fun K => PySem.W.selfFirst K (A_C K)
def e33 : PySem.W.Frag → Bool := fun K => PySem.W.readsIn K (A_C K) (.type "type")
def e34 : PySem.W.Frag → Bool := fun K => decide (PySem.W.specialIn K (.ref (A_C K)) "__getattribute__" = some (some (.builtin "type.__getattribute__")))
def A_f_JoinedRow_init : Ad := meA A_J "__init__"
def e35 : PySem.W.Frag → Bool := fun K => decide (PySem.W.findIn K (.ref (A_J K)) "__init__" = some (some (.ref (A_f_JoinedRow_init K))))
def e36 : PySem.W.Frag → Bool := fun K => PySem.W.isFn K (.ref (A_f_JoinedRow_init K))
def e37 : PySem.W.Frag → Bool := fun K => codeB A_f_JoinedRow_init "JoinedRow.__init__" K
def d0 : DnH := ⟨A_f_JoinedRow_init, "__init__", "JoinedRow.__init__", s_JoinedRow_init⟩
def e38 : PySem.W.Frag → Bool := fun K => PySem.W.keepIn K (.ref (A_f_JoinedRow_init K))
def A_f_Pattern_init : Ad := meA A_C "__init__"
def e39 : PySem.W.Frag → Bool := fun K => decide (PySem.W.findIn K (.ref (A_C K)) "__init__" = some (some (.ref (A_f_Pattern_init K))))
def e40 : PySem.W.Frag → Bool := fun K => PySem.W.isFn K (.ref (A_f_Pattern_init K))
def e41 : PySem.W.Frag → Bool := fun K => codeB A_f_Pattern_init "Pattern.__init__" K
def d1 : DnH := ⟨A_f_Pattern_init, "__init__", "Pattern.__init__", s_Pattern_init⟩
def e42 : PySem.W.Frag → Bool := fun K => PySem.W.keepIn K (.ref (A_f_Pattern_init K))
def A_f_Pattern_call : Ad := meA A_C "__call__"
def e43 : PySem.W.Frag → Bool := fun K => decide (PySem.W.findIn K (.ref (A_C K)) "__call__" = some (some (.ref (A_f_Pattern_call K))))
def e44 : PySem.W.Frag → Bool := fun K => PySem.W.isFn K (.ref (A_f_Pattern_call K))
def e45 : PySem.W.Frag → Bool := fun K => codeB A_f_Pattern_call "Pattern.__call__" K
def d2 : DnH := ⟨A_f_Pattern_call, "__call__", "Pattern.__call__", s_Pattern_call⟩
def e46 : PySem.W.Frag → Bool := fun K => PySem.W.keepIn K (.ref (A_f_Pattern_call K))
def e47 : PySem.W.Frag → Bool := fun K => PySem.W.fnIn K (A_f_Pattern_call K)
def A_f_Pattern_add : Ad := meA A_C "__add__"
def e48 : PySem.W.Frag → Bool := fun K => decide (PySem.W.findIn K (.ref (A_C K)) "__add__" = some (some (.ref (A_f_Pattern_add K))))
def e49 : PySem.W.Frag → Bool := fun K => PySem.W.isFn K (.ref (A_f_Pattern_add K))
def e50 : PySem.W.Frag → Bool := fun K => codeB A_f_Pattern_add "Pattern.__add__" K
def d3 : DnH := ⟨A_f_Pattern_add, "__add__", "Pattern.__add__", s_Pattern_add⟩
def e51 : PySem.W.Frag → Bool := fun K => PySem.W.keepIn K (.ref (A_f_Pattern_add K))
def A_pr_Pattern_numbers : Ad := meA A_C "numbers"
def e52 : PySem.W.Frag → Bool := fun K => decide (PySem.W.findIn K (.ref (A_C K)) "numbers" = some (some (.ref (A_pr_Pattern_numbers K))))
def e53 : PySem.W.Frag → Bool := fun K => decide (PySem.W.specialIn K (.ref (A_pr_Pattern_numbers K)) "__get__" = some (some (.builtin "property.__get__")))
def e54 : PySem.W.Frag → Bool := fun K => decide (PySem.W.takesIn K (.ref (A_pr_Pattern_numbers K)) = some true)
def A_f_Pattern_numbers : Ad := rcA A_pr_Pattern_numbers "property"
def e55 : PySem.W.Frag → Bool := fun K => recB A_pr_Pattern_numbers A_f_Pattern_numbers "property" K
def e56 : PySem.W.Frag → Bool := fun K => codeB A_f_Pattern_numbers "Pattern.numbers" K
def d4 : DnH := ⟨A_f_Pattern_numbers, "numbers", "Pattern.numbers", s_Pattern_numbers⟩
def e57 : PySem.W.Frag → Bool := fun K => PySem.W.keepIn K (.ref (A_f_Pattern_numbers K))
def A_pr_Pattern_read : Ad := smA A_C "read"
def e58 : PySem.W.Frag → Bool := fun K => smB A_C A_pr_Pattern_read "read" K
def A_f_Pattern_read : Ad := rcA A_pr_Pattern_read "staticmethod"
def e59 : PySem.W.Frag → Bool := fun K => recB A_pr_Pattern_read A_f_Pattern_read "staticmethod" K
def e60 : PySem.W.Frag → Bool := fun K => codeB A_f_Pattern_read "Pattern.read" K
def d5 : DnH := ⟨A_f_Pattern_read, "read", "Pattern.read", s_Pattern_read⟩
def e61 : PySem.W.Frag → Bool := fun K => PySem.W.keepIn K (.ref (A_f_Pattern_read K))
def e62 : PySem.W.Frag → Bool := fun K => decide (PySem.W.nsIn K mainGlobals "len" = some none)
def e63 : PySem.W.Frag → Bool := fun K => decide (PySem.W.nsIn K mainGlobals "abs" = some none)
def e64 : PySem.W.Frag → Bool := fun K => decide (PySem.W.nsIn K mainGlobals "int" = some none)
def e65 : PySem.W.Frag → Bool := fun K => decide (PySem.W.nsIn K mainGlobals "bool" = some none)
def e66 : PySem.W.Frag → Bool := fun K => decide (PySem.W.nsIn K mainGlobals "tuple" = some none)
def e67 : PySem.W.Frag → Bool := fun K => decide (PySem.W.nsIn K mainGlobals "isinstance" = some none)
def e68 : PySem.W.Frag → Bool := fun K => decide (PySem.W.nsIn K mainGlobals "divmod" = some none)
def e69 : PySem.W.Frag → Bool := fun K => decide (PySem.W.nsIn K mainGlobals "max" = some none)
def e70 : PySem.W.Frag → Bool := fun K => decide (PySem.W.nsIn K mainGlobals "min" = some none)
def e71 : PySem.W.Frag → Bool := fun K => decide (PySem.W.nsIn K mainGlobals "range" = some none)
def e72 : PySem.W.Frag → Bool := fun K => decide (PySem.W.nsIn K mainGlobals "all" = some none)
def e73 : PySem.W.Frag → Bool := fun K => decide (PySem.W.nsIn K mainGlobals "repr" = some none)
def e74 : PySem.W.Frag → Bool := fun K => decide (PySem.W.nsIn K mainGlobals "str" = some none)
def e75 : PySem.W.Frag → Bool := fun K => decide (PySem.W.nsIn K mainGlobals "enumerate" = some none)
def A_f_is_integer : Ad := glA "is_integer"
def e76 : PySem.W.Frag → Bool := fun K => decide (PySem.W.nsIn K mainGlobals "is_integer" = some (some (.ref (A_f_is_integer K))))
def e77 : PySem.W.Frag → Bool := fun K => codeB A_f_is_integer "is_integer" K
def d6 : DnH := ⟨A_f_is_integer, "is_integer", "is_integer", s_is_integer⟩
def e78 : PySem.W.Frag → Bool := fun K => PySem.W.keepIn K (.ref (A_f_is_integer K))
def A_f_is_integer_within : Ad := glA "is_integer_within"
def e79 : PySem.W.Frag → Bool := fun K => decide (PySem.W.nsIn K mainGlobals "is_integer_within" = some (some (.ref (A_f_is_integer_within K))))
def e80 : PySem.W.Frag → Bool := fun K => codeB A_f_is_integer_within "is_integer_within" K
def d7 : DnH := ⟨A_f_is_integer_within, "is_integer_within", "is_integer_within", s_is_integer_within⟩
def e81 : PySem.W.Frag → Bool := fun K => PySem.W.keepIn K (.ref (A_f_is_integer_within K))
def A_f_is_pair_of_integers : Ad := glA "is_pair_of_integers"
def e82 : PySem.W.Frag → Bool := fun K => decide (PySem.W.nsIn K mainGlobals "is_pair_of_integers" = some (some (.ref (A_f_is_pair_of_integers K))))
def e83 : PySem.W.Frag → Bool := fun K => codeB A_f_is_pair_of_integers "is_pair_of_integers" K
def d8 : DnH := ⟨A_f_is_pair_of_integers, "is_pair_of_integers", "is_pair_of_integers", s_is_pair_of_integers⟩
def e84 : PySem.W.Frag → Bool := fun K => PySem.W.keepIn K (.ref (A_f_is_pair_of_integers K))
def A_f_is_resistance : Ad := glA "is_resistance"
def e85 : PySem.W.Frag → Bool := fun K => decide (PySem.W.nsIn K mainGlobals "is_resistance" = some (some (.ref (A_f_is_resistance K))))
def e86 : PySem.W.Frag → Bool := fun K => codeB A_f_is_resistance "is_resistance" K
def d9 : DnH := ⟨A_f_is_resistance, "is_resistance", "is_resistance", s_is_resistance⟩
def e87 : PySem.W.Frag → Bool := fun K => PySem.W.keepIn K (.ref (A_f_is_resistance K))
def A_f_pair_of : Ad := glA "pair_of"
def e88 : PySem.W.Frag → Bool := fun K => decide (PySem.W.nsIn K mainGlobals "pair_of" = some (some (.ref (A_f_pair_of K))))
def e89 : PySem.W.Frag → Bool := fun K => codeB A_f_pair_of "pair_of" K
def d10 : DnH := ⟨A_f_pair_of, "pair_of", "pair_of", s_pair_of⟩
def e90 : PySem.W.Frag → Bool := fun K => PySem.W.keepIn K (.ref (A_f_pair_of K))
def A_f_common_divisor : Ad := glA "common_divisor"
def e91 : PySem.W.Frag → Bool := fun K => decide (PySem.W.nsIn K mainGlobals "common_divisor" = some (some (.ref (A_f_common_divisor K))))
def e92 : PySem.W.Frag → Bool := fun K => codeB A_f_common_divisor "common_divisor" K
def d11 : DnH := ⟨A_f_common_divisor, "common_divisor", "common_divisor", s_common_divisor⟩
def e93 : PySem.W.Frag → Bool := fun K => PySem.W.keepIn K (.ref (A_f_common_divisor K))
def A_f_lowest_terms : Ad := glA "lowest_terms"
def e94 : PySem.W.Frag → Bool := fun K => decide (PySem.W.nsIn K mainGlobals "lowest_terms" = some (some (.ref (A_f_lowest_terms K))))
def e95 : PySem.W.Frag → Bool := fun K => codeB A_f_lowest_terms "lowest_terms" K
def d12 : DnH := ⟨A_f_lowest_terms, "lowest_terms", "lowest_terms", s_lowest_terms⟩
def e96 : PySem.W.Frag → Bool := fun K => PySem.W.keepIn K (.ref (A_f_lowest_terms K))
def A_f_lowest_pair : Ad := glA "lowest_pair"
def e97 : PySem.W.Frag → Bool := fun K => decide (PySem.W.nsIn K mainGlobals "lowest_pair" = some (some (.ref (A_f_lowest_pair K))))
def e98 : PySem.W.Frag → Bool := fun K => codeB A_f_lowest_pair "lowest_pair" K
def d13 : DnH := ⟨A_f_lowest_pair, "lowest_pair", "lowest_pair", s_lowest_pair⟩
def e99 : PySem.W.Frag → Bool := fun K => PySem.W.keepIn K (.ref (A_f_lowest_pair K))
def A_f_is_piece : Ad := glA "is_piece"
def e100 : PySem.W.Frag → Bool := fun K => decide (PySem.W.nsIn K mainGlobals "is_piece" = some (some (.ref (A_f_is_piece K))))
def e101 : PySem.W.Frag → Bool := fun K => codeB A_f_is_piece "is_piece" K
def d14 : DnH := ⟨A_f_is_piece, "is_piece", "is_piece", s_is_piece⟩
def e102 : PySem.W.Frag → Bool := fun K => PySem.W.keepIn K (.ref (A_f_is_piece K))
def A_f_checked_row : Ad := glA "checked_row"
def e103 : PySem.W.Frag → Bool := fun K => decide (PySem.W.nsIn K mainGlobals "checked_row" = some (some (.ref (A_f_checked_row K))))
def e104 : PySem.W.Frag → Bool := fun K => codeB A_f_checked_row "checked_row" K
def d15 : DnH := ⟨A_f_checked_row, "checked_row", "checked_row", s_checked_row⟩
def e105 : PySem.W.Frag → Bool := fun K => PySem.W.keepIn K (.ref (A_f_checked_row K))
def A_f_matrix_and_scale : Ad := glA "matrix_and_scale"
def e106 : PySem.W.Frag → Bool := fun K => decide (PySem.W.nsIn K mainGlobals "matrix_and_scale" = some (some (.ref (A_f_matrix_and_scale K))))
def e107 : PySem.W.Frag → Bool := fun K => codeB A_f_matrix_and_scale "matrix_and_scale" K
def d16 : DnH := ⟨A_f_matrix_and_scale, "matrix_and_scale", "matrix_and_scale", s_matrix_and_scale⟩
def e108 : PySem.W.Frag → Bool := fun K => PySem.W.keepIn K (.ref (A_f_matrix_and_scale K))
def A_f_shown_before : Ad := glA "shown_before"
def e109 : PySem.W.Frag → Bool := fun K => decide (PySem.W.nsIn K mainGlobals "shown_before" = some (some (.ref (A_f_shown_before K))))
def e110 : PySem.W.Frag → Bool := fun K => codeB A_f_shown_before "shown_before" K
def d17 : DnH := ⟨A_f_shown_before, "shown_before", "shown_before", s_shown_before⟩
def e111 : PySem.W.Frag → Bool := fun K => PySem.W.keepIn K (.ref (A_f_shown_before K))
def A_f_piece_text : Ad := glA "piece_text"
def e112 : PySem.W.Frag → Bool := fun K => decide (PySem.W.nsIn K mainGlobals "piece_text" = some (some (.ref (A_f_piece_text K))))
def e113 : PySem.W.Frag → Bool := fun K => codeB A_f_piece_text "piece_text" K
def d18 : DnH := ⟨A_f_piece_text, "piece_text", "piece_text", s_piece_text⟩
def e114 : PySem.W.Frag → Bool := fun K => PySem.W.keepIn K (.ref (A_f_piece_text K))
def A_f_piece_with_text : Ad := glA "piece_with_text"
def e115 : PySem.W.Frag → Bool := fun K => decide (PySem.W.nsIn K mainGlobals "piece_with_text" = some (some (.ref (A_f_piece_with_text K))))
def e116 : PySem.W.Frag → Bool := fun K => codeB A_f_piece_with_text "piece_with_text" K
def d19 : DnH := ⟨A_f_piece_with_text, "piece_with_text", "piece_with_text", s_piece_with_text⟩
def e117 : PySem.W.Frag → Bool := fun K => PySem.W.keepIn K (.ref (A_f_piece_with_text K))
def A_f_law_cup : Ad := glA "_law_cup"
def e118 : PySem.W.Frag → Bool := fun K => decide (PySem.W.nsIn K mainGlobals "_law_cup" = some (some (.ref (A_f_law_cup K))))
def e119 : PySem.W.Frag → Bool := fun K => codeB A_f_law_cup "_law_cup" K
def d20 : DnH := ⟨A_f_law_cup, "_law_cup", "_law_cup", s_law_cup⟩
def e120 : PySem.W.Frag → Bool := fun K => PySem.W.keepIn K (.ref (A_f_law_cup K))
def A_f_law_sip : Ad := glA "_law_sip"
def e121 : PySem.W.Frag → Bool := fun K => decide (PySem.W.nsIn K mainGlobals "_law_sip" = some (some (.ref (A_f_law_sip K))))
def e122 : PySem.W.Frag → Bool := fun K => codeB A_f_law_sip "_law_sip" K
def d21 : DnH := ⟨A_f_law_sip, "_law_sip", "_law_sip", s_law_sip⟩
def e123 : PySem.W.Frag → Bool := fun K => PySem.W.keepIn K (.ref (A_f_law_sip K))
def A_f_law_pick : Ad := glA "_law_pick"
def e124 : PySem.W.Frag → Bool := fun K => decide (PySem.W.nsIn K mainGlobals "_law_pick" = some (some (.ref (A_f_law_pick K))))
def e125 : PySem.W.Frag → Bool := fun K => codeB A_f_law_pick "_law_pick" K
def d22 : DnH := ⟨A_f_law_pick, "_law_pick", "_law_pick", s_law_pick⟩
def e126 : PySem.W.Frag → Bool := fun K => PySem.W.keepIn K (.ref (A_f_law_pick K))
def A_f_law_pair : Ad := glA "_law_pair"
def e127 : PySem.W.Frag → Bool := fun K => decide (PySem.W.nsIn K mainGlobals "_law_pair" = some (some (.ref (A_f_law_pair K))))
def e128 : PySem.W.Frag → Bool := fun K => codeB A_f_law_pair "_law_pair" K
def d23 : DnH := ⟨A_f_law_pair, "_law_pair", "_law_pair", s_law_pair⟩
def e129 : PySem.W.Frag → Bool := fun K => PySem.W.keepIn K (.ref (A_f_law_pair K))
def e130 : PySem.W.Frag → Bool := fun K => decide (PySem.W.findIn K (.ref (A_C K)) "__class__" = some (some (.builtin "object.__class__")))
def e131 : PySem.W.Frag → Bool := fun K => decide (PySem.W.mroIn K (A_C K) (.type "object") = some true)
def e132 : PySem.W.Frag → Bool := fun K => intB "GREATEST_PART" 10000000000000000000000000000000000000000 K
def e133 : PySem.W.Frag → Bool := fun K => intB "MOST_SECTIONS" 100 K
def A_Ce : Ad := glA "Exact"
def e134 : PySem.W.Frag → Bool := fun K => decide (PySem.W.nsIn K mainGlobals "Exact" = some (some (.ref (A_Ce K))))
def e135 : PySem.W.Frag → Bool := fun K => PySem.W.plainGet K (A_Ce K) Str.empty
def e136 : PySem.W.Frag → Bool := fun K => PySem.W.hasDictIn K (A_Ce K)
def e137 : PySem.W.Frag → Bool := fun K => PySem.W.plainOver K (A_Ce K)
def e138 : PySem.W.Frag → Bool := fun K => decide (PySem.W.findIn K (.ref (A_Ce K)) "__setattr__" = some (some (.builtin "object.__setattr__")))
def e139 : PySem.W.Frag → Bool := fun K => PySem.W.makesIn K (A_Ce K)
def e140 : PySem.W.Frag → Bool := fun K => PySem.W.keepIn K (.ref (A_Ce K))
def e141 : PySem.W.Frag → Bool := fun K => decide (PySem.W.findIn K (.ref (A_Ce K)) "parts" = some none)
def e142 : PySem.W.Frag → Bool := fun K => decide (PySem.W.findIn K (.ref (A_Ce K)) "__class__" = some (some (.builtin "object.__class__")))
def e143 : PySem.W.Frag → Bool := fun K => decide (PySem.W.mroIn K (A_Ce K) (.type "object") = some true)
def A_Cl : Ad := glA "Ladder"
def e144 : PySem.W.Frag → Bool := fun K => decide (PySem.W.nsIn K mainGlobals "Ladder" = some (some (.ref (A_Cl K))))
def e145 : PySem.W.Frag → Bool := fun K => PySem.W.plainGet K (A_Cl K) Str.empty
def e146 : PySem.W.Frag → Bool := fun K => PySem.W.hasDictIn K (A_Cl K)
def e147 : PySem.W.Frag → Bool := fun K => PySem.W.plainOver K (A_Cl K)
def e148 : PySem.W.Frag → Bool := fun K => decide (PySem.W.findIn K (.ref (A_Cl K)) "__setattr__" = some (some (.builtin "object.__setattr__")))
def e149 : PySem.W.Frag → Bool := fun K => PySem.W.makesIn K (A_Cl K)
def e150 : PySem.W.Frag → Bool := fun K => PySem.W.keepIn K (.ref (A_Cl K))
def e151 : PySem.W.Frag → Bool := fun K => decide (PySem.W.findIn K (.ref (A_Cl K)) "section" = some none)
def e152 : PySem.W.Frag → Bool := fun K => decide (PySem.W.findIn K (.ref (A_Cl K)) "behind" = some none)
def e153 : PySem.W.Frag → Bool := fun K => decide (PySem.W.findIn K (.ref (A_Cl K)) "far" = some none)
def A_f_is_count : Ad := glA "is_count"
def e154 : PySem.W.Frag → Bool := fun K => decide (PySem.W.nsIn K mainGlobals "is_count" = some (some (.ref (A_f_is_count K))))
def e155 : PySem.W.Frag → Bool := fun K => codeB A_f_is_count "is_count" K
def d24 : DnH := ⟨A_f_is_count, "is_count", "is_count", s_is_count⟩
def e156 : PySem.W.Frag → Bool := fun K => PySem.W.keepIn K (.ref (A_f_is_count K))
def A_f_sign : Ad := glA "sign"
def e157 : PySem.W.Frag → Bool := fun K => decide (PySem.W.nsIn K mainGlobals "sign" = some (some (.ref (A_f_sign K))))
def e158 : PySem.W.Frag → Bool := fun K => codeB A_f_sign "sign" K
def d25 : DnH := ⟨A_f_sign, "sign", "sign", s_sign⟩
def e159 : PySem.W.Frag → Bool := fun K => PySem.W.keepIn K (.ref (A_f_sign K))
def A_f_square_root : Ad := glA "square_root"
def e160 : PySem.W.Frag → Bool := fun K => decide (PySem.W.nsIn K mainGlobals "square_root" = some (some (.ref (A_f_square_root K))))
def e161 : PySem.W.Frag → Bool := fun K => codeB A_f_square_root "square_root" K
def d26 : DnH := ⟨A_f_square_root, "square_root", "square_root", s_square_root⟩
def e162 : PySem.W.Frag → Bool := fun K => PySem.W.keepIn K (.ref (A_f_square_root K))
def A_f_under_root : Ad := glA "under_root"
def e163 : PySem.W.Frag → Bool := fun K => decide (PySem.W.nsIn K mainGlobals "under_root" = some (some (.ref (A_f_under_root K))))
def e164 : PySem.W.Frag → Bool := fun K => codeB A_f_under_root "under_root" K
def d27 : DnH := ⟨A_f_under_root, "under_root", "under_root", s_under_root⟩
def e165 : PySem.W.Frag → Bool := fun K => PySem.W.keepIn K (.ref (A_f_under_root K))
def A_f_equation_of_fraction : Ad := glA "equation_of_fraction"
def e166 : PySem.W.Frag → Bool := fun K => decide (PySem.W.nsIn K mainGlobals "equation_of_fraction" = some (some (.ref (A_f_equation_of_fraction K))))
def e167 : PySem.W.Frag → Bool := fun K => codeB A_f_equation_of_fraction "equation_of_fraction" K
def d28 : DnH := ⟨A_f_equation_of_fraction, "equation_of_fraction", "equation_of_fraction", s_equation_of_fraction⟩
def e168 : PySem.W.Frag → Bool := fun K => PySem.W.keepIn K (.ref (A_f_equation_of_fraction K))
def A_f_simplest_equation : Ad := glA "simplest_equation"
def e169 : PySem.W.Frag → Bool := fun K => decide (PySem.W.nsIn K mainGlobals "simplest_equation" = some (some (.ref (A_f_simplest_equation K))))
def e170 : PySem.W.Frag → Bool := fun K => codeB A_f_simplest_equation "simplest_equation" K
def d29 : DnH := ⟨A_f_simplest_equation, "simplest_equation", "simplest_equation", s_simplest_equation⟩
def e171 : PySem.W.Frag → Bool := fun K => PySem.W.keepIn K (.ref (A_f_simplest_equation K))
def A_f_pair_order : Ad := glA "pair_order"
def e172 : PySem.W.Frag → Bool := fun K => decide (PySem.W.nsIn K mainGlobals "pair_order" = some (some (.ref (A_f_pair_order K))))
def e173 : PySem.W.Frag → Bool := fun K => codeB A_f_pair_order "pair_order" K
def d30 : DnH := ⟨A_f_pair_order, "pair_order", "pair_order", s_pair_order⟩
def e174 : PySem.W.Frag → Bool := fun K => PySem.W.keepIn K (.ref (A_f_pair_order K))
def A_f_check_resistance : Ad := glA "check_resistance"
def e175 : PySem.W.Frag → Bool := fun K => decide (PySem.W.nsIn K mainGlobals "check_resistance" = some (some (.ref (A_f_check_resistance K))))
def e176 : PySem.W.Frag → Bool := fun K => codeB A_f_check_resistance "check_resistance" K
def d31 : DnH := ⟨A_f_check_resistance, "check_resistance", "check_resistance", s_check_resistance⟩
def e177 : PySem.W.Frag → Bool := fun K => PySem.W.keepIn K (.ref (A_f_check_resistance K))
def A_f_check_count : Ad := glA "check_count"
def e178 : PySem.W.Frag → Bool := fun K => decide (PySem.W.nsIn K mainGlobals "check_count" = some (some (.ref (A_f_check_count K))))
def e179 : PySem.W.Frag → Bool := fun K => codeB A_f_check_count "check_count" K
def d32 : DnH := ⟨A_f_check_count, "check_count", "check_count", s_check_count⟩
def e180 : PySem.W.Frag → Bool := fun K => PySem.W.keepIn K (.ref (A_f_check_count K))
def A_f_Exact_init : Ad := meA A_Ce "__init__"
def e181 : PySem.W.Frag → Bool := fun K => decide (PySem.W.findIn K (.ref (A_Ce K)) "__init__" = some (some (.ref (A_f_Exact_init K))))
def e182 : PySem.W.Frag → Bool := fun K => PySem.W.isFn K (.ref (A_f_Exact_init K))
def e183 : PySem.W.Frag → Bool := fun K => codeB A_f_Exact_init "Exact.__init__" K
def d33 : DnH := ⟨A_f_Exact_init, "__init__", "Exact.__init__", s_Exact_init⟩
def e184 : PySem.W.Frag → Bool := fun K => PySem.W.keepIn K (.ref (A_f_Exact_init K))
def A_f_check_pattern : Ad := glA "check_pattern"
def e185 : PySem.W.Frag → Bool := fun K => decide (PySem.W.nsIn K mainGlobals "check_pattern" = some (some (.ref (A_f_check_pattern K))))
def e186 : PySem.W.Frag → Bool := fun K => codeB A_f_check_pattern "check_pattern" K
def d34 : DnH := ⟨A_f_check_pattern, "check_pattern", "check_pattern", s_check_pattern⟩
def e187 : PySem.W.Frag → Bool := fun K => PySem.W.keepIn K (.ref (A_f_check_pattern K))
def A_f_ladder_limit : Ad := glA "ladder_limit"
def e188 : PySem.W.Frag → Bool := fun K => decide (PySem.W.nsIn K mainGlobals "ladder_limit" = some (some (.ref (A_f_ladder_limit K))))
def e189 : PySem.W.Frag → Bool := fun K => codeB A_f_ladder_limit "ladder_limit" K
def d35 : DnH := ⟨A_f_ladder_limit, "ladder_limit", "ladder_limit", s_ladder_limit⟩
def e190 : PySem.W.Frag → Bool := fun K => PySem.W.keepIn K (.ref (A_f_ladder_limit K))
def A_f_Ladder_init : Ad := meA A_Cl "__init__"
def e191 : PySem.W.Frag → Bool := fun K => decide (PySem.W.findIn K (.ref (A_Cl K)) "__init__" = some (some (.ref (A_f_Ladder_init K))))
def e192 : PySem.W.Frag → Bool := fun K => PySem.W.isFn K (.ref (A_f_Ladder_init K))
def e193 : PySem.W.Frag → Bool := fun K => codeB A_f_Ladder_init "Ladder.__init__" K
def d36 : DnH := ⟨A_f_Ladder_init, "__init__", "Ladder.__init__", s_Ladder_init⟩
def e194 : PySem.W.Frag → Bool := fun K => PySem.W.keepIn K (.ref (A_f_Ladder_init K))
def A_f_Ladder_after : Ad := meA A_Cl "after"
def e195 : PySem.W.Frag → Bool := fun K => decide (PySem.W.findIn K (.ref (A_Cl K)) "after" = some (some (.ref (A_f_Ladder_after K))))
def e196 : PySem.W.Frag → Bool := fun K => PySem.W.isFn K (.ref (A_f_Ladder_after K))
def e197 : PySem.W.Frag → Bool := fun K => codeB A_f_Ladder_after "Ladder.after" K
def d37 : DnH := ⟨A_f_Ladder_after, "after", "Ladder.after", s_Ladder_after⟩
def e198 : PySem.W.Frag → Bool := fun K => PySem.W.keepIn K (.ref (A_f_Ladder_after K))
def A_f_Ladder_call : Ad := meA A_Cl "__call__"
def e199 : PySem.W.Frag → Bool := fun K => decide (PySem.W.findIn K (.ref (A_Cl K)) "__call__" = some (some (.ref (A_f_Ladder_call K))))
def e200 : PySem.W.Frag → Bool := fun K => PySem.W.isFn K (.ref (A_f_Ladder_call K))
def e201 : PySem.W.Frag → Bool := fun K => codeB A_f_Ladder_call "Ladder.__call__" K
def d38 : DnH := ⟨A_f_Ladder_call, "__call__", "Ladder.__call__", s_Ladder_call⟩
def e202 : PySem.W.Frag → Bool := fun K => PySem.W.keepIn K (.ref (A_f_Ladder_call K))
def e203 : PySem.W.Frag → Bool := fun K => PySem.W.fnIn K (A_f_Ladder_call K)
def A_pr_Ladder_goes : Ad := meA A_Cl "goes"
def e204 : PySem.W.Frag → Bool := fun K => decide (PySem.W.findIn K (.ref (A_Cl K)) "goes" = some (some (.ref (A_pr_Ladder_goes K))))
def e205 : PySem.W.Frag → Bool := fun K => decide (PySem.W.specialIn K (.ref (A_pr_Ladder_goes K)) "__get__" = some (some (.builtin "property.__get__")))
def e206 : PySem.W.Frag → Bool := fun K => decide (PySem.W.takesIn K (.ref (A_pr_Ladder_goes K)) = some true)
def A_f_Ladder_goes : Ad := rcA A_pr_Ladder_goes "property"
def e207 : PySem.W.Frag → Bool := fun K => recB A_pr_Ladder_goes A_f_Ladder_goes "property" K
def e208 : PySem.W.Frag → Bool := fun K => codeB A_f_Ladder_goes "Ladder.goes" K
def d39 : DnH := ⟨A_f_Ladder_goes, "goes", "Ladder.goes", s_Ladder_goes⟩
def e209 : PySem.W.Frag → Bool := fun K => PySem.W.keepIn K (.ref (A_f_Ladder_goes K))
def A_pr_Ladder_limit : Ad := meA A_Cl "limit"
def e210 : PySem.W.Frag → Bool := fun K => decide (PySem.W.findIn K (.ref (A_Cl K)) "limit" = some (some (.ref (A_pr_Ladder_limit K))))
def e211 : PySem.W.Frag → Bool := fun K => decide (PySem.W.specialIn K (.ref (A_pr_Ladder_limit K)) "__get__" = some (some (.builtin "property.__get__")))
def e212 : PySem.W.Frag → Bool := fun K => decide (PySem.W.takesIn K (.ref (A_pr_Ladder_limit K)) = some true)
def A_f_Ladder_limit : Ad := rcA A_pr_Ladder_limit "property"
def e213 : PySem.W.Frag → Bool := fun K => recB A_pr_Ladder_limit A_f_Ladder_limit "property" K
def e214 : PySem.W.Frag → Bool := fun K => codeB A_f_Ladder_limit "Ladder.limit" K
def d40 : DnH := ⟨A_f_Ladder_limit, "limit", "Ladder.limit", s_Ladder_limit⟩
def e215 : PySem.W.Frag → Bool := fun K => PySem.W.keepIn K (.ref (A_f_Ladder_limit K))
def A_pr_Exact_equation : Ad := meA A_Ce "equation"
def e216 : PySem.W.Frag → Bool := fun K => decide (PySem.W.findIn K (.ref (A_Ce K)) "equation" = some (some (.ref (A_pr_Exact_equation K))))
def e217 : PySem.W.Frag → Bool := fun K => decide (PySem.W.specialIn K (.ref (A_pr_Exact_equation K)) "__get__" = some (some (.builtin "property.__get__")))
def e218 : PySem.W.Frag → Bool := fun K => decide (PySem.W.takesIn K (.ref (A_pr_Exact_equation K)) = some true)
def A_f_Exact_equation : Ad := rcA A_pr_Exact_equation "property"
def e219 : PySem.W.Frag → Bool := fun K => recB A_pr_Exact_equation A_f_Exact_equation "property" K
def e220 : PySem.W.Frag → Bool := fun K => codeB A_f_Exact_equation "Exact.equation" K
def d41 : DnH := ⟨A_f_Exact_equation, "equation", "Exact.equation", s_Exact_equation⟩
def e221 : PySem.W.Frag → Bool := fun K => PySem.W.keepIn K (.ref (A_f_Exact_equation K))
def A_pr_Exact_fraction : Ad := meA A_Ce "fraction"
def e222 : PySem.W.Frag → Bool := fun K => decide (PySem.W.findIn K (.ref (A_Ce K)) "fraction" = some (some (.ref (A_pr_Exact_fraction K))))
def e223 : PySem.W.Frag → Bool := fun K => decide (PySem.W.specialIn K (.ref (A_pr_Exact_fraction K)) "__get__" = some (some (.builtin "property.__get__")))
def e224 : PySem.W.Frag → Bool := fun K => decide (PySem.W.takesIn K (.ref (A_pr_Exact_fraction K)) = some true)
def A_f_Exact_fraction : Ad := rcA A_pr_Exact_fraction "property"
def e225 : PySem.W.Frag → Bool := fun K => recB A_pr_Exact_fraction A_f_Exact_fraction "property" K
def e226 : PySem.W.Frag → Bool := fun K => codeB A_f_Exact_fraction "Exact.fraction" K
def d42 : DnH := ⟨A_f_Exact_fraction, "fraction", "Exact.fraction", s_Exact_fraction⟩
def e227 : PySem.W.Frag → Bool := fun K => PySem.W.keepIn K (.ref (A_f_Exact_fraction K))
def A_f_law_front : Ad := glA "_law_front"
def e228 : PySem.W.Frag → Bool := fun K => decide (PySem.W.nsIn K mainGlobals "_law_front" = some (some (.ref (A_f_law_front K))))
def e229 : PySem.W.Frag → Bool := fun K => codeB A_f_law_front "_law_front" K
def d43 : DnH := ⟨A_f_law_front, "_law_front", "_law_front", s_law_front⟩
def e230 : PySem.W.Frag → Bool := fun K => PySem.W.keepIn K (.ref (A_f_law_front K))
def A_f_law_row : Ad := glA "_law_row"
def e231 : PySem.W.Frag → Bool := fun K => decide (PySem.W.nsIn K mainGlobals "_law_row" = some (some (.ref (A_f_law_row K))))
def e232 : PySem.W.Frag → Bool := fun K => codeB A_f_law_row "_law_row" K
def d44 : DnH := ⟨A_f_law_row, "_law_row", "_law_row", s_law_row⟩
def e233 : PySem.W.Frag → Bool := fun K => PySem.W.keepIn K (.ref (A_f_law_row K))
def A_f_law_words : Ad := glA "_law_words"
def e234 : PySem.W.Frag → Bool := fun K => decide (PySem.W.nsIn K mainGlobals "_law_words" = some (some (.ref (A_f_law_words K))))
def e235 : PySem.W.Frag → Bool := fun K => codeB A_f_law_words "_law_words" K
def d45 : DnH := ⟨A_f_law_words, "_law_words", "_law_words", s_law_words⟩
def e236 : PySem.W.Frag → Bool := fun K => PySem.W.keepIn K (.ref (A_f_law_words K))
def A_f_law_read : Ad := glA "_law_read"
def e237 : PySem.W.Frag → Bool := fun K => decide (PySem.W.nsIn K mainGlobals "_law_read" = some (some (.ref (A_f_law_read K))))
def e238 : PySem.W.Frag → Bool := fun K => codeB A_f_law_read "_law_read" K
def d46 : DnH := ⟨A_f_law_read, "_law_read", "_law_read", s_law_read⟩
def e239 : PySem.W.Frag → Bool := fun K => PySem.W.keepIn K (.ref (A_f_law_read K))
def A_f_law_mixed : Ad := glA "_law_mixed"
def e240 : PySem.W.Frag → Bool := fun K => decide (PySem.W.nsIn K mainGlobals "_law_mixed" = some (some (.ref (A_f_law_mixed K))))
def e241 : PySem.W.Frag → Bool := fun K => codeB A_f_law_mixed "_law_mixed" K
def d47 : DnH := ⟨A_f_law_mixed, "_law_mixed", "_law_mixed", s_law_mixed⟩
def e242 : PySem.W.Frag → Bool := fun K => PySem.W.keepIn K (.ref (A_f_law_mixed K))
def e243 : PySem.W.Frag → Bool := fun K => decide (PySem.W.kitOne K (.type "tuple") (.ref (A_Ce K)) = some false)
def e244 : PySem.W.Frag → Bool := fun K => PySem.W.notFirst K (A_Ce K) (.type "tuple")
def A_f_Exact_eq : Ad := meA A_Ce "__eq__"
def e245 : PySem.W.Frag → Bool := fun K => decide (PySem.W.findIn K (.ref (A_Ce K)) "__eq__" = some (some (.ref (A_f_Exact_eq K))))
def e246 : PySem.W.Frag → Bool := fun K => PySem.W.isFn K (.ref (A_f_Exact_eq K))
def e247 : PySem.W.Frag → Bool := fun K => codeB A_f_Exact_eq "Exact.__eq__" K
def d48 : DnH := ⟨A_f_Exact_eq, "__eq__", "Exact.__eq__", s_Exact_eq⟩
def e248 : PySem.W.Frag → Bool := fun K => PySem.W.keepIn K (.ref (A_f_Exact_eq K))
def e249 : PySem.W.Frag → Bool := fun K => decide (PySem.W.findIn K (.ref (A_Cl K)) "__class__" = some (some (.builtin "object.__class__")))
def e250 : PySem.W.Frag → Bool := fun K => decide (PySem.W.mroIn K (A_Cl K) (.type "object") = some true)
def A_Cg : Ad := glA "Greatest"
def e251 : PySem.W.Frag → Bool := fun K => decide (PySem.W.nsIn K mainGlobals "Greatest" = some (some (.ref (A_Cg K))))
def A_Cs : Ad := glA "Least"
def e252 : PySem.W.Frag → Bool := fun K => decide (PySem.W.nsIn K mainGlobals "Least" = some (some (.ref (A_Cs K))))
def e253 : PySem.W.Frag → Bool := fun K => decide (PySem.W.nsIn K mainGlobals "reversed" = some none)
def A_f_beside_fraction : Ad := glA "beside_fraction"
def e254 : PySem.W.Frag → Bool := fun K => decide (PySem.W.nsIn K mainGlobals "beside_fraction" = some (some (.ref (A_f_beside_fraction K))))
def e255 : PySem.W.Frag → Bool := fun K => codeB A_f_beside_fraction "beside_fraction" K
def d49 : DnH := ⟨A_f_beside_fraction, "beside_fraction", "beside_fraction", s_beside_fraction⟩
def e256 : PySem.W.Frag → Bool := fun K => PySem.W.keepIn K (.ref (A_f_beside_fraction K))
def A_f_limit_beside : Ad := glA "limit_beside"
def e257 : PySem.W.Frag → Bool := fun K => decide (PySem.W.nsIn K mainGlobals "limit_beside" = some (some (.ref (A_f_limit_beside K))))
def e258 : PySem.W.Frag → Bool := fun K => codeB A_f_limit_beside "limit_beside" K
def d50 : DnH := ⟨A_f_limit_beside, "limit_beside", "limit_beside", s_limit_beside⟩
def e259 : PySem.W.Frag → Bool := fun K => PySem.W.keepIn K (.ref (A_f_limit_beside K))
def A_pr_Ladder_load : Ad := meA A_Cl "load"
def e260 : PySem.W.Frag → Bool := fun K => decide (PySem.W.findIn K (.ref (A_Cl K)) "load" = some (some (.ref (A_pr_Ladder_load K))))
def e261 : PySem.W.Frag → Bool := fun K => decide (PySem.W.specialIn K (.ref (A_pr_Ladder_load K)) "__get__" = some (some (.builtin "property.__get__")))
def e262 : PySem.W.Frag → Bool := fun K => decide (PySem.W.takesIn K (.ref (A_pr_Ladder_load K)) = some true)
def A_f_Ladder_load : Ad := rcA A_pr_Ladder_load "property"
def e263 : PySem.W.Frag → Bool := fun K => recB A_pr_Ladder_load A_f_Ladder_load "property" K
def e264 : PySem.W.Frag → Bool := fun K => codeB A_f_Ladder_load "Ladder.load" K
def d51 : DnH := ⟨A_f_Ladder_load, "load", "Ladder.load", s_Ladder_load⟩
def e265 : PySem.W.Frag → Bool := fun K => PySem.W.keepIn K (.ref (A_f_Ladder_load K))
def A_f_Ladder_last_stage : Ad := meA A_Cl "last_stage"
def e266 : PySem.W.Frag → Bool := fun K => decide (PySem.W.findIn K (.ref (A_Cl K)) "last_stage" = some (some (.ref (A_f_Ladder_last_stage K))))
def e267 : PySem.W.Frag → Bool := fun K => PySem.W.isFn K (.ref (A_f_Ladder_last_stage K))
def e268 : PySem.W.Frag → Bool := fun K => codeB A_f_Ladder_last_stage "Ladder.last_stage" K
def d52 : DnH := ⟨A_f_Ladder_last_stage, "last_stage", "Ladder.last_stage", s_Ladder_last_stage⟩
def e269 : PySem.W.Frag → Bool := fun K => PySem.W.keepIn K (.ref (A_f_Ladder_last_stage K))
def A_f_check_run : Ad := glA "check_run"
def e270 : PySem.W.Frag → Bool := fun K => decide (PySem.W.nsIn K mainGlobals "check_run" = some (some (.ref (A_f_check_run K))))
def e271 : PySem.W.Frag → Bool := fun K => codeB A_f_check_run "check_run" K
def d53 : DnH := ⟨A_f_check_run, "check_run", "check_run", s_check_run⟩
def e272 : PySem.W.Frag → Bool := fun K => PySem.W.keepIn K (.ref (A_f_check_run K))
def A_f_squared : Ad := glA "squared"
def e273 : PySem.W.Frag → Bool := fun K => decide (PySem.W.nsIn K mainGlobals "squared" = some (some (.ref (A_f_squared K))))
def e274 : PySem.W.Frag → Bool := fun K => codeB A_f_squared "squared" K
def d54 : DnH := ⟨A_f_squared, "squared", "squared", s_squared⟩
def e275 : PySem.W.Frag → Bool := fun K => PySem.W.keepIn K (.ref (A_f_squared K))
def A_f_sections_before : Ad := glA "sections_before"
def e276 : PySem.W.Frag → Bool := fun K => decide (PySem.W.nsIn K mainGlobals "sections_before" = some (some (.ref (A_f_sections_before K))))
def e277 : PySem.W.Frag → Bool := fun K => codeB A_f_sections_before "sections_before" K
def d55 : DnH := ⟨A_f_sections_before, "sections_before", "sections_before", s_sections_before⟩
def e278 : PySem.W.Frag → Bool := fun K => PySem.W.keepIn K (.ref (A_f_sections_before K))
def A_f_least_number : Ad := glA "least_number"
def e279 : PySem.W.Frag → Bool := fun K => decide (PySem.W.nsIn K mainGlobals "least_number" = some (some (.ref (A_f_least_number K))))
def e280 : PySem.W.Frag → Bool := fun K => codeB A_f_least_number "least_number" K
def d56 : DnH := ⟨A_f_least_number, "least_number", "least_number", s_least_number⟩
def e281 : PySem.W.Frag → Bool := fun K => PySem.W.keepIn K (.ref (A_f_least_number K))
def A_f_first_with : Ad := glA "first_with"
def e282 : PySem.W.Frag → Bool := fun K => decide (PySem.W.nsIn K mainGlobals "first_with" = some (some (.ref (A_f_first_with K))))
def e283 : PySem.W.Frag → Bool := fun K => codeB A_f_first_with "first_with" K
def d57 : DnH := ⟨A_f_first_with, "first_with", "first_with", s_first_with⟩
def e284 : PySem.W.Frag → Bool := fun K => PySem.W.keepIn K (.ref (A_f_first_with K))
def A_f_first_reaching : Ad := glA "first_reaching"
def e285 : PySem.W.Frag → Bool := fun K => decide (PySem.W.nsIn K mainGlobals "first_reaching" = some (some (.ref (A_f_first_reaching K))))
def e286 : PySem.W.Frag → Bool := fun K => codeB A_f_first_reaching "first_reaching" K
def d58 : DnH := ⟨A_f_first_reaching, "first_reaching", "first_reaching", s_first_reaching⟩
def e287 : PySem.W.Frag → Bool := fun K => PySem.W.keepIn K (.ref (A_f_first_reaching K))
def A_PA_first_reaching : Ad := tbA (cdA A_f_first_reaching)
def A_f_first_passing : Ad := glA "first_passing"
def e288 : PySem.W.Frag → Bool := fun K => decide (PySem.W.nsIn K mainGlobals "first_passing" = some (some (.ref (A_f_first_passing K))))
def e289 : PySem.W.Frag → Bool := fun K => codeB A_f_first_passing "first_passing" K
def d59 : DnH := ⟨A_f_first_passing, "first_passing", "first_passing", s_first_passing⟩
def e290 : PySem.W.Frag → Bool := fun K => PySem.W.keepIn K (.ref (A_f_first_passing K))
def A_PA_first_passing : Ad := tbA (cdA A_f_first_passing)
def A_f_count_of : Ad := glA "count_of"
def e291 : PySem.W.Frag → Bool := fun K => decide (PySem.W.nsIn K mainGlobals "count_of" = some (some (.ref (A_f_count_of K))))
def e292 : PySem.W.Frag → Bool := fun K => codeB A_f_count_of "count_of" K
def d60 : DnH := ⟨A_f_count_of, "count_of", "count_of", s_count_of⟩
def e293 : PySem.W.Frag → Bool := fun K => PySem.W.keepIn K (.ref (A_f_count_of K))
def A_f_law_end : Ad := glA "_law_end"
def e294 : PySem.W.Frag → Bool := fun K => decide (PySem.W.nsIn K mainGlobals "_law_end" = some (some (.ref (A_f_law_end K))))
def e295 : PySem.W.Frag → Bool := fun K => codeB A_f_law_end "_law_end" K
def d61 : DnH := ⟨A_f_law_end, "_law_end", "_law_end", s_law_end⟩
def e296 : PySem.W.Frag → Bool := fun K => PySem.W.keepIn K (.ref (A_f_law_end K))
def A_f_law_walk : Ad := glA "_law_walk"
def e297 : PySem.W.Frag → Bool := fun K => decide (PySem.W.nsIn K mainGlobals "_law_walk" = some (some (.ref (A_f_law_walk K))))
def e298 : PySem.W.Frag → Bool := fun K => codeB A_f_law_walk "_law_walk" K
def d62 : DnH := ⟨A_f_law_walk, "_law_walk", "_law_walk", s_law_walk⟩
def e299 : PySem.W.Frag → Bool := fun K => PySem.W.keepIn K (.ref (A_f_law_walk K))
def A_f_law_told : Ad := glA "_law_told"
def e300 : PySem.W.Frag → Bool := fun K => decide (PySem.W.nsIn K mainGlobals "_law_told" = some (some (.ref (A_f_law_told K))))
def e301 : PySem.W.Frag → Bool := fun K => codeB A_f_law_told "_law_told" K
def d63 : DnH := ⟨A_f_law_told, "_law_told", "_law_told", s_law_told⟩
def e302 : PySem.W.Frag → Bool := fun K => PySem.W.keepIn K (.ref (A_f_law_told K))
def A_f_law_lines : Ad := glA "_law_lines"
def e303 : PySem.W.Frag → Bool := fun K => decide (PySem.W.nsIn K mainGlobals "_law_lines" = some (some (.ref (A_f_law_lines K))))
def e304 : PySem.W.Frag → Bool := fun K => codeB A_f_law_lines "_law_lines" K
def d64 : DnH := ⟨A_f_law_lines, "_law_lines", "_law_lines", s_law_lines⟩
def e305 : PySem.W.Frag → Bool := fun K => PySem.W.keepIn K (.ref (A_f_law_lines K))
def A_f_law_near : Ad := glA "_law_near"
def e306 : PySem.W.Frag → Bool := fun K => decide (PySem.W.nsIn K mainGlobals "_law_near" = some (some (.ref (A_f_law_near K))))
def e307 : PySem.W.Frag → Bool := fun K => codeB A_f_law_near "_law_near" K
def d65 : DnH := ⟨A_f_law_near, "_law_near", "_law_near", s_law_near⟩
def e308 : PySem.W.Frag → Bool := fun K => PySem.W.keepIn K (.ref (A_f_law_near K))
def A_f_law_far : Ad := glA "_law_far"
def e309 : PySem.W.Frag → Bool := fun K => decide (PySem.W.nsIn K mainGlobals "_law_far" = some (some (.ref (A_f_law_far K))))
def e310 : PySem.W.Frag → Bool := fun K => codeB A_f_law_far "_law_far" K
def d66 : DnH := ⟨A_f_law_far, "_law_far", "_law_far", s_law_far⟩
def e311 : PySem.W.Frag → Bool := fun K => PySem.W.keepIn K (.ref (A_f_law_far K))
def A_f_law_right : Ad := glA "_law_right"
def e312 : PySem.W.Frag → Bool := fun K => decide (PySem.W.nsIn K mainGlobals "_law_right" = some (some (.ref (A_f_law_right K))))
def e313 : PySem.W.Frag → Bool := fun K => codeB A_f_law_right "_law_right" K
def d67 : DnH := ⟨A_f_law_right, "_law_right", "_law_right", s_law_right⟩
def e314 : PySem.W.Frag → Bool := fun K => PySem.W.keepIn K (.ref (A_f_law_right K))
def A_f_law : Ad := glA "law"
def e315 : PySem.W.Frag → Bool := fun K => decide (PySem.W.nsIn K mainGlobals "law" = some (some (.ref (A_f_law K))))
def e316 : PySem.W.Frag → Bool := fun K => codeB A_f_law "law" K
def d68 : DnH := ⟨A_f_law, "law", "law", s_law⟩
def e317 : PySem.W.Frag → Bool := fun K => PySem.W.keepIn K (.ref (A_f_law K))
def e318 : PySem.W.Frag → Bool := fun K => decide ((A_PA_first_reaching K) ≠ (A_PA_first_passing K))
def e319 : PySem.W.Frag → Bool := fun K => decide ((A_PA_first_passing K) ≠ (A_PA_first_reaching K))
def exA0 : List (PySem.W.Frag → Bool) := [e0, e1, e2, e3, e4, e5, e6, e7, e8, e9, e10, e11, e12, e13, e14, e15, e16, e17, e18, e19, e20, e21, e22, e23, e24, e25, e26, e27, e28, e29]
def exA1 : List (PySem.W.Frag → Bool) := [e30, e31, e32, e33, e34, e35, e36, e37, e38, e39, e40, e41, e42, e43, e44, e45, e46, e47, e48, e49, e50, e51, e52, e53, e54, e55, e56, e57, e58, e59]
def exA2 : List (PySem.W.Frag → Bool) := [e60, e61, e62, e63, e64, e65, e66, e67, e68, e69, e70, e71, e72, e73, e74, e75, e76, e77, e78, e79, e80, e81, e82, e83, e84, e85, e86, e87, e88, e89]
def exA3 : List (PySem.W.Frag → Bool) := [e90, e91, e92, e93, e94, e95, e96, e97, e98, e99, e100, e101, e102, e103, e104, e105, e106, e107, e108, e109, e110, e111, e112, e113, e114, e115, e116, e117, e118, e119]
def exA4 : List (PySem.W.Frag → Bool) := [e120, e121, e122, e123, e124, e125, e126, e127, e128, e129, e130, e131, e132, e133, e134, e135, e136, e137, e138, e139, e140, e141, e142, e143, e144, e145, e146, e147, e148, e149]
def exA5 : List (PySem.W.Frag → Bool) := [e150, e151, e152, e153, e154, e155, e156, e157, e158, e159]
def exA : List (PySem.W.Frag → Bool) := exA0 ++ (exA1 ++ (exA2 ++ (exA3 ++ (exA4 ++ (exA5)))))
def exB0 : List (PySem.W.Frag → Bool) := [e160, e161, e162, e163, e164, e165, e166, e167, e168, e169, e170, e171, e172, e173, e174, e175, e176, e177, e178, e179, e180, e181, e182, e183, e184, e185, e186, e187, e188, e189]
def exB1 : List (PySem.W.Frag → Bool) := [e190, e191, e192, e193, e194, e195, e196, e197, e198, e199, e200, e201, e202, e203, e204, e205, e206, e207, e208, e209, e210, e211, e212, e213, e214, e215, e216, e217, e218, e219]
def exB2 : List (PySem.W.Frag → Bool) := [e220, e221, e222, e223, e224, e225, e226, e227, e228, e229, e230, e231, e232, e233, e234, e235, e236, e237, e238, e239, e240, e241, e242, e243, e244, e245, e246, e247, e248, e249]
def exB3 : List (PySem.W.Frag → Bool) := [e250, e251, e252, e253, e254, e255, e256, e257, e258, e259, e260, e261, e262, e263, e264, e265, e266, e267, e268, e269, e270, e271, e272, e273, e274, e275, e276, e277, e278, e279]
def exB4 : List (PySem.W.Frag → Bool) := [e280, e281, e282, e283, e284, e285, e286, e287, e288, e289, e290, e291, e292, e293, e294, e295, e296, e297, e298, e299, e300, e301, e302, e303, e304, e305, e306, e307, e308, e309]
def exB5 : List (PySem.W.Frag → Bool) := [e310, e311, e312, e313, e314, e315, e316, e317, e318, e319]
def exB : List (PySem.W.Frag → Bool) := exB0 ++ (exB1 ++ (exB2 ++ (exB3 ++ (exB4 ++ (exB5)))))
def exL : List (PySem.W.Frag → Bool) := exA ++ exB
def fnL0 : List DnH := [d0, d1, d2, d3, d4, d5, d6, d7, d8, d9, d10, d11, d12, d13, d14, d15, d16, d17, d18, d19, d20, d21, d22, d23, d24, d25, d26, d27, d28, d29]
def fnL1 : List DnH := [d30, d31, d32, d33, d34, d35, d36, d37, d38, d39, d40, d41, d42, d43, d44, d45, d46, d47, d48, d49, d50, d51, d52, d53, d54, d55, d56, d57, d58, d59]
def fnL2 : List DnH := [d60, d61, d62, d63, d64, d65, d66, d67, d68]
def fnL : List DnH := fnL0 ++ (fnL1 ++ (fnL2))
def tfL0 : List Ad := [A_f_first_reaching, A_f_first_passing]
def tfL : List Ad := tfL0
def tsL : List Tz := []
def loL0 : List Str := ["_wall", "MOST_OHMS", "MOST_PIECES", "MOST_JOINED", "MOST_SECTIONS", "GREATEST", "OPEN", "__name__", "is_integer", "is_integer_within", "is_count", "is_pair_of_integers", "is_resistance", "pair_of", "common_divisor", "lowest_terms", "lowest_pair", "pair_order", "fraction_text", "sign", "square_root", "WrongValue", "NotAPattern", "NotARun", "InvalidResistance", "InvalidCount", "InvalidNumber", "InvalidText", "InvalidPieces", "NoAnswer"]
def loL1 : List Str := ["TooMany", "WORDS", "JoinedRow", "Pattern", "checked_row", "is_piece", "matrix_and_scale", "shown_before", "row_text", "piece_text", "piece_with_text", "check_pattern", "check_resistance", "check_count", "GREATEST_PART", "Exact", "under_root", "simplest_equation", "equation_of_fraction", "beside_fraction", "sign_along_line", "limit_beside", "limits_order", "with_commas", "Ladder", "ladder_limit", "difference", "times", "sign_at", "sign_far_out"]
def loL2 : List Str := ["sign_from", "sign_towards", "never_below", "BoxRun", "Greatest", "Least", "best_limit", "check_run", "least_number", "sections_before", "squared", "count_of", "first_reaching", "first_passing", "first_with", "_law_cup", "_law_sip", "_law_pick", "_law_pair", "_law_below", "_law_front", "_law_row", "_law_mixed", "_law_words", "_law_end", "_law_told", "_law_read", "_law_walk", "_law_lines", "_law_near"]
def loL3 : List Str := ["_law_far", "_law_right"]
def loL : List Str := loL0 ++ (loL1 ++ (loL2 ++ (loL3)))
abbrev rwH : PySem.W.OpenRow := PySem.W.OpenLaw.row PySem.Challenge.rw_rungladders_k23_whole_numbers_that_show
def asL0 : List Addr := [2, 3, 22, 29, 36, 43, 50, 57, 64, 71, 78, 85, 92, 106, 113, 306, 323, 415, 426, 433, 440, 447, 459, 466, 473, 480, 487, 562, 573, 580]
def asL1 : List Addr := [587, 594, 608, 697, 708, 986, 993, 1000, 1005, 1012, 1019, 1026, 1033, 1040, 1047, 1054, 1061, 1075, 1082, 1089, 1094, 1101, 1108, 1115, 1122, 1127, 1132, 1139, 1144, 1149]
def asL2 : List Addr := [28, 35, 42, 49, 56, 63, 70, 77, 84, 91, 105, 112, 322, 414, 425, 432, 439, 446, 458, 465, 472, 479, 486, 561, 572, 579, 586, 593, 607, 696]
def asL3 : List Addr := [707, 985, 992, 999, 1004, 1011, 1018, 1025, 1032, 1039, 1046, 1053, 1060, 1074, 1081, 1088, 1093, 1100, 1107, 1114, 1121, 1126, 1131, 1138, 1143, 1148, 320, 339, 346, 362]
def asL4 : List Addr := [369, 411, 501, 509, 517, 545, 634, 641, 655, 662, 670, 678, 686, 319, 338, 345, 361, 368, 409, 500, 508, 516, 544, 633, 640, 654, 661, 669, 677, 685]
def asL5 : List Addr := [360, 408, 507, 515, 668, 676, 684]
def asL : List Addr := asL0 ++ (asL1 ++ (asL2 ++ (asL3 ++ (asL4 ++ (asL5)))))
def obH (s : PySem.W.SharedT) : AlW := obsW asL fnL tfL exL tsL (HandSHeadRun.getT s)
abbrev qH : Program := PySem.W.view rwH.prog [102]
abbrev rowS : String := "special-get-raises"
noncomputable abbrev GH (w : World) (os : OsState) := HandSHeadRun.endF (HandSHeadRun.stepQ (HandSHeadRun.denQ HandSHeadRun.tabQ) rwH.prog w) 14000 rwH.prog w os
def obA (s : PySem.W.SharedT) : Bool := exA.all fun e => e (frT (HandSHeadRun.getT s) asL)
def obB (s : PySem.W.SharedT) : Bool × Bool := (exB.all fun e => e (frT (HandSHeadRun.getT s) asL), tabsZ (HandSHeadRun.getT s) tfL (frT (HandSHeadRun.getT s) asL))
abbrev PqA (w : World) : Prop := ∀ os : OsState, (GH w os).map (fun s => (HandSHeadRun.looksF rwH.prog (PySem.W.boot_heap w.params) s.abs, (obH s).2)) = some (true, (valW fnL tsL w).2)
abbrev PqB (w : World) : Prop := ∀ os : OsState, (GH w os).map (fun s => HandSHeadRun.seenQ qH loL (PySem.importedModules rwH.prog.main.body) (fun s => PySem.W.xlAt qH [] s && PySem.W.recOk rwH.toRowW.records s) s.abs) = some (PySem.W.openGood qH loL)
abbrev PqC (w : World) : Prop := ∀ os : OsState, (GH w os).map (fun s => (obH s).1.1) = some (valZ fnL).1
abbrev PqD (w : World) : Prop := ∀ os : OsState, (GH w os).map obA = some true
abbrev PqE (w : World) : Prop := ∀ os : OsState, (GH w os).map obB = some (true, true)
theorem pAF (w : World) : PqA (w.withFollow rowS false) := by
  intro os
  kernel_rfl
theorem pAT (w : World) : PqA (w.withFollow rowS true) := by
  intro os
  kernel_rfl
theorem pBF (w : World) : PqB (w.withFollow rowS false) := by
  intro os
  kernel_rfl
theorem pBT (w : World) : PqB (w.withFollow rowS true) := by
  intro os
  kernel_rfl
theorem pCF (w : World) : PqC (w.withFollow rowS false) := by
  intro os
  kernel_rfl
theorem pCT (w : World) : PqC (w.withFollow rowS true) := by
  intro os
  kernel_rfl
theorem pDF (w : World) : PqD (w.withFollow rowS false) := by
  intro os
  kernel_rfl
theorem pDT (w : World) : PqD (w.withFollow rowS true) := by
  intro os
  kernel_rfl
theorem pEF (w : World) : PqE (w.withFollow rowS false) := by
  intro os
  kernel_rfl
theorem pET (w : World) : PqE (w.withFollow rowS true) := by
  intro os
  kernel_rfl
end RL
set_option Elab.async false
set_option linter.all false
set_option maxRecDepth 100000
/-! Defs that are called where no repr is under way: repr of lists and tuples within them; == by an own __eq__. -/
namespace RL
open PySem L2 PySem.Spec PyProof.Rows
structure FnG (P : Program) (w : World) (K : PySem.W.Frag) (mg : Str → Option Value) (base : Heap) (k : Nat) (f : Addr) (fd : FuncData) (ps : List Str) (sp : Sp) : Prop where
  len : ∀ vs H Q E, sp vs H Q E → vs.length = ps.length
  run : ∀ (A : Around) (outer : List Env) (s : Shared) (H : Hp) (args : Args) (us : List Value) (vs : List V) (Q : VK) (E : XK), A.guards = some [] → Room k A → Env0 P w K mg base A outer s H → BindsTo s fd args (ps.zip us) → Vals vs us → sp vs H Q E →
    codeAny (model P w) A (.call (.ref f) args) (CR CX0 outer P w H s Q E) s
section
variable {P : Program} {w : World} {K : PySem.W.Frag} {mg : Str → Option Value} {base : Heap}
theorem okG {x qual : Str} {st : Stmt} {f : Addr} {fd : FuncData} {N ps : List Str} {k : Nat} {sp : Sp} (F : Fun K x qual st f fd) (S : FnScope N ps (defScope st)) (len : ∀ vs H Q E, sp vs H Q E → vs.length = ps.length)
    (bd : ∀ (cdv : Value) (A : Around) (outer : List Env) (s : Shared) (H : Hp) (vs : List V) (Q : VK) (E : XK), A.guards = some [] → Room k (A.deeper (envOfC qual (defScope st) s.heap.objs.size f cdv)) → sp vs H Q E →
      ∃ t, PSs (cxOf CX0 P w K mg base N qual (defScope st) f cdv A outer s H E).nox (defBody st) t ∧ t { nx := fun _ H' => Q .non H', rt := Q } (start N vs) H) : FnG P w K mg base (k + 1) f fd ps sp := by
  obtain ⟨oc, od, kV, doc, pm, an, cdv, ct, osl, rfl, lk, hcd⟩ := F.ex
  refine ⟨len, fun A outer s H args us vs Q E hg hr e0 hb r hsp => ?_⟩
  have KX : K.In s.heap := e0.mod.kin.keeps fun b o e => (e0.bs b o e).1
  have lim := e0.mod.nolimit.keeps fun b o e => (e0.bs b o e).1
  refine codeAny_call_function hr.depth (KX _ _ lk) rfl S.co S.gen rfl (PySem.W.codeRec_of KX hcd) (hb _ _ _ _ (wpAny_newFunctionEnv_cells S.kind (fun ⟨n, v⟩ hy => ?_) fun env he s1 x => ?_))
  · exact (S.par n (List.of_mem_zip hy).1).imp id fun q => ⟨q, PySem.W.cellsFrom_some _ _ _ (.inl q)⟩
  · subst he
    obtain ⟨t, ht, hq⟩ := bd cdv A outer s H vs Q E hg (hr.deeper _) hsp
    have I : Inv (cxOf CX0 P w K mg base N qual (defScope st) f cdv A outer s H E) [] (start N vs) H s1 := inv_start S hr.hd e0 (len _ _ _ _ hsp) r x
    refine ⟨lim.keeps x.toInCall.keep, codeAny_func (wpAny_mono (ht.nox.run [] s1 _ H _ I hq) (fun fl s' hs => ?_) fun _ _ z => z)⟩
    cases fl with
    | ret u =>
      obtain ⟨v, σ', H', J, rv, q⟩ := hs
      exact ⟨v, H', J.os, J.bare, J.base, J.hok, rv, q⟩
    | next =>
      obtain ⟨σ', H', J, q⟩ := hs
      exact ⟨V.non, H', J.os, J.bare, J.base, J.hok, rfl, q⟩
    | brk => exact hs.elim fun _ z => z.elim fun _ y => False.elim y.2
    | cont => exact hs.elim fun _ z => z.elim fun _ y => False.elim y.2
end
structure DfG (P : Program) (w : World) (K : PySem.W.Frag) (mg : Str → Option Value) (base : Heap) (k : Nat) (x : Str) (ps : List Str) (sp : Sp) : Prop where
  ex : ∃ (f : Addr) (fd : FuncData), FnG P w K mg base k f fd ps sp ∧ mg x = some (.ref f) ∧ PySem.W.keepIn K (.ref f) = true ∧ Binds K fd ps []
section
variable {X : Cx} {k : Nat} {ps : List Str} {sp : Sp} {x : Str} {p pos : Pos} {e : Expr} {es : List Expr} {t : TA}
theorem pe_dfG (D : DfG X.prog X.w X.K X.mg X.base k x ps sp) (hG : X.A.guards = some []) (hr : Room k X.A) (hg : Gl X x)
    (ha : PA X (e :: es) t) (hdb : (x == ("__debug__" : Str)) = false := by decide) (he : starEach (e :: es) X.env = (false, eval e X.env) :: starEach es X.env := by rfl) (hpl : (backTo pos (starEach es X.env)).any (·.1) = false := by rfl) :
    PE X (.Call (.Name x p) (e :: es) [] pos) (tCall sp [] E0 t) := by
  obtain ⟨f, fd, F, hm, hk, hb⟩ := D.ex
  refine ⟨fun pins s σ H Q I h => wpAny_Call_Name_kw (ld_glob I hg hm (PySem.W.callWith_K (h₀ := X.base) I.ok.mod.kin hk (thn (ha.run pos pins s σ H _ I h) fun us s1 ⟨vs, H1, I1, r, q⟩ => ⟨I1.kIn, ?_⟩) he hpl) hdb)⟩
  have q0 : sp vs H1 Q E0 := by
    have q1 : sp (vs ++ []) H1 Q E0 := q
    rw [List.append_nil] at q1
    exact q1
  have hl : (us ++ []).length = ps.length := by
    rw [List.append_nil, ← r.length]
    exact F.len _ _ _ _ q0
  have hbb := hb s1 us I1.kIn hl
  rw [List.append_nil] at hbb
  refine wpAny_call (codeAny_mono (F.run X.A X.stack s1 H1 ⟨us, []⟩ us vs Q E0 hG hr I1.env0 hbb r q0) fun z s' hq => ?_)
  cases z with
  | error e => exact hq.elim
  | ok fl =>
    cases fl with
    | ret u => exact I1.after hq
    | next => exact hq.elim
    | brk => exact hq.elim
    | cont => exact hq.elim
/-! ### repr of a list or tuple of plain things -/
def rRepr (K : PySem.W.Frag) : List V → Hp → VK → Prop := fun vs H Q => ∃ (a : Addr) (d : PyData), vs = [.ref a] ∧ Dp K H (.ref a) d ∧ d.showable = true ∧ d.hasDict = false ∧ d.depth ≤ 40 ∧ d.shown.length ≤ sizeLine ∧ Q (.str d.shown) H
theorem cr_repr (hG : X.A.guards = some []) (hu : X.A.units + 64 < cLine) : CallR X (.builtin "repr") (rRepr X.K) := by
  intro pins s σ H vs us Q I r h
  obtain ⟨a, d, rfl, hd, h1, h2, h3, h4, q⟩ := h
  obtain ⟨as, rd⟩ := Dp.reads I d _ (.ref a) hd rfl
  rw [Vals.ref1 r]
  refine repr_of_reads' (h₀ := s.heap) rd h1 (fun z => by rw [h2] at z; cases z) hG (by omega) (fun _ _ z => z) (fun h' u tk hk => ?_) h4
  exact ⟨.str d.shown, H, I.kept hk, ⟨_, rfl⟩, q⟩
/-! ### == by an own __eq__ -/
def rEqOwn (K : PySem.W.Frag) (C : Addr) (sp : Sp) : R2 := fun x y H Q => ∃ a dx fs ty, x = .ref a ∧ H a = some (.ins C dx fs) ∧ TyX K H y ty ∧ PySem.W.notFirst K C ty = true ∧ sp [x, y] H Q E0
theorem op_eqOwn {C g : Addr} {fd : FuncData} (hs : PySem.W.findIn X.K (.ref C) "__eq__" = some (some (.ref g))) (hf : PySem.W.isFn X.K (.ref g) = true) (F : FnOk X.prog X.w X.K X.mg X.base CX0 k g fd ps sp) (hb : Binds X.K fd ps []) (hr : Room k X.A) :
    OpR X (compareOp .Eq) (rEqOwn X.K C sp) := by
  intro pins s σ H x y v u Q I rx ry h
  obtain ⟨a, dx, fs, ty, rfl, ha, hy, hn, q⟩ := h
  cases (show v = Value.ref a from rx)
  obtain ⟨mA, O, _⟩ := ins_get I.hok ha
  obtain ⟨od, J, _⟩ := O.look
  obtain ⟨PH, Z, ph, _⟩ := kit_of I ry hy
  obtain ⟨m, hF⟩ := I.fr
  show wpAny _ _ (richCompare .Eq (.ref a) u) _ _ _
  refine PySem.W.cmp_K (op := .Eq) hr.units0 hF I.ok.mod.kin J (Z.ty _ _ I.kIn ph) hn hs hf ?_
  have q0 : sp ([.ref a, y] ++ []) H Q E0 := q
  refine wpAny_mono (run_fn (us := [.ref a, u]) (vs := [.ref a, y]) F hr hb .nil pass0 I (.cons rfl (.cons ry .nil)) q0) (fun w s' z => ?_) fun _ _ z => z
  obtain ⟨z', H', I', rz, qz⟩ := z
  exact SlX.cmpback rz ⟨z', H', I', rz, qz⟩
end
end RL

/-! The end of a law whose own def is promised where no repr is under way. -/
namespace RL
open PySem L2 PySem.Spec PyProof.Rows
end RL

/-! != of an own class with __eq__ alone; str and repr of its instances; a new one by keywords. -/
namespace RL
open PySem L2 PySem.Spec PyProof.Rows PySem.W Builtin
section
variable {prog : Program} {w : World} {A : Around} {E : Value → Shared → Prop} {s : Shared} {K : Frag} {x C L f : Addr} {h₀ : Heap} {m : Str → Option Value} {ox : Obj} {od : Option Obj} {b tb : Value}
end
section
variable {X : Cx} {k : Nat} {ps : List Str} {sp : Sp} {C g : Addr} {fd : FuncData}
def rNeOwn (K : PySem.W.Frag) (C : Addr) (sp : Sp) : R2 := fun x y H Q => ∃ a dx fs ty, x = .ref a ∧ H a = some (.ins C dx fs) ∧ TyX K H y ty ∧ PySem.W.notFirst K C ty = true ∧ sp [x, y] H (fun v H' => ∃ t, v = .bl t ∧ Q (.bl (!t)) H') E0
/-! ### str and repr of an instance -/
def rTextOwn (C : Addr) (sp : Sp) : List V → Hp → VK → Prop := fun vs H Q => ∃ a dx fs, vs = [.ref a] ∧ H a = some (.ins C dx fs) ∧ sp [.ref a] H (fun z H' => ∃ y : Str, z = .str y ∧ Q z H') E0
end
end RL

/-! The mathematics: whole roots, common divisors, the one equation of a number, its sign beside a fraction. -/
namespace RL
def Sm (n : Nat) (x : Int) : Prop := x.natAbs < 2 ^ n
theorem Sm.mono {m n : Nat} {x : Int} (h : Sm m x) (l : m ≤ n) : Sm n x := Nat.lt_of_lt_of_le h (Nat.pow_le_pow_right (by decide) l)
theorem Sm.mul {m n : Nat} {x y : Int} (h : Sm m x) (k : Sm n y) : Sm (m + n) (x * y) := by
  unfold Sm at *
  rw [Int.natAbs_mul, Nat.pow_add]
  exact Nat.mul_lt_mul'' h k
theorem Sm.add {n : Nat} {x y : Int} (h : Sm n x) (k : Sm n y) : Sm (n + 1) (x + y) := by
  unfold Sm at *
  rw [Nat.pow_succ]
  omega
theorem Sm.sub {n : Nat} {x y : Int} (h : Sm n x) (k : Sm n y) : Sm (n + 1) (x - y) := by
  unfold Sm at *
  rw [Nat.pow_succ]
  omega
theorem Sm.of {n : Nat} {x y : Int} (h : Sm n y) (a : -y ≤ x) (b : x ≤ y) : Sm n x := by
  unfold Sm at *
  omega
theorem Sm.div {n : Nat} {x y : Int} (h : Sm n x) (hy : 0 < y) : Sm n (x / y) := by
  unfold Sm at *
  have h1 : (x / y).natAbs ≤ x.natAbs := by
    rcases Int.le_total 0 x with hx | hx
    · have := Int.ediv_le_self y hx
      have := Int.ediv_nonneg hx (Int.le_of_lt hy)
      omega
    · have h3 : x / y ≤ 0 := by
        have := Int.ediv_le_ediv hy hx
        simpa using this
      have h2 : x ≤ x / y := by
        have h4 : x * y ≤ x := by
          have q := Int.mul_nonneg (a := -x) (b := y - 1) (by omega) (by omega)
          have e : -x * (y - 1) = x - x * y := by grind
          omega
        exact (Int.le_ediv_iff_mul_le hy).mpr h4
      omega
  omega
theorem sm40 {x : Int} (a : -(10 ^ 40) ≤ x) (b : x ≤ 10 ^ 40) : Sm 133 x := by
  unfold Sm
  have : (10 : Int) ^ 40 < 2 ^ 133 := by decide
  have e : ((2 ^ 133 : Nat) : Int) = 2 ^ 133 := by decide
  omega
/-! ### whole roots -/
def IsRt (w r : Int) : Prop := 0 ≤ r ∧ r * r ≤ w ∧ w < (r + 1) * (r + 1)
theorem IsRt.le {w r s : Int} (h : IsRt w r) (k : IsRt w s) : r ≤ s := by
  obtain ⟨h0, h1, h2⟩ := h
  obtain ⟨k0, k1, k2⟩ := k
  rcases Int.lt_or_le s r with l | l
  · have : (s + 1) * (s + 1) ≤ r * r := Int.mul_le_mul (by omega) (by omega) (by omega) (by omega)
    omega
  · exact l
theorem IsRt.eq {w r s : Int} (h : IsRt w r) (k : IsRt w s) : r = s := Int.le_antisymm (h.le k) (k.le h)
theorem rtN_is : ∀ n, rtN n * rtN n ≤ n ∧ n < (rtN n + 1) * (rtN n + 1)
  | 0 => ⟨Nat.le_refl _, by decide⟩
  | n + 1 => by
    have ih := rtN_is n
    unfold rtN
    split
    · rename_i h
      refine ⟨h, ?_⟩
      have : (rtN n + 1 + 1) * (rtN n + 1 + 1) = (rtN n + 1) * (rtN n + 1) + 2 * (rtN n + 1) + 1 := by grind
      omega
    · rename_i h
      omega
theorem rt_is {w : Int} (h : 0 ≤ w) : IsRt w (rt w) := by
  have k := rtN_is w.toNat
  have e : (w.toNat : Int) = w := Int.toNat_of_nonneg h
  refine ⟨Int.natCast_nonneg _, ?_, ?_⟩
  · have := Int.ofNat_le.mpr k.1
    rw [Int.natCast_mul, e] at this
    exact this
  · have := Int.ofNat_lt.mpr k.2
    rw [Int.natCast_mul, e, Int.natCast_add] at this
    exact this
theorem rt_of {w r : Int} (h : IsRt w r) : r = rt w := h.eq (rt_is (Int.le_trans (Int.mul_nonneg h.1 h.1) h.2.1))
theorem rt_sm {n : Nat} {w : Int} (h0 : 0 ≤ w) (h : Sm (2 * n) w) : Sm n (rt w) := by
  obtain ⟨a, b, _⟩ := rt_is h0
  unfold Sm at *
  refine Nat.lt_of_not_le fun q => ?_
  have e : (2 : Nat) ^ (2 * n) = 2 ^ n * 2 ^ n := by rw [← Nat.pow_add]; congr 1; omega
  have : 2 ^ n * 2 ^ n ≤ (rt w).natAbs * (rt w).natAbs := Nat.mul_le_mul q q
  have e2 : (rt w * rt w).natAbs = (rt w).natAbs * (rt w).natAbs := Int.natAbs_mul _ _
  have : (rt w * rt w).natAbs ≤ w.natAbs := by
    have := Int.mul_nonneg a a
    omega
  omega
theorem newton {n g : Int} (hn : 0 ≤ n) (hg : 0 ≤ g) (h : n < (g + 1) * (g + 1)) (l : n < g * g) :
    0 < g ∧ 0 ≤ (g + n / g) / 2 ∧ (g + n / g) / 2 < g ∧ n < ((g + n / g) / 2 + 1) * ((g + n / g) / 2 + 1) := by
  have g0 : 0 < g := by
    rcases Int.lt_or_le 0 g with q | q
    · exact q
    · have : g = 0 := by omega
      subst this
      omega
  have q0 : 0 ≤ n / g := Int.ediv_nonneg hn hg
  have q1 : n < g * (n / g + 1) := by
    have := Int.lt_mul_ediv_self_add (x := n) (k := g) g0
    rw [Int.mul_add, Int.mul_one]
    exact this
  have q2 : n / g < g := Int.ediv_lt_of_lt_mul g0 l
  generalize n / g = q at *
  have hm : g + q ≤ 2 * ((g + q) / 2) + 1 := by omega
  have h0 : 0 ≤ (g + q) / 2 := by omega
  have h1 : (g + q) / 2 < g := by omega
  generalize (g + q) / 2 = m at *
  refine ⟨g0, h0, h1, ?_⟩
  have a1 : (g + q + 1) * (g + q + 1) ≤ (2 * (m + 1)) * (2 * (m + 1)) := Int.mul_le_mul (by omega) (by omega) (by omega) (by omega)
  have a2 : 0 ≤ (g - q - 1) * (g - q - 1) := by
    rcases Int.le_total 0 (g - q - 1) with z | z
    · exact Int.mul_nonneg z z
    · exact Int.mul_nonneg_of_nonpos_of_nonpos z z
  have a3 : (g + q + 1) * (g + q + 1) = 4 * (g * (q + 1)) + (g - q - 1) * (g - q - 1) := by grind
  have a4 : (2 * (m + 1)) * (2 * (m + 1)) = 4 * ((m + 1) * (m + 1)) := by grind
  omega
/-! ### common divisors -/
theorem gc_pos {a b : Int} (h : a ≠ 0 ∨ b ≠ 0) : 0 < gc a b := by
  unfold gc
  have : 0 < Int.gcd a b := by
    rcases Nat.eq_zero_or_pos (Int.gcd a b) with z | z
    · rw [Int.gcd_eq_zero_iff] at z
      omega
    · exact z
  omega
theorem gc_dvd1 (a b : Int) : gc a b ∣ a := Int.gcd_dvd_left ..
theorem gc_dvd2 (a b : Int) : gc a b ∣ b := Int.gcd_dvd_right ..
theorem gc_zero {a : Int} (h : 0 ≤ a) : gc a 0 = a := by
  unfold gc
  rw [Int.gcd_zero_right]
  omega
theorem gc_step {a b : Int} (ha : 0 ≤ a) (hb : 0 < b) : gc b (a % b) = gc a b := by
  obtain ⟨n, rfl⟩ := Int.eq_ofNat_of_zero_le ha
  obtain ⟨m, rfl⟩ := Int.eq_ofNat_of_zero_le (Int.le_of_lt hb)
  unfold gc
  congr 1
  rw [← Int.natCast_emod, Int.gcd_natCast_natCast, Int.gcd_natCast_natCast, Nat.gcd_comm, ← Nat.gcd_rec, Nat.gcd_comm]
theorem gc_abs (a b : Int) : gc (if a < 0 then -a else a) (if b < 0 then -b else b) = gc a b := by
  unfold gc
  congr 1
  split <;> split <;> simp
theorem ex_mul {g a : Int} (h : g ∣ a) (hg : 0 < g) : a = g * (a / g) := (Int.mul_ediv_cancel' h).symm
/-! ### the one equation of a number -/
def Good (a b c : Int) : Prop := (a = 0 ∧ 1 ≤ b ∧ 0 ≤ c) ∨ (1 ≤ a ∧ 1 ≤ c)
structure Nrm (a b c s l w : Int) : Prop where
  good : Good s l w
  /-- the sign beside x / y -/
  sgn : ∀ x y : Int, 0 ≤ x → 1 ≤ y → (0 < w * y * y - l * x * y - s * x * x ↔ a * x * x + b * x * y - c * y * y < 0) ∧ (w * y * y - l * x * y - s * x * x = 0 ↔ a * x * x + b * x * y - c * y * y = 0)
theorem pos_iff {k u : Int} (hk : 0 < k) : (0 < k * u ↔ 0 < u) ∧ (k * u = 0 ↔ u = 0) := by
  refine ⟨⟨fun h => ?_, fun h => Int.mul_pos hk h⟩, ⟨fun h => ?_, fun h => by rw [h, Int.mul_zero]⟩⟩
  · rcases Int.lt_or_le 0 u with z | z
    · exact z
    · have := Int.mul_nonpos_of_nonneg_of_nonpos (Int.le_of_lt hk) z
      omega
  · rcases Int.mul_eq_zero.mp h with z | z
    · omega
    · exact z
theorem nrm_div {a b c g : Int} (h : Good a b c) (hg : 0 < g) (da : g ∣ a) (db : g ∣ b) (dc : g ∣ c) : Nrm a b c (a / g) (b / g) (c / g) := by
  have ea := ex_mul da hg
  have eb := ex_mul db hg
  have ec := ex_mul dc hg
  generalize a / g = s at *
  generalize b / g = l at *
  generalize c / g = w at *
  subst ea eb ec
  refine ⟨?_, fun x y hx hy => ?_⟩
  · rcases h with ⟨h1, h2, h3⟩ | ⟨h1, h2⟩
    · refine .inl ⟨((pos_iff hg).2.mp h1), ?_, ?_⟩
      · have := (pos_iff (u := l) hg).1.mp (by omega)
        omega
      · rcases Int.lt_or_le w 0 with z | z
        · have := Int.mul_neg_of_pos_of_neg hg z
          omega
        · exact z
    · refine .inr ⟨?_, ?_⟩
      · have := (pos_iff (u := s) hg).1.mp (by omega)
        omega
      · have := (pos_iff (u := w) hg).1.mp (by omega)
        omega
  · have e : g * s * x * x + g * l * x * y - g * w * y * y = -(g * (w * y * y - l * x * y - s * x * x)) := by grind
    rw [e]
    have := pos_iff (k := g) (u := w * y * y - l * x * y - s * x * x) hg
    refine ⟨?_, ?_⟩
    · rw [← this.1]; omega
    · rw [← this.2]; omega
theorem rt_gt {b t r : Int} (ht : 0 < t) (hr : 0 ≤ r) (e : b * b + t = r * r) : 0 < r + b ∧ 0 < r - b := by
  refine ⟨?_, ?_⟩
  · rcases Int.lt_or_le 0 (r + b) with z | z
    · exact z
    · have h1 : 0 ≤ (-b - r) * (-b + r) := Int.mul_nonneg (by omega) (by omega)
      have h2 : (-b - r) * (-b + r) = b * b - r * r := by grind
      omega
  · rcases Int.lt_or_le 0 (r - b) with z | z
    · exact z
    · have h1 : 0 ≤ (b - r) * (b + r) := Int.mul_nonneg (by omega) (by omega)
      have h2 : (b - r) * (b + r) = b * b - r * r := by grind
      omega
theorem nrm_root {a b c r g : Int} (ha : 1 ≤ a) (hc : 1 ≤ c) (hr : 0 ≤ r) (e : b * b + 4 * a * c = r * r) (hg : 0 < g) (d1 : g ∣ r - b) (d2 : g ∣ 2 * a) : Nrm a b c 0 (2 * a / g) ((r - b) / g) := by
  have hac : 0 < 4 * a * c := Int.mul_pos (by omega) (by omega)
  obtain ⟨p1, p2⟩ := rt_gt hac hr e
  have e1 := ex_mul d1 hg
  have e2 := ex_mul d2 hg
  have l0 : 1 ≤ 2 * a / g := by
    have := (pos_iff (u := 2 * a / g) hg).1.mp (by omega)
    omega
  have w0 : 1 ≤ (r - b) / g := by
    have := (pos_iff (u := (r - b) / g) hg).1.mp (by omega)
    omega
  generalize 2 * a / g = l at *
  generalize (r - b) / g = w at *
  refine ⟨.inl ⟨rfl, l0, by omega⟩, fun x y hx hy => ?_⟩
  have k : 0 < r * y + b * y + 2 * a * x := by
    have h1 : 0 < (r + b) * y := Int.mul_pos p1 (by omega)
    have h2 : 0 ≤ 2 * a * x := Int.mul_nonneg (by omega) hx
    have h3 : (r + b) * y = r * y + b * y := by grind
    omega
  have y0 : 0 < y := by omega
  -- y * g * (w y - l x) = y * ((r - b) y - 2 a x)
  have f1 : g * (w * y * y - l * x * y - 0 * x * x) = y * ((r - b) * y - 2 * a * x) := by
    rw [e1, e2]; grind
  have f2 : 4 * a * (c * y * y - a * x * x - b * x * y) = (r * y + b * y + 2 * a * x) * ((r - b) * y - 2 * a * x) := by grind
  have q1 := pos_iff (u := w * y * y - l * x * y - 0 * x * x) hg
  have q2 := pos_iff (u := (r - b) * y - 2 * a * x) y0
  have q3 := pos_iff (k := 4 * a) (u := c * y * y - a * x * x - b * x * y) (by omega)
  have q4 := pos_iff (u := (r - b) * y - 2 * a * x) k
  rw [f1] at q1
  rw [f2] at q3
  refine ⟨?_, ?_⟩
  · rw [← q1.1, q2.1, ← q4.1, q3.1]; omega
  · rw [← q1.2, q2.2, ← q4.2, q3.2]; omega
theorem inside_pos {a b c : Int} (h : 1 ≤ a ∧ 1 ≤ c) : 0 < 4 * a * c ∧ 0 ≤ b * b + 4 * a * c := by
  have hac : 0 < 4 * a * c := Int.mul_pos (by omega) (by omega)
  have hb : 0 ≤ b * b := by
    rcases Int.le_total 0 b with z | z
    · exact Int.mul_nonneg z z
    · exact Int.mul_nonneg_of_nonpos_of_nonpos z z
  omega
theorem parts_nrm {a b c : Int} (h : Good a b c) : Nrm a b c (parts a b c).1 (parts a b c).2.1 (parts a b c).2.2 := by
  unfold parts
  rcases h with ⟨rfl, h2, h3⟩ | h
  · rw [if_pos rfl]
    have g0 : 0 < gc c b := gc_pos (.inr (by omega))
    have := nrm_div (a := 0) (b := b) (c := c) (.inl ⟨rfl, h2, h3⟩) g0 (Int.dvd_zero _) (gc_dvd2 _ _) (gc_dvd1 _ _)
    rw [Int.zero_ediv] at this
    exact this
  · rw [if_neg (by omega)]
    have k := inside_pos (b := b) h
    split
    · rename_i e
      exact nrm_root h.1 h.2 (rt_is k.2).1 e.symm (gc_pos (.inr (by omega))) (gc_dvd1 _ _) (gc_dvd2 _ _)
    · exact nrm_div (.inr h) (gc_pos (.inr (by omega))) (Int.dvd_trans (gc_dvd1 _ _) (gc_dvd1 _ _)) (Int.dvd_trans (gc_dvd1 _ _) (gc_dvd2 _ _)) (gc_dvd2 _ _)
/-! ### beside a fraction -/
def sg (n : Int) : Int := if 0 < n then 1 else if n < 0 then -1 else 0
def side (a b c x y : Int) : Int := if y = 0 then -1 else sg (-(a * x * x + b * x * y - c * y * y))
def beside (s l w x y : Int) : Int := sg (w * y * y - l * x * y - s * x * x)
theorem Nrm.side {a b c s l w x y : Int} (h : Nrm a b c s l w) (hx : 0 ≤ x) (hy : 1 ≤ y) : beside s l w x y = RL.side a b c x y := by
  obtain ⟨k1, k2⟩ := h.sgn x y hx hy
  unfold beside RL.side sg
  rw [if_neg (show ¬ y = 0 by omega)]
  generalize w * y * y - l * x * y - s * x * x = u at *
  generalize a * x * x + b * x * y - c * y * y = v at *
  by_cases p : 0 < u
  · have := k1.mp p
    rw [if_pos p, if_pos (by omega)]
  · by_cases q : u = 0
    · have := k2.mp q
      rw [if_neg p, if_neg (by omega), if_neg (by omega), if_neg (by omega)]
    · have : ¬ v < 0 := fun z => p (k1.mpr z)
      have : ¬ v = 0 := fun z => q (k2.mpr z)
      rw [if_neg p, if_pos (by omega), if_neg (by omega), if_pos (by omega)]
/-! ### floors -/
def flo (s l w t : Int) : Int := if s = 0 then t * w / l else (rt (t * t * (l * l + 4 * s * w)) - t * l) / (2 * s)
end RL

/-! The order of two numbers: by the program's signs, and that unlike small ones differ within thirty figures. -/
namespace RL
def Fv (s l w x y : Int) : Int := w * y * y - l * x * y - s * x * x
/-! ### the program's order -/
def sal0 (s l w sl h : Int) : Int := if sl = 0 ∨ h < 0 then sg (-h) else beside s l w h sl
def sal (s l w sl h : Int) : Int := if sl < 0 then -(sal0 s l w (-sl) (-h)) else sal0 s l w sl h
def ord (s l w s' l' w' : Int) : Int := if s' = 0 then beside s l w w' l' else -(sal s' l' w' (l * s' - l' * s) (w * s' - w' * s))
/-! ### lowest terms, and one equation for one number -/
theorem gc_mul {k a b : Int} (hk : 0 ≤ k) : gc (k * a) (k * b) = k * gc a b := by
  unfold gc
  rw [Int.gcd_mul_left, Int.natCast_mul]
  congr 1
  omega
theorem cancel {a b c : Int} (ha : 0 < a) (h : a * b = a * c) : b = c := Int.eq_of_mul_eq_mul_left (by omega) h
theorem low_eq {c b p q : Int} (hb : 0 < b) (hq : 0 < q) (h : c * q = p * b) : b / gc c b = q / gc p q ∧ c / gc c b = p / gc p q := by
  have g1 : 0 < gc c b := gc_pos (.inr (by omega))
  have g2 : 0 < gc p q := gc_pos (.inr (by omega))
  have e : q * gc c b = b * gc p q := by
    rw [← gc_mul (by omega), ← gc_mul (by omega)]
    congr 1
    · rw [Int.mul_comm q c, h, Int.mul_comm]
    · exact Int.mul_comm _ _
  have b1 := ex_mul (gc_dvd2 c b) g1
  have c1 := ex_mul (gc_dvd1 c b) g1
  have q1 := ex_mul (gc_dvd2 p q) g2
  have p1 := ex_mul (gc_dvd1 p q) g2
  generalize b / gc c b = B at *
  generalize c / gc c b = Cc at *
  generalize q / gc p q = Qq at *
  generalize p / gc p q = Pp at *
  generalize gc c b = G at *
  generalize gc p q = K at *
  have gk : 0 < G * K := Int.mul_pos g1 g2
  have e1 : B = Qq := by
    refine cancel gk ?_
    rw [b1, q1] at e
    grind
  refine ⟨e1, ?_⟩
  have bp : 0 < B := by
    refine Classical.byContradiction fun z => ?_
    have := Int.mul_nonpos_of_nonneg_of_nonpos (Int.le_of_lt g1) (Int.not_lt.mp z)
    omega
  refine cancel (Int.mul_pos gk bp) ?_
  rw [c1, q1, p1, b1] at h
  subst e1
  grind
end RL

namespace RL
structure Tiny (a b c : Int) : Prop where
  good : Good a b c
  ha : a ≤ 60
  hb : -61 ≤ b ∧ b ≤ 61
  hc : c ≤ 60
theorem Tiny.nn {a b c : Int} (h : Tiny a b c) : 0 ≤ a ∧ 0 ≤ c := by
  rcases h.good with g | g <;> omega
theorem off {a b c n N : Int} (t : Tiny a b c) (hN : 1 ≤ N) (hn : 0 ≤ n) (h1 : 0 ≤ Fv a b c n N) (h2 : Fv a b c (n + 1) N < 0) : n ≤ 62 * N ∧ Fv a b c n N ≤ 8000 * N := by
  obtain ⟨a0, c0⟩ := t.nn
  have nb : n ≤ 62 * N := by
    refine Classical.byContradiction fun q => ?_
    have q' : 62 * N < n := by omega
    rcases t.good with ⟨rfl, b0, _⟩ | ⟨a1, c1⟩
    · have e : Fv 0 b c n N = N * (c * N - b * n) := by unfold Fv; grind
      have k1 : n ≤ b * n := by
        have := Int.mul_le_mul_of_nonneg_right (a := 1) (b := b) (c := n) b0 hn
        omega
      have k2 : c * N ≤ 60 * N := Int.mul_le_mul_of_nonneg_right t.hc (by omega)
      have := Int.mul_neg_of_pos_of_neg (a := N) (b := c * N - b * n) (by omega) (by omega)
      omega
    · have k1 : n * n ≤ a * (n * n) := by
        have := Int.mul_le_mul_of_nonneg_right (a := 1) (b := a) (c := n * n) a1 (Int.mul_nonneg hn hn)
        omega
      have k2 : -61 * (n * N) ≤ b * (n * N) := Int.mul_le_mul_of_nonneg_right t.hb.1 (Int.mul_nonneg hn (by omega))
      have k3 : c * (N * N) ≤ 60 * (N * N) := Int.mul_le_mul_of_nonneg_right t.hc (Int.mul_nonneg (by omega) (by omega))
      have k4 : 62 * N * N ≤ n * (n - 61 * N) := Int.mul_le_mul (by omega) (by omega) (by omega) hn
      have e1 : Fv a b c n N = c * (N * N) - b * (n * N) - a * (n * n) := by unfold Fv; grind
      have e2 : n * (n - 61 * N) = n * n - 61 * (n * N) := by grind
      have e3 : 62 * N * N = 62 * (N * N) := by grind
      have k5 : 0 < N * N := Int.mul_pos (by omega) (by omega)
      omega
  refine ⟨nb, ?_⟩
  have e : Fv a b c n N - Fv a b c (n + 1) N = a * (2 * n + 1) + b * N := by unfold Fv; grind
  have k1 : a * (2 * n + 1) ≤ 60 * (2 * n + 1) := Int.mul_le_mul_of_nonneg_right t.ha (by omega)
  have k2 : b * N ≤ 61 * N := Int.mul_le_mul_of_nonneg_right t.hb.2 (by omega)
  omega
end RL

namespace RL
theorem Nrm.fv {a b c s l w x y : Int} (N : Nrm a b c s l w) (hx : 0 ≤ x) (hy : 1 ≤ y) : (Fv s l w x y < 0 ↔ Fv a b c x y < 0) ∧ (0 ≤ Fv s l w x y ↔ 0 ≤ Fv a b c x y) := by
  obtain ⟨k1, k2⟩ := N.sgn x y hx hy
  have e : Fv a b c x y = -(a * x * x + b * x * y - c * y * y) := by unfold Fv; omega
  have e2 : Fv s l w x y = w * y * y - l * x * y - s * x * x := rfl
  rw [e, e2]
  generalize w * y * y - l * x * y - s * x * x = u at *
  generalize a * x * x + b * x * y - c * y * y = v at *
  constructor <;> constructor <;> intro h <;> omega
abbrev ordP (p q : Int × Int × Int) : Int := ord p.1 p.2.1 p.2.2 q.1 q.2.1 q.2.2
def dueAt (a b c a' b' c' : Int) : List Nat → Int
  | [] => 0
  | n :: r => if flo a b c (10 ^ n) = flo a' b' c' (10 ^ n) then dueAt a b c a' b' c' r else if flo a b c (10 ^ n) < flo a' b' c' (10 ^ n) then -1 else 1
def dueV (a b c a' b' c' : Int) : Int := if parts a b c = parts a' b' c' then 0 else dueAt a b c a' b' c' [3, 12, 30]
/-! ### k + sqrt(k * k + 1) and sqrt(4 * k * k + 2) -/
/-! ### a number and a fraction -/
end RL

/-! The texts of numbers, and that repr of what is told fits. -/
namespace RL
open PySem L2
structure OkT (n : Nat) (x : Str) : Prop where
  len : x.length ≤ n
  cps : ∀ c ∈ x.cps.toList, c < 16 ^ 8
theorem OkT.mono {m n : Nat} {x : Str} (h : OkT m x) (l : m ≤ n) : OkT n x := ⟨Nat.le_trans h.len l, h.cps⟩
theorem OkT.of (s : String) : OkT s.length (Str.ofString s) := by
  refine ⟨Nat.le_of_eq (ofString_length s), fun c hc => ?_⟩
  rw [PyProof.Rows.signs_ofString] at hc
  obtain ⟨ch, _, rfl⟩ := List.mem_map.mp hc
  have h1 : ch.toNat < 2 ^ 32 := ch.val.toNat_lt
  have h2 : (16 : Nat) ^ 8 = 2 ^ 32 := by decide
  omega
theorem OkT.app {m n : Nat} {x y : Str} (h : OkT m x) (k : OkT n y) : OkT (m + n) (x ++ y) := by
  refine ⟨?_, fun c hc => ?_⟩
  · rw [Str.length_append]
    have := h.len
    have := k.len
    omega
  · have e : (x ++ y).cps.toList = x.cps.toList ++ y.cps.toList := by
      show (x.cps ++ y.cps).toList = _
      rw [Array.toList_append]
    rw [e] at hc
    exact (List.mem_append.mp hc).elim (h.cps c) (k.cps c)
theorem log_sm {n : Nat} {i : Int} (hn : 0 < n) (h : Sm n i) : i.natAbs.log2 < n := PySem.Flt.log2_lt_of hn h
theorem ts_ok {i : Int} (h : Sm 200 i) : OkT 201 (ts i) := (OkT.of (toString i)).mono (int_text_length_le (by decide) (log_sm (by decide) h))
theorem show_int {i : Int} (h : Sm 200 i) : (PyData.int i).showable = true ∧ (PyData.int i).leavesShort 300 = true ∧ (PyData.int i).weight ≤ 200 := by
  have l := log_sm (by decide) h
  refine ⟨?_, ?_, ?_⟩
  · show decide (i.natAbs.log2 < 1920) = true
    exact decide_eq_true (by omega)
  · show decide ((PyData.shown (.int i)).length ≤ 300) = true
    refine decide_eq_true ?_
    have e : PyData.shown (.int i) = ts i := rfl
    rw [e]
    exact Nat.le_trans (ts_ok h).len (by decide)
  · show (if i == 0 then 0 else i.natAbs.log2 + 1) ≤ 200
    split <;> omega
structure Shows (d : PyData) : Prop where
  s : d.showable = true
  n : d.hasDict = false
  p : d.depth ≤ 40
  l : d.shown.length ≤ sizeLine
/-! ### the texts -/
def commas (a b c : Int) : Str := ts a ++ ", " ++ ts b ++ ", " ++ ts c
def ftext (t b : Int) : Str := if b = 1 then ts t else ts t ++ "/" ++ ts b
def xtext (s l w : Int) : Str := if s = 0 then ftext w l else "root of " ++ commas s l w
def rtext (s l w : Int) : Str := "Exact(" ++ commas s l w ++ ")"
theorem OkT.fits {n : Nat} {x : Str} (h : OkT n x) (l : n ≤ 100000 := by decide) : x.length ≤ sizeLine := by
  have := h.len
  rw [sizeLine_eq]
  omega
end RL

set_option maxHeartbeats 1000000
/-! Further rules: o.f as a target within a tuple; an own binary operator; a static method read off its class; an instance called by keyword; t[::-1] of a tuple; x in a tuple of data. -/
namespace RL
open PySem L2 PySem.Spec PyProof.Rows PySem.W
section
variable {X : Cx}
def gFld (K : PySem.W.Frag) (ta : TE) (f : Str) : TG := fun v σ H Q => ta σ H fun x H1 => ∃ a C dx fs, x = .ref a ∧ H1 a = some (.ins C dx fs) ∧ Cls K C ∧ NoAttr K C f ∧ fs.length < 1000 ∧ Q σ (upd H1 a (.ins C dx (putF f v fs)))
theorem pg_fld {o : Expr} {f : Str} {pos : Pos} {ta : TE} (ho : PE X o ta) (ha : ∀ v, assign (.Attribute o f pos) X.env v = (do
      let ov ← holding [v] (eval o X.env)
      standAt pos.atName
      holding [v, ov] (setAttr ov f v)
      release [v, ov] []) := by intro _; rfl) : PG X (.Attribute o f pos) (gFld X.K ta f) := by
  refine ⟨fun pins s σ H v u Q I r h => ?_⟩
  rw [ha]
  refine wpAny_bind (wpAny_holding (thn (ho.run pins s σ H _ I h) fun ov s1 ⟨x, H1, I1, r1, a, C, dx, fs, ex, ea, c, n, l, q⟩ => ?_))
  subst ex
  obtain rfl : ov = Value.ref a := r1
  refine wpAny_bind (wpAny_standAt (wpAny_bind (wpAny_holding (setattr_ok I1 ea c n l r fun s2 I2 => ?_))))
  exact wpAny_release ⟨σ, _, I2, q⟩
end
/-! ### an own binary operator -/
section
variable {X : Cx} {k : Nat} {ps : List Str} {sp : Sp} {C g : Addr} {fd : FuncData}
def rBinOwn (C : Addr) (sp : Sp) : R2 := fun x y H Q => ∃ a dx fs b dy gs, x = .ref a ∧ H a = some (.ins C dx fs) ∧ y = .ref b ∧ H b = some (.ins C dy gs) ∧ sp [x, y] H Q E0
end
/-! ### C.m(..), m a static method -/
structure SMet (K : PySem.W.Frag) (C : Addr) (mc : Value) (m : Str) (p g : Addr) : Prop where
  at_ : PySem.W.findCls K (.ref C) mc m = some (.get (.builtin "staticmethod.__get__") (.ref p) .none (.ref C))
  rc : ∃ rest, PySem.W.recIn K p "staticmethod" = some (.ref g :: rest)
  kp : PySem.W.keepIn K (.ref g) = true
def tSMeth (C : Addr) (sp : Sp) (ta : TE) (t : TA) : TE := fun σ H Q => ta σ H fun x H1 => x = .ref C ∧ t σ H1 fun vs H2 => sp vs H2 Q E0
section
variable {X : Cx} {k : Nat} {ps : List Str} {C p g : Addr} {mc : Value} {sp : Sp} {fd : FuncData} {o e : Expr} {es : List Expr} {m : Str} {pos apos : Pos} {ta : TE} {t : TA} {pl : Sem Bool}
theorem pe_smeth (he : PE X o ta) (r : ClX.CRead X.K C mc) (c : SMet X.K C mc m p g) (F : FnOk X.prog X.w X.K X.mg X.base CX0 k g fd ps sp) (hb : Binds X.K fd ps []) (hr : Room k X.A) (ha : PA X (e :: es) t)
    (hst : starEach (e :: es) X.env = (false, eval e X.env) :: starEach es X.env := by rfl) (hpl : (backTo pos (starEach es X.env)).any (·.1) = false := by rfl)
    (ht : eval (.Call (.Attribute o m apos) (e :: es) [] pos) X.env = (do
      let ov ← eval o X.env
      standAt apos.atName
      let (f, first) ← holding [ov] (getMethod ov m pl)
      callWith pos f first (backTo pos (starEach (e :: es) X.env)) (backToKw pos (keywordEach [] X.env))) := by rfl) :
    PE X (.Call (.Attribute o m apos) (e :: es) [] pos) (tSMeth C sp ta t) := by
  refine ⟨fun pins s σ H Q I h => ?_⟩
  refine PySem.W.methodCall_KW (pl := pl) (thn (he.run pins s σ H _ I h) fun u s1 ⟨x, H1, I1, rx, ex, q⟩ => ?_) ht
  subst ex
  obtain rfl : u = Value.ref C := rx
  obtain ⟨rest, hp⟩ := c.rc
  refine PySem.W.method_cls I1.kIn r.ga (PySem.W.cls_bind I1.kIn r.rd c.at_ (wpAny_call (PySem.W.sm_get (s := { s1 with toks := s1.toks + 1 }) I1.kIn hp (PySem.W.handed_on rfl ?_))))
  have I2 := I1.tok (s1.toks + 1)
  refine PySem.W.callWith_K (first := []) (h₀ := X.base) I.ok.mod.kin c.kp (thn (ha.run pos pins _ σ H1 _ I2 q) fun us s2 ⟨vs, H2, I3, rv, q2⟩ => ⟨I3.kIn, ?_⟩) hst hpl
  have q0 : sp (vs ++ []) H2 Q E0 := by
    rw [List.append_nil]
    exact q2
  exact run_fn (us := us) F hr hb .nil pass0 I3 rv q0
end
/-! ### an instance called by one keyword -/
section
variable {X : Cx} {k : Nat} {C g : Addr} {sp : Sp} {fd : FuncData} {fe e : Expr} {es : List Expr} {pos kpos : Pos} {p1 kw : Str} {tf : TE} {tk : TA} {t : TA}
def tCallOK (X : Cx) (C : Addr) (sp : Sp) (tf : TE) (tk : TA) : TE := fun σ H Q => tf σ H fun y H1 => ∃ a, y = V.ref a ∧ tk σ H1 fun vs H2 => (∃ dx fs, H2 a = some (.ins C dx fs)) ∧ sp (V.ref a :: vs) H2 Q E0
end
/-! ### t[::-1] -/
section
variable {prog : Program} {w : World} {A : Around} {E : Value → Shared → Prop} {s : Shared}
open HT
end
section
variable {X : Cx}
def tRevT (K : PySem.W.Frag) (te : TE) : TE := fun σ H Q => te σ H fun x H1 => ∃ a xs, x = .ref a ∧ SqT K H1 a xs ∧ ∀ p, H1 p = none → Q (.ref p) (upd H1 p (.tup xs.reverse))
/-! ### x in a tuple of data -/
def rInT (K : PySem.W.Frag) : R2 := fun x y H Q => ∃ d ds, Dp K H x d ∧ Dp K H y (.tuple ds) ∧ SeqAt.shaped d = true ∧ SeqAt.shaped (.tuple ds) = true ∧ Q (.bl (ds.any fun z => PyData.eqv z d)) H
theorem op_inT (hu : X.A.units + 65 < cLine) : OpR X (compareOp .In) (rInT X.K) := by
  intro pins s σ H x y v u Q I rx ry h
  obtain ⟨d, ds, hd, he, sd, se, q⟩ := h
  obtain ⟨as, r1⟩ := Dp.reads I d x v hd rx
  obtain ⟨bs, r2⟩ := Dp.reads I (.tuple ds) y u he ry
  exact SeqAt.in_tuple_reads r2 r1 (SeqAt.canLay_of_shaped se) (SeqAt.canLay_of_shaped sd) (room_in_shaped sd hu) ⟨.bl _, H, I, rfl, q⟩
end
end RL

/-! The mathematics of rows of pieces: their maps, what they show. -/
namespace RL
abbrev Pc := Bool × Int
def PcOk (p : Pc) : Prop := 1 ≤ p.2 ∧ p.2 ≤ 12
structure Mx where
  a : Int
  b : Int
  c : Int
  d : Int
def stepM (m : Mx) (p : Pc) : Mx := if p.1 = true then ⟨m.a, m.a * p.2 + m.b, m.c, m.c * p.2 + m.d⟩ else ⟨m.a * p.2 + m.b, m.b * p.2, m.c * p.2 + m.d, m.d * p.2⟩
def stepS (s : Int) (p : Pc) : Int := if p.1 = true then s else s * p.2
def m1 : Mx := ⟨1, 0, 0, 1⟩
def matR (r : List Pc) : Mx := r.foldl stepM m1
def sclR (r : List Pc) : Int := r.foldl stepS 1
def Mx.app (m : Mx) (e : Int × Int) : Int × Int := (m.a * e.1 + m.b * e.2, m.c * e.1 + m.d * e.2)
def act (p : Pc) (e : Int × Int) : Int × Int := if p.1 = true then (e.1 + p.2 * e.2, e.2) else (p.2 * e.1, e.1 + p.2 * e.2)
def actR (r : List Pc) (e : Int × Int) : Int × Int := r.foldr act e
theorem app_step (m : Mx) (p : Pc) (e : Int × Int) : (stepM m p).app e = m.app (act p e) := by
  unfold stepM act Mx.app
  split <;> (ext <;> dsimp <;> grind)
theorem app_fold (r : List Pc) : ∀ (m : Mx) (e : Int × Int), (r.foldl stepM m).app e = m.app (actR r e) := by
  induction r with
  | nil => exact fun _ _ => rfl
  | cons p r ih =>
    intro m e
    rw [List.foldl_cons, ih, app_step]
    rfl
theorem app_one (e : Int × Int) : m1.app e = e := by
  unfold Mx.app m1
  ext <;> dsimp <;> omega
theorem mat_app (r : List Pc) (e : Int × Int) : (matR r).app e = actR r e := by
  unfold matR
  rw [app_fold, app_one]
theorem act_app (r r' : List Pc) (e : Int × Int) : actR (r ++ r') e = actR r (actR r' e) := List.foldr_append ..
def Pos2 (e : Int × Int) : Prop := 0 ≤ e.1 ∧ 0 ≤ e.2 ∧ (0 < e.1 ∨ 0 < e.2)
def sc (k : Int) (e : Int × Int) : Int × Int := (k * e.1, k * e.2)
theorem act_pos {p : Pc} {e : Int × Int} (hp : PcOk p) (h : Pos2 e) : Pos2 (act p e) := by
  obtain ⟨h1, h2, h3⟩ := h
  obtain ⟨q1, q2⟩ := hp
  have m1 := Int.mul_nonneg (show 0 ≤ p.2 by omega) h1
  have m2 := Int.mul_nonneg (show 0 ≤ p.2 by omega) h2
  unfold act Pos2
  split
  · dsimp
    omega
  · dsimp
    refine ⟨m1, by omega, ?_⟩
    rcases h3 with h3 | h3
    · exact .inl (Int.mul_pos (by omega) h3)
    · have := Int.mul_pos (show 0 < p.2 by omega) h3
      exact .inr (by omega)
def RowOk (r : List Pc) : Prop := ∀ p ∈ r, PcOk p
theorem RowOk.tail {p : Pc} {r : List Pc} (h : RowOk (p :: r)) : RowOk r := fun q hq => h q (List.mem_cons_of_mem _ hq)
theorem RowOk.head {p : Pc} {r : List Pc} (h : RowOk (p :: r)) : PcOk p := h p List.mem_cons_self
theorem RowOk.app {r r' : List Pc} (h : RowOk r) (h' : RowOk r') : RowOk (r ++ r') := fun q hq => (List.mem_append.mp hq).elim (h q) (h' q)
theorem actR_pos {r : List Pc} {e : Int × Int} (hr : RowOk r) (h : Pos2 e) : Pos2 (actR r e) := by
  induction r with
  | nil => exact h
  | cons p r ih => exact act_pos hr.head (ih hr.tail)
theorem act_sc (p : Pc) (k : Int) (e : Int × Int) : act p (sc k e) = sc k (act p e) := by
  unfold act sc
  split <;> (ext <;> dsimp <;> grind)
def frt (p : Pc) (e : Int × Int) : Int × Int := if p.1 = true then (e.1 + p.2 * e.2, e.2) else if e.2 = 0 then (p.2, 1) else (p.2 * e.1, p.2 * e.2 + e.1)
def frtR (r : List Pc) (e : Int × Int) : Int × Int := r.foldr frt e
theorem frt_act {p : Pc} {e : Int × Int} (hp : PcOk p) (h : Pos2 e) : ∃ k, 0 < k ∧ act p e = sc k (frt p e) := by
  unfold act frt sc
  split
  · exact ⟨1, by decide, by ext <;> dsimp <;> omega⟩
  · split
    · rename_i z
      refine ⟨e.1, by have := h.2.2; omega, ?_⟩
      ext
      · dsimp
        grind
      · dsimp
        rw [z]
        omega
    · exact ⟨1, by decide, by ext <;> dsimp <;> omega⟩
theorem frt_pos {p : Pc} {e : Int × Int} (hp : PcOk p) (h : Pos2 e) : Pos2 (frt p e) := by
  obtain ⟨k, hk, ek⟩ := frt_act hp h
  have := act_pos hp h
  rw [ek] at this
  unfold sc Pos2 at this
  obtain ⟨a, b, c⟩ := this
  have t1 : ∀ x : Int, 0 ≤ k * x → 0 ≤ x := fun x hx => by
    rcases Int.lt_or_le x 0 with z | z
    · have := Int.mul_neg_of_pos_of_neg hk z
      omega
    · exact z
  have t2 : ∀ x : Int, 0 < k * x → 0 < x := fun x hx => by
    rcases Int.lt_or_le 0 x with z | z
    · exact z
    · have := Int.mul_nonpos_of_nonneg_of_nonpos (Int.le_of_lt hk) z
      omega
  exact ⟨t1 _ a, t1 _ b, c.imp (t2 _) (t2 _)⟩
theorem frtR_pos {r : List Pc} {e : Int × Int} (hr : RowOk r) (h : Pos2 e) : Pos2 (frtR r e) := by
  induction r with
  | nil => exact h
  | cons p r ih => exact frt_pos hr.head (ih hr.tail)
theorem sc_sc (j k : Int) (e : Int × Int) : sc j (sc k e) = sc (j * k) e := by
  unfold sc
  ext <;> dsimp <;> grind
theorem frtR_act {r : List Pc} {e : Int × Int} (hr : RowOk r) (h : Pos2 e) : ∃ k, 0 < k ∧ actR r e = sc k (frtR r e) := by
  induction r with
  | nil => exact ⟨1, by decide, by unfold sc; ext <;> dsimp [actR, frtR] <;> omega⟩
  | cons p r ih =>
    obtain ⟨k, hk, ek⟩ := ih hr.tail
    obtain ⟨j, hj, ej⟩ := frt_act hr.head (frtR_pos hr.tail h)
    refine ⟨k * j, Int.mul_pos hk hj, ?_⟩
    show act p (actR r e) = sc (k * j) (frt p (frtR r e))
    rw [ek, act_sc, ej, sc_sc]
/-! ### lowest terms -/
def low (e : Int × Int) : Int × Int := (e.1 / gc e.1 e.2, e.2 / gc e.1 e.2)
theorem gc_pos2 {e : Int × Int} (h : Pos2 e) : 0 < gc e.1 e.2 := gc_pos (by have := h.2.2; omega)
theorem gc_sm {t b : Int} {n : Nat} (h : Pos2 (t, b)) (ht : Sm n t) (hb : Sm n b) : Sm n (gc t b) := by
  have g0 : 0 < gc t b := gc_pos2 h
  rcases h.2.2 with z | z
  · have := Int.le_of_dvd z (gc_dvd1 t b)
    exact ht.of (by omega) this
  · have := Int.le_of_dvd z (gc_dvd2 t b)
    exact hb.of (by omega) this
theorem low_sc {k : Int} (hk : 0 < k) (e : Int × Int) : low (sc k e) = low e := by
  unfold low sc
  dsimp
  rw [gc_mul (Int.le_of_lt hk), Int.mul_ediv_mul_of_pos _ _ hk, Int.mul_ediv_mul_of_pos _ _ hk]
theorem low_is {e : Int × Int} (h : Pos2 e) : e = sc (gc e.1 e.2) (low e) := by
  unfold low sc
  ext
  · exact ex_mul (gc_dvd1 _ _) (gc_pos2 h)
  · exact ex_mul (gc_dvd2 _ _) (gc_pos2 h)
theorem pos_sc {k : Int} {e : Int × Int} (hk : 0 < k) (h : Pos2 (sc k e)) : Pos2 e := by
  unfold sc Pos2 at h
  obtain ⟨a, b, c⟩ := h
  have t1 : ∀ x : Int, 0 ≤ k * x → 0 ≤ x := fun x hx => by
    rcases Int.lt_or_le x 0 with z | z
    · have := Int.mul_neg_of_pos_of_neg hk z
      omega
    · exact z
  have t2 : ∀ x : Int, 0 < k * x → 0 < x := fun x hx => by
    rcases Int.lt_or_le 0 x with z | z
    · exact z
    · have := Int.mul_nonpos_of_nonneg_of_nonpos (Int.le_of_lt hk) z
      omega
  exact ⟨t1 _ a, t1 _ b, c.imp (t2 _) (t2 _)⟩
theorem low_pos {e : Int × Int} (h : Pos2 e) : Pos2 (low e) := pos_sc (gc_pos2 h) (by rw [← low_is h]; exact h)
theorem low_low {e : Int × Int} (h : Pos2 e) : low (low e) = low e := by
  have := low_sc (gc_pos2 h) (low e)
  rw [← low_is h] at this
  exact this.symm
/-! ### the four fractions -/
/-! ### signs and sizes -/
def MxOk (m : Mx) : Prop := 0 ≤ m.a ∧ 0 ≤ m.b ∧ 0 ≤ m.c ∧ 0 ≤ m.d ∧ 0 < m.a * m.d - m.b * m.c
theorem step_ok {m : Mx} {p : Pc} (hp : PcOk p) (h : MxOk m) : MxOk (stepM m p) := by
  obtain ⟨h1, h2, h3, h4, h5⟩ := h
  have q0 : 0 ≤ p.2 := by have := hp.1; omega
  have z1 := Int.mul_nonneg h1 q0
  have z2 := Int.mul_nonneg h2 q0
  have z3 := Int.mul_nonneg h3 q0
  have z4 := Int.mul_nonneg h4 q0
  unfold stepM MxOk
  split
  · dsimp
    refine ⟨h1, by omega, h3, by omega, ?_⟩
    have : m.a * (m.c * p.2 + m.d) - (m.a * p.2 + m.b) * m.c = m.a * m.d - m.b * m.c := by grind
    omega
  · dsimp
    refine ⟨by omega, by omega, by omega, by omega, ?_⟩
    have : (m.a * p.2 + m.b) * (m.d * p.2) - m.b * p.2 * (m.c * p.2 + m.d) = p.2 * p.2 * (m.a * m.d - m.b * m.c) := by grind
    rw [this]
    have q1 : 0 < p.2 := by have := hp.1; omega
    exact Int.mul_pos (Int.mul_pos q1 q1) h5
theorem fold_ok {r : List Pc} : ∀ {m : Mx}, RowOk r → MxOk m → MxOk (r.foldl stepM m) := by
  induction r with
  | nil => exact fun _ h => h
  | cons p r ih => exact fun hr h => ih hr.tail (step_ok hr.head h)
theorem matR_ok {r : List Pc} (hr : RowOk r) : MxOk (matR r) := fold_ok hr ⟨by decide, by decide, by decide, by decide, by decide⟩
theorem scl_fold {r : List Pc} : ∀ {s : Int}, RowOk r → 0 < s → 0 < r.foldl stepS s := by
  induction r with
  | nil => exact fun _ h => h
  | cons p r ih =>
    intro s hr h
    refine ih hr.tail ?_
    unfold stepS
    split
    · exact h
    · exact Int.mul_pos h (by have := hr.head.1; omega)
theorem sclR_pos {r : List Pc} (hr : RowOk r) : 0 < sclR r := scl_fold hr (by decide)
def MxSm (n : Nat) (m : Mx) : Prop := Sm n m.a ∧ Sm n m.b ∧ Sm n m.c ∧ Sm n m.d
theorem ohm_sm {p : Pc} (hp : PcOk p) : Sm 4 p.2 := by
  obtain ⟨h1, h2⟩ := hp
  unfold Sm
  omega
theorem step_sm {m : Mx} {p : Pc} {n : Nat} (hp : PcOk p) (h : MxSm n m) : MxSm (n + 5) (stepM m p) := by
  obtain ⟨h1, h2, h3, h4⟩ := h
  have o := ohm_sm hp
  have up : ∀ {x : Int}, Sm n x → Sm (n + 4) x := fun z => z.mono (by omega)
  unfold stepM MxSm
  split
  · exact ⟨h1.mono (by omega), (h1.mul o).add (up h2), h3.mono (by omega), (h3.mul o).add (up h4)⟩
  · exact ⟨(h1.mul o).add (up h2), (h2.mul o).mono (by omega), (h3.mul o).add (up h4), (h4.mul o).mono (by omega)⟩
theorem fold_sm {r : List Pc} : ∀ {m : Mx} {n : Nat}, RowOk r → MxSm n m → MxSm (n + 5 * r.length) (r.foldl stepM m) := by
  induction r with
  | nil => exact fun _ h => h
  | cons p r ih =>
    intro m n hr h
    have := ih hr.tail (step_sm hr.head h)
    rw [List.foldl_cons, List.length_cons]
    have e : n + 5 * (r.length + 1) = n + 5 + 5 * r.length := by omega
    rw [e]
    exact this
theorem MxSm.mono {m n : Nat} {x : Mx} (h : MxSm m x) (l : m ≤ n) : MxSm n x := ⟨h.1.mono l, h.2.1.mono l, h.2.2.1.mono l, h.2.2.2.mono l⟩
theorem m1_sm : MxSm 1 m1 := ⟨by unfold Sm; decide, by unfold Sm; decide, by unfold Sm; decide, by unfold Sm; decide⟩
theorem matR_sm {r : List Pc} (hr : RowOk r) (hl : r.length ≤ 8) : MxSm 41 (matR r) := (fold_sm hr m1_sm).mono (by omega)
theorem scl_sm {r : List Pc} : ∀ {s : Int} {n : Nat}, RowOk r → Sm n s → Sm (n + 4 * r.length) (r.foldl stepS s) := by
  induction r with
  | nil => exact fun _ h => h
  | cons p r ih =>
    intro s n hr h
    rw [List.foldl_cons, List.length_cons]
    have e : n + 4 * (r.length + 1) = n + 4 + 4 * r.length := by omega
    rw [e]
    refine ih hr.tail ?_
    unfold stepS
    split
    · exact h.mono (by omega)
    · exact h.mul (ohm_sm hr.head)
theorem sclR_sm {r : List Pc} (hr : RowOk r) (hl : r.length ≤ 8) : Sm 41 (sclR r) := (scl_sm (n := 1) hr (by unfold Sm; decide)).mono (by omega)
theorem frt_sm {p : Pc} {e : Int × Int} {n : Nat} (hp : PcOk p) (h1 : Sm n e.1) (h2 : Sm n e.2) : Sm (n + 5) (frt p e).1 ∧ Sm (n + 5) (frt p e).2 := by
  have o := ohm_sm hp
  have up : ∀ {x : Int}, Sm n x → Sm (n + 4) x := fun z => z.mono (by omega)
  have c : ∀ {x y : Int}, Sm n x → Sm n y → Sm (n + 5) (x + p.2 * y) := fun hx hy => (up hx).add ((o.mul hy).mono (by omega))
  have c' : ∀ {x y : Int}, Sm n x → Sm n y → Sm (n + 5) (p.2 * y + x) := fun hx hy => by
    rw [Int.add_comm]
    exact c hx hy
  unfold frt
  split
  · exact ⟨c h1 h2, h2.mono (by omega)⟩
  · split
    · exact ⟨o.mono (by omega), Sm.mono (m := 1) (x := (1 : Int)) (by unfold Sm; decide) (by omega)⟩
    · exact ⟨(o.mul h1).mono (by omega), c' h1 h2⟩
theorem frtR_sm {r : List Pc} {e : Int × Int} {n : Nat} (hr : RowOk r) (h1 : Sm n e.1) (h2 : Sm n e.2) : Sm (n + 5 * r.length) (frtR r e).1 ∧ Sm (n + 5 * r.length) (frtR r e).2 := by
  induction r with
  | nil => exact ⟨h1, h2⟩
  | cons p r ih =>
    obtain ⟨a, b⟩ := ih hr.tail
    rw [List.length_cons]
    have e2 : n + 5 * (r.length + 1) = n + 5 * r.length + 5 := by omega
    rw [e2]
    exact frt_sm hr.head a b
theorem app_sm {m : Mx} {e : Int × Int} {j k : Nat} (h : MxSm j m) (h1 : Sm k e.1) (h2 : Sm k e.2) : Sm (j + k + 1) (m.app e).1 ∧ Sm (j + k + 1) (m.app e).2 :=
  ⟨(h.1.mul h1).add (h.2.1.mul h2), (h.2.2.1.mul h1).add (h.2.2.2.mul h2)⟩
theorem low_sm {e : Int × Int} {n : Nat} (h : Pos2 e) (h1 : Sm n e.1) (h2 : Sm n e.2) : Sm n (low e).1 ∧ Sm n (low e).2 := ⟨h1.div (gc_pos2 h), h2.div (gc_pos2 h)⟩
/-! ### what is shown rises with the load -/
def below (e f : Int × Int) : Bool := decide (e.1 * f.2 < f.1 * e.2)
theorem app_pos {r : List Pc} {e : Int × Int} (hr : RowOk r) (h : Pos2 e) : Pos2 ((matR r).app e) := by
  rw [mat_app]
  exact actR_pos hr h
end RL

namespace RL
open PySem L2
/-! ### a def as its callers see it -/
structure Df (P : Program) (w : World) (K : PySem.W.Frag) (mg : Str → Option Value) (base : Heap) (k : Nat) (x : Str) (ps : List Str) (sp : Sp) : Prop where
  ex : ∃ (f : Addr) (fd : FuncData), FnOk P w K mg base CX0 k f fd ps sp ∧ mg x = some (.ref f) ∧ PySem.W.keepIn K (.ref f) = true ∧ Binds K fd ps []
section
variable {X : Cx} {k : Nat} {ps : List Str} {sp : Sp} {x : Str} {p pos : Pos} {e : Expr} {es : List Expr} {t : TA}
theorem pe_df (D : Df X.prog X.w X.K X.mg X.base k x ps sp) (hr : Room k X.A) (hg : Gl X x)
    (ha : PA X (e :: es) t) (hdb : (x == ("__debug__" : Str)) = false := by decide) (he : starEach (e :: es) X.env = (false, eval e X.env) :: starEach es X.env := by rfl) (hpl : (backTo pos (starEach es X.env)).any (·.1) = false := by rfl) :
    PE X (.Call (.Name x p) (e :: es) [] pos) (tCall sp [] E0 t) := by
  obtain ⟨f, fd, G, hm, hk, hb⟩ := D.ex
  exact pe_call G hr hg hm hk hb .nil pass0 ha hdb he hpl
end
theorem pe_fldK {X : Cx} {K : PySem.W.Frag} {e : Expr} {f : Str} {pos : Pos} {ta : TE} (he : PE X e ta) (hK : X.K = K := by rfl) (hb : attributeBase e f X.env (eval e X.env) = eval e X.env := by rfl) : PE X (.Attribute e f pos) (tFld K ta f) := by
  subst hK
  exact pe_fld he hb
structure Txt (K : PySem.W.Frag) (mg : Str → Option Value) : Prop where
  len : mg "len" = none
  abs : mg "abs" = none
  int_ : mg "int" = none
  bool_ : mg "bool" = none
  tuple_ : mg "tuple" = none
  isinstance : mg "isinstance" = none
  divmod : mg "divmod" = none
  max : mg "max" = none
  min : mg "min" = none
  range : mg "range" = none
  all : mg "all" = none
  repr : mg "repr" = none
  str_ : mg "str" = none
  enumerate : mg "enumerate" = none
/-! ### heaps -/
def But (c : Addr) (H H' : Hp) : Prop := ∀ b o, b ≠ c → H b = some o → H' b = some o
theorem But.refl (c : Addr) (H : Hp) : But c H H := fun _ _ _ h => h
theorem But.trans {c : Addr} {H H1 H2 : Hp} (a : But c H H1) (b : But c H1 H2) : But c H H2 := fun x o n h => b x o n (a x o n h)
theorem But.of {c : Addr} {H H' : Hp} (h : Same H H') : But c H H' := fun x o _ e => h x o e
theorem same_upd {H : Hp} {p : Addr} {o : HO} (h : H p = none) : Same H (upd H p o) := fun b x e => by
  rw [upd_ne (ne_of_none e h)]
  exact e
theorem But.upd {c : Addr} {H : Hp} {o : HO} : But c H (upd H c o) := fun b x n e => by
  rw [upd_ne n]
  exact e
theorem But.free {c : Addr} {H H' : Hp} (e : But c H H') {l : Addr} (n : l ≠ c) (h : H' l = none) : H l = none := by
  cases q : H l with
  | none => rfl
  | some o =>
    rw [e l o n q] at h
    cases h
def CupAt (c : Addr) (H : Hp) : Prop := ∃ x y : Int, H c = some (.lst [.int x, .int y]) ∧ 0 ≤ x ∧ x < 2147483629 ∧ 0 ≤ y
theorem CupAt.same {c : Addr} {H H' : Hp} (h : CupAt c H) (s : Same H H') : CupAt c H' := by
  obtain ⟨x, y, a, b⟩ := h
  exact ⟨x, y, s _ _ a, b⟩
theorem CupAt.ne {c b : Addr} {H : Hp} (h : CupAt c H) (n : H b = none) : c ≠ b := by
  obtain ⟨x, y, a, _⟩ := h
  exact ne_of_none a n
/-! ### promises -/
def spCup (K : PySem.W.Frag) : Sp := fun vs H Q _ => ∃ (a : Addr) (ns : List Int) (i : Nat), vs = [.ref a, .int (i : Int)] ∧ SqL K H a (ns.map V.int) ∧ i ≤ 100 ∧ ns.length ≤ 63 ∧
  ∀ H' c, Same H H' → H c = none → CupAt c H' → Q (.ref c) H'
def spSip : Sp := fun vs H Q _ => ∃ (c : Addr) (m : Int), vs = [.ref c, .int m] ∧ CupAt c H ∧ 0 < m ∧ Sm 200 m ∧
  ∀ H' r, But c H H' → CupAt c H' → 0 ≤ r → r < m → Q (.int r) H'
def spPick : Sp := fun vs H Q _ => ∃ (c l : Addr) (xs : List V), vs = [.ref c, .ref l] ∧ CupAt c H ∧ c ≠ l ∧ H l = some (.lst xs) ∧ 0 < xs.length ∧ xs.length ≤ 100 ∧
  ∀ H' v, But c H H' → CupAt c H' → v ∈ xs → Q v H'
def spPair : Sp := fun vs H Q _ => ∃ (t b : Int), vs = [.int t, .int b] ∧ Pos2 (t, b) ∧ Sm 4000 t ∧ Sm 4000 b ∧
  ∀ H' p, Same H H' → H p = none → H' p = some (.tup [.int (low (t, b)).1, .int (low (t, b)).2]) → Q (.ref p) H'
section
variable {P : Program} {w : World} {K : PySem.W.Frag} {mg : Str → Option Value} {base : Heap}
theorem sc_law_sip : FnScope ["_law_cup_here", "_law_many", "_law_part"] ["_law_cup_here", "_law_many"] (defScope s_law_sip) := ⟨rfl, rfl, rfl, by decide +kernel, rfl, by decide +kernel, by decide +kernel⟩

theorem ok_sip {f : Addr} {fd : FuncData} (F : Fun K "_law_sip" "_law_sip" s_law_sip f fd) (T : Txt K mg) : FnOk P w K mg base CX0 1 f fd ["_law_cup_here", "_law_many"] spSip := by
  refine F.ok sc_law_sip (fun vs H Q E h => ?_) (fun cdv A outer s H vs Q E hr h => ?_)
  · obtain ⟨c, m, rfl, _⟩ := h
    rfl
  · obtain ⟨c, m, rfl, ⟨x, y, hc, x0, x1, y0⟩, m0, ms, k⟩ := h
    refine ⟨_, (pss_cons (ps_asg (pe_op op_mod (pe_callTy call_int1 (by rfl) T.int_ (by decide +kernel) (pa_cons (pe_op op_add (pe_op op_mul (pe_ix ix_list (pv 0) pe_int (fun _ _ => rfl)) pe_int) pe_int) pa_nil)) pe_int) (pg_sub (pv 0) pe_int set_list))
      (pss_cons (ps_if (pt_cmpR op_gt (pe_ix ix_list (pv 0) pe_int (fun _ _ => rfl)) pe_int (nomark _)) (pss_cons (ps_asg (pe_callB call_divmodW (by rfl) T.divmod (by decide +kernel) (pa_cons (pe_ix ix_list (pv 0) pe_int (fun _ _ => rfl)) (pa_cons (pv 1) pa_nil))) (pg_tup rfl (pgs_cons (pg_sub (pv 0) pe_int set_list) (pgs_cons (pg_name (i := 2) sc_law_sip.nd rfl (.inl rfl)) pgs_nil))))
      (pss_one (ps_ret (pv 2)))) pss_nil)
      (pss_one (ps_ret (pe_op op_mod (pe_callTy call_int1 (by rfl) T.int_ (by decide +kernel) (pa_cons (pe_op op_fdivW (pe_ix ix_list (pv 0) pe_int (fun _ _ => rfl)) pe_int) pa_nil)) (pv 1)))))), ?_⟩
    -- cup[0] = ..
    refine ⟨_, rfl, c, _, _, _, rfl, rfl, SqL.of hc, atI_nat (j := 0) rfl, _, _, rfl, rfl, .inr ⟨by decide, by decide⟩, _, _, rfl, rfl, .inl ⟨_, rfl, _, _, rfl, rfl, (by decide : (0 : Int) < 2147483629), _, rfl, c, _, _, _, rfl, rfl, hc, rfl, ?_⟩⟩
    have z0 : 0 ≤ (x * 48271 + 11) % 2147483629 := Int.emod_nonneg _ (by decide)
    have z1 : (x * 48271 + 11) % 2147483629 < 2147483629 := Int.emod_lt_of_pos _ (by decide)
    have hc1 : (upd H c (HO.lst ([V.int x, V.int y].set 0 (V.int ((x * 48271 + 11) % 2147483629))))) c = some (.lst [.int ((x * 48271 + 11) % 2147483629), .int y]) := upd_same
    have b1 : But c H (upd H c (HO.lst ([V.int x, V.int y].set 0 (V.int ((x * 48271 + 11) % 2147483629))))) := But.upd
    -- if cup[1] > 0
    refine ⟨_, rfl, c, _, _, _, rfl, rfl, SqL.of hc1, atI_nat (j := 1) rfl, _, _, rfl, rfl, _, rfl, ite2 (fun e => ?_) (fun e => ?_)⟩
    · have e0 : 0 < y := of_decide_eq_true e
      refine ⟨_, rfl, c, _, _, _, rfl, rfl, SqL.of hc1, atI_nat (j := 1) rfl, _, rfl, _, _, rfl, ⟨m0, PyProof.noPylong_of_log2 (PySem.Flt.log2_lt_of (by decide) (Nat.lt_of_lt_of_le ms (Nat.pow_le_pow_right (by decide) (by decide : 200 ≤ 9000))))⟩, fun p hp => ?_⟩
      have ncp : c ≠ p := ne_of_none hc1 hp
      have hc2 : (upd (upd H c (HO.lst ([V.int x, V.int y].set 0 (V.int ((x * 48271 + 11) % 2147483629))))) p (HO.tup [V.int (y / m), V.int (y % m)])) c = some (.lst [.int ((x * 48271 + 11) % 2147483629), .int y]) := by
        rw [upd_ne ncp]
        exact hc1
      refine ⟨p, _, rfl, SqT.of upd_same, rfl, _, _, rfl, _, rfl, c, _, _, _, rfl, rfl, hc2, rfl, _, _, rfl, rfl, _, rfl, ?_⟩
      refine k _ _ ?_ ⟨_, y / m, upd_same, z0, z1, Int.ediv_nonneg y0 (by omega)⟩ (Int.emod_nonneg _ (by omega)) (Int.emod_lt_of_pos _ m0)
      exact (b1.trans (But.of (same_upd hp))).trans But.upd
    · refine ⟨_, rfl, c, _, _, _, rfl, rfl, SqL.of hc1, atI_nat (j := 0) rfl, _, _, rfl, rfl, ⟨by decide, by decide⟩, .inl ⟨_, rfl, _, rfl, _, _, rfl, rfl, m0, ?_⟩⟩
      exact k _ _ b1 ⟨_, y, hc1, z0, z1, y0⟩ (Int.emod_nonneg _ (by omega)) (Int.emod_lt_of_pos _ m0)
theorem sc_law_pick : FnScope ["_law_cup_here", "_law_things"] ["_law_cup_here", "_law_things"] (defScope s_law_pick) := ⟨rfl, rfl, rfl, by decide +kernel, rfl, by decide +kernel, by decide +kernel⟩

theorem ok_pick {f : Addr} {fd : FuncData} (F : Fun K "_law_pick" "_law_pick" s_law_pick f fd) (T : Txt K mg) (D_law_sip : Df P w K mg base 1 "_law_sip" ["_law_cup_here", "_law_many"] spSip) : FnOk P w K mg base CX0 2 f fd ["_law_cup_here", "_law_things"] spPick := by
  refine F.ok sc_law_pick (fun vs H Q E h => ?_) (fun cdv A outer s H vs Q E hr h => ?_)
  · obtain ⟨c, l, xs, rfl, _⟩ := h
    rfl
  · obtain ⟨c, l, xs, rfl, hc, ncl, hl, l0, l1, k⟩ := h
    refine ⟨_, (pss_one (ps_ret (pe_ix ix_list (pv 1) (pe_df D_law_sip (hr.mono (by decide)) (by rfl) (pa_cons (pv 0) (pa_cons (pe_callB call_len_seq (by rfl) T.len (by decide +kernel) (pa_cons (pv 1) pa_nil)) pa_nil))) (fun _ _ => rfl)))), ?_⟩
    refine ⟨_, rfl, _, rfl, _, rfl, l, _, rfl, .inl (SqL.of hl), c, _, rfl, hc, (by omega), ?_, fun H' r b hc' r0 r1 => ?_⟩
    · unfold Sm
      have : (2 : Nat) ^ 7 ≤ 2 ^ 200 := Nat.pow_le_pow_right (by decide) (by decide)
      have : (2 : Nat) ^ 7 = 128 := by decide
      omega
    · obtain ⟨n, rfl⟩ := Int.eq_ofNat_of_zero_le r0
      have hn : n < xs.length := by omega
      refine ⟨l, xs, _, _, rfl, rfl, SqL.of (b _ _ ncl.symm hl), atI_nat (List.getElem?_eq_getElem hn), ?_⟩
      exact k _ _ b hc' (List.getElem_mem hn)
theorem sc_law_pair : FnScope ["_law_top", "_law_bottom", "_law_one", "_law_two"] ["_law_top", "_law_bottom"] (defScope s_law_pair) := ⟨rfl, rfl, rfl, by decide +kernel, rfl, by decide +kernel, by decide +kernel⟩

theorem ok_pair {f : Addr} {fd : FuncData} (F : Fun K "_law_pair" "_law_pair" s_law_pair f fd) (T : Txt K mg) : FnOk P w K mg base CX0 1 f fd ["_law_top", "_law_bottom"] spPair := by
  refine F.ok sc_law_pair (fun vs H Q E h => ?_) (fun cdv A outer s H vs Q E hr h => ?_)
  · obtain ⟨t, b, rfl, _⟩ := h
    rfl
  · obtain ⟨t, b, rfl, tb, ts, bs, k⟩ := h
    obtain ⟨t0, b0, _⟩ := id tb
    refine ⟨_, (pss_cons (ps_par (by rfl) sc_law_pair.nd (i := 2) (j := 3) rfl rfl (by decide) rfl rfl (pa_cons (pv 0) (pa_cons (pv 1) pa_nil)) (by rfl))
      (pss_cons (ps_while PassesOwn.never (pt_cmpR op_gt (pv 3) pe_int (nomark _)) (pss_one (ps_par (by rfl) sc_law_pair.nd (i := 2) (j := 3) rfl rfl (by decide) rfl rfl (pa_cons (pv 3) (pa_cons (pe_op op_mod (pe_callTy call_int1 (by rfl) T.int_ (by decide +kernel) (pa_cons (pv 2) pa_nil)) (pv 3)) pa_nil)) (by rfl))))
      (pss_one (ps_ret (pe_tup (pa_cons (pe_op op_fdivW (pv 0) (pv 2)) (pa_cons (pe_op op_fdivW (pv 1) (pv 2)) pa_nil))))))), ?_⟩
    refine ⟨_, rfl, _, rfl, _, _, rfl, ?_⟩
    refine while_by (fun σ H' => H' = H ∧ ∃ x y : Int, σ = [some (.int t), some (.int b), some (.int x), some (.int y)] ∧ 0 ≤ x ∧ 0 ≤ y ∧ gc x y = gc t b) (fun σ _ => match σ with | [_, _, _, some (.int y)] => y.toNat | _ => 0) ⟨rfl, t, b, rfl, t0, b0, rfl⟩ ?_ ?_
    · rintro σ H' ⟨rfl, x, y, rfl, x0, y0, eg⟩
      refine ⟨_, rfl, _, _, rfl, rfl, _, rfl, ite2 (fun e => ?_) (fun e => ?_)⟩
      · have e0 : 0 < y := of_decide_eq_true e
        refine ⟨_, rfl, _, rfl, .inl ⟨_, rfl, _, rfl, _, _, rfl, rfl, e0, _, _, rfl, ?_⟩⟩
        have q1 := Int.emod_nonneg x (show y ≠ 0 by omega)
        have q2 := Int.emod_lt_of_pos x e0
        refine ⟨⟨rfl, y, x % y, rfl, y0, q1, ?_⟩, ?_⟩
        · rw [gc_step x0 e0, eg]
        · show (x % y).toNat < y.toNat
          omega
      · have e0 : ¬ 0 < y := fun z => e (decide_eq_true z)
        have y1 : y = 0 := by omega
        subst y1
        rw [gc_zero x0] at eg
        have g0 : 0 < gc t b := gc_pos2 tb
        have gs : Sm 4000 x := by
          rw [eg]
          exact gc_sm tb ts bs
        subst eg
        refine ⟨_, rfl, _, rfl, _, _, rfl, rfl, wide_div g0 gs (by decide) (by decide), _, rfl, _, rfl, _, _, rfl, rfl, wide_div g0 gs (by decide) (by decide), (by show 2 ≤ sizeLine; decide), fun p hp => ?_⟩
        exact k _ _ (same_upd hp) hp upd_same
    · rintro σ H' Q1 Q2 hq h
      obtain ⟨v, e1, i, j, e2, e3, z⟩ := h
      exact ⟨v, e1, i, j, e2, e3, z.imp fun k z => ⟨z.1, hq _ _ z.2⟩⟩
end
end RL

namespace RL
open PySem L2
section
variable {P : Program} {w : World} {K : PySem.W.Frag} {mg : Str → Option Value} {base : Heap}
theorem cutV2 (xs : List V) : cutV xs none (some 2) = xs.take 2 := by
  unfold cutV
  rw [HT.sIx_none, show HT.sIx xs.length xs.length (some 2) = min 2 xs.length from HT.sIx_nat xs.length xs.length 2]
  rw [Nat.sub_zero, List.drop_zero]
  rcases Nat.le_total 2 xs.length with h | h
  · rw [Nat.min_eq_left h]
  · rw [Nat.min_eq_right h, List.take_length, List.take_of_length_le h]
theorem sc_law_cup : FnScope ["_law_script", "_law_spot", "_law_cell", "_law_one"] ["_law_script", "_law_spot"] (defScope s_law_cup) := ⟨rfl, rfl, rfl, by decide +kernel, rfl, by decide +kernel, by decide +kernel⟩

theorem ok_cup {f : Addr} {fd : FuncData} (F : Fun K "_law_cup" "_law_cup" s_law_cup f fd) (T : Txt K mg) : FnOk P w K mg base CX0 1 f fd ["_law_script", "_law_spot"] (spCup K) := by
  refine F.ok sc_law_cup (fun vs H Q E h => ?_) (fun cdv A outer s H vs Q E hr h => ?_)
  · obtain ⟨a, ns, i, rfl, _⟩ := h
    rfl
  · obtain ⟨a, ns, i, rfl, hS, hi, hn, k⟩ := h
    refine ⟨_, (pss_cons (ps_set (i := 2) sc_law_cup.nd rfl (.inl rfl) (pe_ifExp (pt_cmpR op_lt (pv 1) (pe_callB call_len_seq (by rfl) T.len (by decide +kernel) (pa_cons (pv 0) pa_nil)) (nomark _)) (pe_ix ix_list (pv 0) (pv 1) (fun _ _ => rfl)) (pe_op op_add (pe_op op_mul pe_int (pv 1)) pe_int)))
      (pss_cons (ps_for PassesOwn.never rfl (pi_list (pe_ifExp (pt_cmpR op_ge (pv 1) (pe_callB call_len_seq (by rfl) T.len (by decide +kernel) (pa_cons (pv 0) pa_nil)) (nomark _)) (pe_slice sl_list (pv 0) po_none (po_some pe_int)) (pe_lst pa_nil))) (pg_name (i := 3) sc_law_cup.nd rfl (.inl rfl)) (pss_one (ps_set (i := 2) sc_law_cup.nd rfl (.inl rfl) (pe_op op_mod (pe_callTy call_int1 (by rfl) T.int_ (by decide +kernel) (pa_cons (pe_op op_add (pe_op op_mul (pv 2) pe_int) (pv 3)) pa_nil)) pe_int))))
      (pss_one (ps_ret (pe_lst (pa_cons (pe_op op_mod (pe_callTy call_int1 (by rfl) T.int_ (by decide +kernel) (pa_cons (pe_op op_add (pe_op op_add (pe_op op_mul (pv 2) pe_int) (pe_op op_mul pe_int (pv 1))) pe_int) pa_nil)) pe_int) (pa_cons (pe_ifExp (PW.pt (pw_or (pt_cmpR op_lt (pv 2) pe_int (nomark _)) (pw_or1 (pt_cmpR op_ge (pv 2) (pe_op op_pow pe_int pe_int) (nomark _))))) (pe_callB call_abs (by rfl) T.abs (by decide +kernel) (pa_cons (pv 2) pa_nil)) pe_int) pa_nil))))))), ?_⟩
    have hlen : (ns.map V.int).length = ns.length := List.length_map ..
    have isI : ∀ (xs : List Int) (j : Nat) (y : V), (xs.map V.int)[j]? = some y → ∃ u, y = V.int u := fun xs j y hj => by
      rw [List.getElem?_map] at hj
      cases q : xs[j]? with
      | none =>
        rw [q] at hj
        cases hj
      | some u =>
        rw [q] at hj
        exact ⟨u, (Option.some.inj hj).symm⟩
    refine ⟨_, rfl, _, rfl, a, _, rfl, .inl hS, _, _, rfl, rfl, _, rfl, ite2 (fun e => ?_) (fun e => ?_)⟩
    · have e0 : (i : Int) < (ns.map V.int).length := of_decide_eq_true e
      have hin : i < ns.length := by omega
      refine ⟨_, rfl, _, rfl, a, _, _, _, rfl, rfl, hS, atI_nat (v := V.int ns[i]) (by rw [List.getElem?_map, List.getElem?_eq_getElem hin]; rfl), ?_⟩
      refine ⟨_, rfl, _, rfl, a, _, rfl, .inl hS, _, _, rfl, rfl, _, rfl, ite2 (fun e2 => absurd (of_decide_eq_true e2) (by omega)) (fun e2 => ?_)⟩
      refine ⟨Nat.zero_le _, fun l hl0 => ?_⟩
      have sm : Same H (upd H l (.lst [])) := same_upd hl0
      have hl : SqL K (upd H l (.lst [])) l (([] : List Int).map V.int) := SqL.of upd_same
      refine ⟨l, rfl, ⟨_, hl⟩, for_list (K := K) (a := l) (xs := ([] : List Int).map V.int) (fun j σ H' => ∃ (c2 : Int) (v3 : Option V), σ = [some (.ref a), some (.int i), some (.int c2), v3] ∧ H' = upd H l (.lst [])) ⟨ns[i], none, rfl, rfl⟩ (fun _ _ _ _ h => by obtain ⟨_, _, _, rfl⟩ := h; exact hl) ?_ ?_⟩
      · rintro j y σ H' hj ⟨c2, v3, rfl, rfl⟩
        obtain ⟨u, rfl⟩ := isI _ _ _ hj
        refine ⟨_, rfl, _, _, rfl, rfl, .inr ⟨by decide, by decide⟩, _, rfl, _, _, rfl, rfl, .inl ⟨_, rfl, _, _, rfl, rfl, (by decide : (0 : Int) < 1000000007), ?_⟩⟩
        exact ⟨_, _, rfl, rfl⟩
      · rintro σ H' ⟨c2, v3, rfl, rfl⟩
        refine ⟨_, rfl, _, _, rfl, rfl, .inr ⟨by decide, by decide⟩, _, rfl, _, _, rfl, rfl, .inl ⟨by decide, by decide⟩, _, _, rfl, rfl, _, _, rfl, rfl, .inl ⟨_, rfl, _, _, rfl, rfl, (by decide : (0 : Int) < 2147483629), ?_⟩⟩
        have z0 : 0 ≤ (c2 * 4099 + 271 * (i : Int) + 17) % 2147483629 := Int.emod_nonneg _ (by decide)
        have z1 : (c2 * 4099 + 271 * (i : Int) + 17) % 2147483629 < 2147483629 := Int.emod_lt_of_pos _ (by decide)
        refine ⟨_, rfl, _, _, rfl, rfl, _, rfl, ite2 (fun e3 => ?_) (fun e3 => ?_)⟩
        · refine iteT ⟨_, rfl, _, rfl, (by show 2 ≤ sizeLine; decide), fun p hp => ?_⟩
          refine k _ p (sm.trans (same_upd hp)) (sm.free hp) ⟨_, _, upd_same, z0, z1, ?_⟩
          split <;> omega
        · refine ⟨_, rfl, _, _, rfl, rfl, ⟨by decide, by decide, by decide⟩, _, _, rfl, rfl, _, rfl, ite2 (fun e4 => ?_) (fun e4 => ?_)⟩
          · refine ⟨_, rfl, _, rfl, (by show 2 ≤ sizeLine; decide), fun p hp => ?_⟩
            refine k _ p (sm.trans (same_upd hp)) (sm.free hp) ⟨_, _, upd_same, z0, z1, ?_⟩
            split <;> omega
          · refine ⟨(by show 2 ≤ sizeLine; decide), fun p hp => ?_⟩
            exact k _ p (sm.trans (same_upd hp)) (sm.free hp) ⟨_, _, upd_same, z0, z1, by decide⟩
    · have e0 : ¬ (i : Int) < (ns.map V.int).length := fun z => e (decide_eq_true z)
      refine ⟨_, rfl, _, _, rfl, rfl, .inl ⟨by decide, by decide⟩, _, _, rfl, rfl, ?_⟩
      refine ⟨_, rfl, _, rfl, a, _, rfl, .inl hS, _, _, rfl, rfl, _, rfl, ite2 (fun e2 => ?_) (fun e2 => absurd (decide_eq_true (show ((ns.map V.int).length : Int) ≤ (i : Int) by omega)) e2)⟩
      refine ⟨_, rfl, 2, rfl, a, _, rfl, hS, fun l hl0 => ?_⟩
      have sm := same_upd (o := .lst (cutV (ns.map V.int) none (some 2))) hl0
      have hl : SqL K (upd H l (.lst (cutV (ns.map V.int) none (some 2)))) l ((ns.take 2).map V.int) := by
        refine SqL.of ?_
        rw [upd_same, cutV2, List.map_take]
      refine ⟨l, rfl, ⟨_, hl⟩, for_list (K := K) (a := l) (xs := (ns.take 2).map V.int) (fun j σ H' => ∃ (c2 : Int) (v3 : Option V), σ = [some (.ref a), some (.int i), some (.int c2), v3] ∧ H' = upd H l (.lst (cutV (ns.map V.int) none (some 2)))) ⟨_, none, rfl, rfl⟩ (fun _ _ _ _ h => by obtain ⟨_, _, _, rfl⟩ := h; exact hl) ?_ ?_⟩
      · rintro j y σ H' hj ⟨c2, v3, rfl, rfl⟩
        obtain ⟨u, rfl⟩ := isI _ _ _ hj
        refine ⟨_, rfl, _, _, rfl, rfl, .inr ⟨by decide, by decide⟩, _, rfl, _, _, rfl, rfl, .inl ⟨_, rfl, _, _, rfl, rfl, (by decide : (0 : Int) < 1000000007), ?_⟩⟩
        exact ⟨_, _, rfl, rfl⟩
      · rintro σ H' ⟨c2, v3, rfl, rfl⟩
        refine ⟨_, rfl, _, _, rfl, rfl, .inr ⟨by decide, by decide⟩, _, rfl, _, _, rfl, rfl, .inl ⟨by decide, by decide⟩, _, _, rfl, rfl, _, _, rfl, rfl, .inl ⟨_, rfl, _, _, rfl, rfl, (by decide : (0 : Int) < 2147483629), ?_⟩⟩
        have z0 : 0 ≤ (c2 * 4099 + 271 * (i : Int) + 17) % 2147483629 := Int.emod_nonneg _ (by decide)
        have z1 : (c2 * 4099 + 271 * (i : Int) + 17) % 2147483629 < 2147483629 := Int.emod_lt_of_pos _ (by decide)
        refine ⟨_, rfl, _, _, rfl, rfl, _, rfl, ite2 (fun e3 => ?_) (fun e3 => ?_)⟩
        · refine iteT ⟨_, rfl, _, rfl, (by show 2 ≤ sizeLine; decide), fun p hp => ?_⟩
          refine k _ p (sm.trans (same_upd hp)) (sm.free hp) ⟨_, _, upd_same, z0, z1, ?_⟩
          split <;> omega
        · refine ⟨_, rfl, _, _, rfl, rfl, ⟨by decide, by decide, by decide⟩, _, _, rfl, rfl, _, rfl, ite2 (fun e4 => ?_) (fun e4 => ?_)⟩
          · refine ⟨_, rfl, _, rfl, (by show 2 ≤ sizeLine; decide), fun p hp => ?_⟩
            refine k _ p (sm.trans (same_upd hp)) (sm.free hp) ⟨_, _, upd_same, z0, z1, ?_⟩
            split <;> omega
          · refine ⟨(by show 2 ≤ sizeLine; decide), fun p hp => ?_⟩
            exact k _ p (sm.trans (same_upd hp)) (sm.free hp) ⟨_, _, upd_same, z0, z1, by decide⟩
end
end RL

namespace RL
open PySem L2
theorem mx {a b : Nat} {i j : Int} (hi : Sm a i) (hj : Sm b j) (h : a + b ≤ 134217728 := by decide) : CMulX i j := mulx_ok hi hj h
theorem dvw {b : Nat} {i j : Int} (h : 0 < j) (hb : Sm b j) (h0 : 0 < b := by decide) (h9 : b ≤ 9000 := by decide) : CDivW i j := wide_div h hb h0 h9
structure Txt2 (K : PySem.W.Frag) (mg : Str → Option Value) (tG : Tok) (aO : Addr) : Prop extends Txt K mg where
  mgG : mg "GREATEST" = some (.int 1000000000000 tG)
  mgO : mg "OPEN" = some (.ref aO)
  opn : ∃ (o : Obj) (its : Array Value) (n : Nat), K.lookup aO = some o ∧ o.cls = .type "tuple" ∧ o.data = .seq its n ∧ its.size ≤ sizeLine ∧ Vals [.int 1, .int 0] its.toList
def ResP (t b : Int) : Prop := (0 ≤ t ∧ t ≤ 1000000000000 ∧ 1 ≤ b ∧ b ≤ 1000000000000) ∨ (t = 1 ∧ b = 0)
def spIsInt : Sp := fun vs H Q _ => (∃ i, vs = [.int i] ∧ Q (.bl true) H) ∨ (∃ p xs, vs = [.ref p] ∧ H p = some (.tup xs) ∧ Q (.bl false) H)
def spWithin : Sp := fun vs H Q _ => ∃ v lo hi : Int, vs = [.int v, .int lo, .int hi] ∧ lo ≤ v ∧ v ≤ hi ∧ Q (.bl true) H
def spIsPair : Sp := fun vs H Q _ => ∃ (p : Addr) (t b : Int), vs = [.ref p] ∧ H p = some (.tup [.int t, .int b]) ∧ Q (.bl true) H
def spIsRes : Sp := fun vs H Q _ => (∃ i : Int, vs = [.int i] ∧ 0 ≤ i ∧ i ≤ 1000000000000 ∧ Q (.bl true) H) ∨ (∃ (p : Addr) (t b : Int), vs = [.ref p] ∧ H p = some (.tup [.int t, .int b]) ∧ ResP t b ∧ Q (.bl true) H)
def spPairOf : Sp := fun vs H Q _ => (∃ i, vs = [.int i] ∧ ∀ H' p, Same H H' → H p = none → H' p = some (.tup [.int i, .int 1]) → Q (.ref p) H') ∨ (∃ p xs, vs = [.ref p] ∧ H p = some (.tup xs) ∧ Q (.ref p) H)
def spGcd : Sp := fun vs H Q _ => ∃ x y : Int, vs = [.int x, .int y] ∧ Q (.int (gc x y)) H
def spLow : Sp := fun vs H Q _ => ∃ (t b : Int), vs = [.int t, .int b] ∧ Pos2 (t, b) ∧ Sm 4000 t ∧ Sm 4000 b ∧
  ∀ H' p, Same H H' → H p = none → H' p = some (.tup [.int (low (t, b)).1, .int (low (t, b)).2]) → Q (.ref p) H'
def spLowP : Sp := fun vs H Q _ => ∃ (v : V) (e : Int × Int), vs = [v] ∧ ((∃ i, v = .int i ∧ e = (i, 1)) ∨ (∃ p, v = .ref p ∧ H p = some (.tup [.int e.1, .int e.2]))) ∧ Pos2 e ∧ Sm 4000 e.1 ∧ Sm 4000 e.2 ∧
  ∀ H' p, Same H H' → H p = none → H' p = some (.tup [.int (low e).1, .int (low e).2]) → Q (.ref p) H'
section
variable {P : Program} {w : World} {K : PySem.W.Frag} {mg : Str → Option Value} {base : Heap} {tG : Tok} {aO : Addr}
theorem sc_is_integer : FnScope ["value"] ["value"] (defScope s_is_integer) := ⟨rfl, rfl, rfl, by decide +kernel, rfl, by decide +kernel, by decide +kernel⟩

theorem ok_isint {f : Addr} {fd : FuncData} (F : Fun K "is_integer" "is_integer" s_is_integer f fd) (T : Txt K mg) : FnOk P w K mg base CX0 1 f fd ["value"] spIsInt := by
  refine F.ok sc_is_integer (fun vs H Q E h => ?_) (fun cdv A outer s H vs Q E hr h => ?_)
  · rcases h with ⟨i, rfl, _⟩ | ⟨p, xs, rfl, _⟩ <;> rfl
  · refine ⟨_, (pss_one (ps_ret (pe_and (pe_callB call_isi (by rfl) T.isinstance (by decide +kernel) (pa_cons (pv 0) (pa_cons (pe_bltn (v := .ty "int") (by rfl) T.int_ (by decide +kernel) rfl) pa_nil))) (pe_one (pe_not (pe_callB call_isi (by rfl) T.isinstance (by decide +kernel) (pa_cons (pv 0) (pa_cons (pe_bltn (v := .ty "bool") (by rfl) T.bool_ (by decide +kernel) rfl) pa_nil)))))))), ?_⟩
    rcases h with ⟨i, rfl, k⟩ | ⟨p, xs, rfl, hp, k⟩
    · refine ⟨_, rfl, _, _, _, _, true, rfl, .ty _, .base (.int i), kit_ty (by decide +kernel), true, rfl, iteT ?_⟩
      exact ⟨_, rfl, _, _, _, _, false, rfl, .ty _, .base (.int i), kit_ty (by decide +kernel), false, rfl, k⟩
    · refine ⟨_, rfl, _, _, _, _, false, rfl, .ty _, .base (.tup hp), kit_ty (by decide +kernel), false, rfl, iteF ?_⟩
      exact k
theorem sc_is_integer_within : FnScope ["value", "least", "most"] ["value", "least", "most"] (defScope s_is_integer_within) := ⟨rfl, rfl, rfl, by decide +kernel, rfl, by decide +kernel, by decide +kernel⟩

theorem ok_within {f : Addr} {fd : FuncData} (F : Fun K "is_integer_within" "is_integer_within" s_is_integer_within f fd) (D_is_integer : Df P w K mg base 1 "is_integer" ["value"] spIsInt) : FnOk P w K mg base CX0 2 f fd ["value", "least", "most"] spWithin := by
  refine F.ok sc_is_integer_within (fun vs H Q E h => ?_) (fun cdv A outer s H vs Q E hr h => ?_)
  · obtain ⟨v, lo, hi, rfl, _⟩ := h
    rfl
  · obtain ⟨v, lo, hi, rfl, h1, h2, k⟩ := h
    refine ⟨_, (pss_one (ps_ret (pe_and (pe_df D_is_integer (hr.mono (by decide)) (by rfl) (pa_cons (pv 0) pa_nil)) (pe_one (pe_chain op_le op_le (pv 1) (pv 0) (pv 2)))))), ?_⟩
    refine ⟨_, rfl, .inl ⟨v, rfl, true, rfl, iteT ?_⟩⟩
    refine ⟨_, rfl, _, rfl, _, _, rfl, rfl, _, rfl, ite2 (fun _ => ?_) (fun e => absurd (decide_eq_true h1) e)⟩
    refine ⟨_, rfl, _, _, rfl, rfl, ?_⟩
    show Q (.bl (decide (v ≤ hi))) H
    rw [decide_eq_true h2]
    exact k
theorem sc_is_pair_of_integers : FnScope ["value"] ["value"] (defScope s_is_pair_of_integers) := ⟨rfl, rfl, rfl, by decide +kernel, rfl, by decide +kernel, by decide +kernel⟩

theorem ok_ispair {f : Addr} {fd : FuncData} (F : Fun K "is_pair_of_integers" "is_pair_of_integers" s_is_pair_of_integers f fd) (T : Txt K mg) (D_is_integer : Df P w K mg base 1 "is_integer" ["value"] spIsInt) : FnOk P w K mg base CX0 2 f fd ["value"] spIsPair := by
  refine F.ok sc_is_pair_of_integers (fun vs H Q E h => ?_) (fun cdv A outer s H vs Q E hr h => ?_)
  · obtain ⟨p, t, b, rfl, _⟩ := h
    rfl
  · obtain ⟨p, t, b, rfl, hp, k⟩ := h
    refine ⟨_, (pss_one (ps_ret (pe_and (pe_callB call_isi (by rfl) T.isinstance (by decide +kernel) (pa_cons (pv 0) (pa_cons (pe_bltn (v := .ty "tuple") (by rfl) T.tuple_ (by decide +kernel) rfl) pa_nil))) (pe_and (pe_cmpR op_eq (pe_callB call_len_seq (by rfl) T.len (by decide +kernel) (pa_cons (pv 0) pa_nil)) pe_int (nomark _)) (pe_and (pe_df D_is_integer (hr.mono (by decide)) (by rfl) (pa_cons (pe_ix ix_tup (pv 0) pe_int (fun _ _ => rfl)) pa_nil)) (pe_one (pe_df D_is_integer (hr.mono (by decide)) (by rfl) (pa_cons (pe_ix ix_tup (pv 0) pe_int (fun _ _ => rfl)) pa_nil)))))))), ?_⟩
    refine ⟨_, rfl, _, _, _, _, true, rfl, .ty _, .base (.tup hp), kit_ty (by decide +kernel), true, rfl, iteT ?_⟩
    refine ⟨_, rfl, p, _, rfl, .inr (SqT.of hp), rfl, true, rfl, iteT ?_⟩
    refine ⟨_, rfl, p, _, _, _, rfl, rfl, SqT.of hp, atI_nat (j := 0) rfl, .inl ⟨t, rfl, true, rfl, iteT ?_⟩⟩
    exact ⟨_, rfl, p, _, _, _, rfl, rfl, SqT.of hp, atI_nat (j := 1) rfl, .inl ⟨b, rfl, k⟩⟩
theorem sc_is_resistance : FnScope ["value", "top", "bottom"] ["value"] (defScope s_is_resistance) := ⟨rfl, rfl, rfl, by decide +kernel, rfl, by decide +kernel, by decide +kernel⟩

theorem ok_isres {f : Addr} {fd : FuncData} (F : Fun K "is_resistance" "is_resistance" s_is_resistance f fd) (T : Txt2 K mg tG aO) (D_is_integer : Df P w K mg base 1 "is_integer" ["value"] spIsInt) (D_is_pair_of_integers : Df P w K mg base 2 "is_pair_of_integers" ["value"] spIsPair) : FnOk P w K mg base CX0 3 f fd ["value"] spIsRes := by
  refine F.ok sc_is_resistance (fun vs H Q E h => ?_) (fun cdv A outer s H vs Q E hr h => ?_)
  · rcases h with ⟨i, rfl, _⟩ | ⟨p, t, b, rfl, _⟩ <;> rfl
  · refine ⟨_, (pss_cons (ps_if (pt_val (pe_df D_is_integer (hr.mono (by decide)) (by rfl) (pa_cons (pv 0) pa_nil))) (pss_one (ps_ret (pe_chain op_le op_le pe_int (pv 0) (pe_glob (v := .int 1000000000000) rfl T.mgG ⟨_, rfl⟩)))) pss_nil)
      (pss_cons (ps_if (pt_not (pt_val (pe_df D_is_pair_of_integers (hr.mono (by decide)) (by rfl) (pa_cons (pv 0) pa_nil)))) (pss_one (ps_ret pe_bl)) pss_nil)
      (pss_cons (ps_asg (pv 0) (pg_tup rfl (pgs_cons (pg_name (i := 1) sc_is_resistance.nd rfl (.inl rfl)) (pgs_cons (pg_name (i := 2) sc_is_resistance.nd rfl (.inl rfl)) pgs_nil))))
      (pss_one (ps_ret (pe_or (pe_cmpR (op_eqD hr.units) (pv 0) (pe_glob (v := .ref aO) rfl T.mgO rfl) (nomark _)) (pe_one (pe_and (pe_chain op_le op_le pe_int (pv 1) (pe_glob (v := .int 1000000000000) rfl T.mgG ⟨_, rfl⟩)) (pe_one (pe_chain op_le op_le pe_int (pv 2) (pe_glob (v := .int 1000000000000) rfl T.mgG ⟨_, rfl⟩))))))))))), ?_⟩
    rcases h with ⟨i, rfl, i0, i1, k⟩ | ⟨p, t, b, rfl, hp, hR, k⟩
    · refine ⟨_, rfl, .inl ⟨i, rfl, true, rfl, iteT ?_⟩⟩
      refine ⟨_, rfl, _, _, rfl, rfl, _, rfl, ite2 (fun _ => ?_) (fun e => absurd (decide_eq_true i0) e)⟩
      refine ⟨_, _, rfl, rfl, ?_⟩
      show Q (.bl (decide (i ≤ 1000000000000))) H
      rw [decide_eq_true i1]
      exact k
    · refine ⟨_, rfl, .inr ⟨p, _, rfl, hp, false, rfl, iteF ?_⟩⟩
      refine ⟨_, rfl, p, t, b, rfl, hp, true, rfl, iteF ?_⟩
      refine ⟨_, rfl, p, _, rfl, SqT.of hp, rfl, _, _, rfl, _, _, rfl, rfl, ?_⟩
      refine ⟨_, rfl, .tuple [.int t, .int b], .tuple [.int 1, .int 0], .tup (SqT.of hp) (.cons (.int _) (.cons (.int _) .nil)), .tup (.inr T.opn) (.cons (.int _) (.cons (.int _) .nil)), rfl, rfl, _, rfl, ite2 (fun _ => k) (fun e => ?_)⟩
      rcases hR with ⟨t0, t1, b0, b1⟩ | ⟨rfl, rfl⟩
      · refine ⟨_, rfl, _, _, rfl, rfl, _, rfl, ite2 (fun _ => ?_) (fun e => absurd (decide_eq_true t0) e)⟩
        refine ⟨_, _, rfl, rfl, _, rfl, ite2 (fun _ => ?_) (fun e => absurd (decide_eq_true t1) e)⟩
        refine ⟨_, rfl, _, _, rfl, rfl, _, rfl, ite2 (fun _ => ?_) (fun e => absurd (decide_eq_true b0) e)⟩
        refine ⟨_, _, rfl, rfl, ?_⟩
        show Q (.bl (decide (b ≤ 1000000000000))) H
        rw [decide_eq_true b1]
        exact k
      · exact absurd (SeqAt.eqv_refl _ (by decide +kernel)) e
theorem sc_pair_of : FnScope ["fraction_or_open"] ["fraction_or_open"] (defScope s_pair_of) := ⟨rfl, rfl, rfl, by decide +kernel, rfl, by decide +kernel, by decide +kernel⟩

theorem ok_pairof {f : Addr} {fd : FuncData} (F : Fun K "pair_of" "pair_of" s_pair_of f fd) (D_is_integer : Df P w K mg base 1 "is_integer" ["value"] spIsInt) : FnOk P w K mg base CX0 2 f fd ["fraction_or_open"] spPairOf := by
  refine F.ok sc_pair_of (fun vs H Q E h => ?_) (fun cdv A outer s H vs Q E hr h => ?_)
  · rcases h with ⟨i, rfl, _⟩ | ⟨p, xs, rfl, _⟩ <;> rfl
  · refine ⟨_, (pss_cons (ps_if (pt_val (pe_df D_is_integer (hr.mono (by decide)) (by rfl) (pa_cons (pv 0) pa_nil))) (pss_one (ps_ret (pe_tup (pa_cons (pv 0) (pa_cons pe_int pa_nil))))) pss_nil)
      (pss_one (ps_ret (pv 0)))), ?_⟩
    rcases h with ⟨i, rfl, k⟩ | ⟨p, xs, rfl, hp, k⟩
    · refine ⟨_, rfl, .inl ⟨i, rfl, true, rfl, iteT ?_⟩⟩
      exact ⟨_, rfl, (by show 2 ≤ sizeLine; decide), fun q hq => k _ q (same_upd hq) hq upd_same⟩
    · refine ⟨_, rfl, .inr ⟨p, _, rfl, hp, false, rfl, iteF ?_⟩⟩
      exact ⟨_, rfl, k⟩
theorem sc_common_divisor : FnScope ["first", "second", "high", "low"] ["first", "second"] (defScope s_common_divisor) := ⟨rfl, rfl, rfl, by decide +kernel, rfl, by decide +kernel, by decide +kernel⟩

theorem ok_gcd {f : Addr} {fd : FuncData} (F : Fun K "common_divisor" "common_divisor" s_common_divisor f fd) (T : Txt K mg) : FnOk P w K mg base CX0 1 f fd ["first", "second"] spGcd := by
  refine F.ok sc_common_divisor (fun vs H Q E h => ?_) (fun cdv A outer s H vs Q E hr h => ?_)
  · obtain ⟨t, b, rfl, _⟩ := h
    rfl
  · obtain ⟨t, b, rfl, k⟩ := h
    refine ⟨_, (pss_cons (ps_par (by rfl) sc_common_divisor.nd (i := 2) (j := 3) rfl rfl (by decide) rfl rfl (pa_cons (pe_callB call_abs (by rfl) T.abs (by decide +kernel) (pa_cons (pv 0) pa_nil)) (pa_cons (pe_callB call_abs (by rfl) T.abs (by decide +kernel) (pa_cons (pv 1) pa_nil)) pa_nil)) (by rfl))
      (pss_cons (ps_while PassesOwn.never (pt_cmpR op_gt (pv 3) pe_int (nomark _)) (pss_one (ps_par (by rfl) sc_common_divisor.nd (i := 2) (j := 3) rfl rfl (by decide) rfl rfl (pa_cons (pv 3) (pa_cons (pe_op op_mod (pv 2) (pv 3)) pa_nil)) (by rfl))))
      (pss_one (ps_ret (pv 2))))), ?_⟩
    refine ⟨_, rfl, _, rfl, _, rfl, _, rfl, _, _, rfl, ?_⟩
    refine while_by (fun σ H' => H' = H ∧ ∃ x y : Int, σ = [some (.int t), some (.int b), some (.int x), some (.int y)] ∧ 0 ≤ x ∧ 0 ≤ y ∧ gc x y = gc t b) (fun σ _ => match σ with | [_, _, _, some (.int y)] => y.toNat | _ => 0) ⟨rfl, _, _, rfl, by split <;> omega, by split <;> omega, gc_abs _ _⟩ ?_ ?_
    · rintro σ H' ⟨rfl, x, y, rfl, x0, y0, eg⟩
      refine ⟨_, rfl, _, _, rfl, rfl, _, rfl, ite2 (fun e => ?_) (fun e => ?_)⟩
      · have e0 : 0 < y := of_decide_eq_true e
        refine ⟨_, rfl, _, rfl, _, rfl, _, _, rfl, rfl, e0, _, _, rfl, ?_⟩
        have q1 := Int.emod_nonneg x (show y ≠ 0 by omega)
        have q2 := Int.emod_lt_of_pos x e0
        refine ⟨⟨rfl, y, x % y, rfl, y0, q1, ?_⟩, ?_⟩
        · rw [gc_step x0 e0, eg]
        · show (x % y).toNat < y.toNat
          omega
      · have e0 : ¬ 0 < y := fun z => e (decide_eq_true z)
        have y1 : y = 0 := by omega
        subst y1
        rw [gc_zero x0] at eg
        subst eg
        exact ⟨_, rfl, k⟩
    · rintro σ H' Q1 Q2 hq h
      obtain ⟨v, e1, i, j, e2, e3, z⟩ := h
      exact ⟨v, e1, i, j, e2, e3, z.imp fun k z => ⟨z.1, hq _ _ z.2⟩⟩
theorem sc_lowest_terms : FnScope ["top", "bottom", "divisor"] ["top", "bottom"] (defScope s_lowest_terms) := ⟨rfl, rfl, rfl, by decide +kernel, rfl, by decide +kernel, by decide +kernel⟩

theorem ok_low {f : Addr} {fd : FuncData} (F : Fun K "lowest_terms" "lowest_terms" s_lowest_terms f fd) (D_common_divisor : Df P w K mg base 1 "common_divisor" ["first", "second"] spGcd) : FnOk P w K mg base CX0 2 f fd ["top", "bottom"] spLow := by
  refine F.ok sc_lowest_terms (fun vs H Q E h => ?_) (fun cdv A outer s H vs Q E hr h => ?_)
  · obtain ⟨t, b, rfl, _⟩ := h
    rfl
  · obtain ⟨t, b, rfl, tb, ts, bs, k⟩ := h
    refine ⟨_, (pss_cons (ps_set (i := 2) sc_lowest_terms.nd rfl (.inl rfl) (pe_df D_common_divisor (hr.mono (by decide)) (by rfl) (pa_cons (pv 0) (pa_cons (pv 1) pa_nil))))
      (pss_one (ps_ret (pe_tup (pa_cons (pe_op op_fdivW (pv 0) (pv 2)) (pa_cons (pe_op op_fdivW (pv 1) (pv 2)) pa_nil)))))), ?_⟩
    have g0 : 0 < gc t b := gc_pos2 tb
    have gs : Sm 4000 (gc t b) := gc_sm tb ts bs
    refine ⟨_, rfl, _, rfl, t, b, rfl, ?_⟩
    refine ⟨_, rfl, _, rfl, _, _, rfl, rfl, dvw g0 gs, _, rfl, _, rfl, _, _, rfl, rfl, dvw g0 gs, (by show 2 ≤ sizeLine; decide), fun p hp => ?_⟩
    exact k _ _ (same_upd hp) hp upd_same
theorem sc_lowest_pair : FnScope ["fraction_or_open", "top", "bottom"] ["fraction_or_open"] (defScope s_lowest_pair) := ⟨rfl, rfl, rfl, by decide +kernel, rfl, by decide +kernel, by decide +kernel⟩

theorem ok_lowp {f : Addr} {fd : FuncData} (F : Fun K "lowest_pair" "lowest_pair" s_lowest_pair f fd) (D_pair_of : Df P w K mg base 2 "pair_of" ["fraction_or_open"] spPairOf) (D_lowest_terms : Df P w K mg base 2 "lowest_terms" ["top", "bottom"] spLow) : FnOk P w K mg base CX0 3 f fd ["fraction_or_open"] spLowP := by
  refine F.ok sc_lowest_pair (fun vs H Q E h => ?_) (fun cdv A outer s H vs Q E hr h => ?_)
  · obtain ⟨v, e, rfl, _⟩ := h
    rfl
  · obtain ⟨v, e, rfl, hv, ep, e1, e2, k⟩ := h
    refine ⟨_, (pss_cons (ps_asg (pe_df D_pair_of (hr.mono (by decide)) (by rfl) (pa_cons (pv 0) pa_nil)) (pg_tup rfl (pgs_cons (pg_name (i := 1) sc_lowest_pair.nd rfl (.inl rfl)) (pgs_cons (pg_name (i := 2) sc_lowest_pair.nd rfl (.inl rfl)) pgs_nil))))
      (pss_one (ps_ret (pe_df D_lowest_terms (hr.mono (by decide)) (by rfl) (pa_cons (pv 1) (pa_cons (pv 2) pa_nil)))))), ?_⟩
    rcases hv with ⟨i, rfl, rfl⟩ | ⟨p, rfl, hp⟩
    · refine ⟨_, rfl, .inl ⟨i, rfl, fun H1 t s1 nt ht => ?_⟩⟩
      refine ⟨t, _, rfl, SqT.of ht, rfl, _, _, rfl, _, _, rfl, rfl, ?_⟩
      exact ⟨_, rfl, _, rfl, _, _, rfl, ep, e1, e2, fun H2 t2 s2 nt2 ht2 => k _ t2 (s1.trans s2) (s1.free nt2) ht2⟩
    · refine ⟨_, rfl, .inr ⟨p, _, rfl, hp, ?_⟩⟩
      refine ⟨p, _, rfl, SqT.of hp, rfl, _, _, rfl, _, _, rfl, rfl, ?_⟩
      exact ⟨_, rfl, _, rfl, _, _, rfl, ep, e1, e2, fun H2 t2 s2 nt2 ht2 => k _ t2 s2 nt2 ht2⟩
end
end RL

set_option maxHeartbeats 1000000
/-! for i, x in enumerate(t), t a tuple. -/
namespace RL
open PySem L2 PySem.Spec PyProof.Rows
open AutoSeq1 (wpAny_loadPart')
theorem meets_enumerate_newT (l : Addr) (items : Array Value) (n : Nat) (dct : Option Addr) (sl : Array (Option Value)) :
    Meets (Builtin.«enumerate.__new__» ⟨[.type "enumerate", .ref l], []⟩) (fun _ R s => s.heap.get? l = some { cls := .type "tuple", dict := dct, data := .seq items n, slots := sl } ∧
      R (.ok (.ret (.ref (s.heap.push { cls := .type "tuple_iterator", data := .fields #[.ref l, .int 0 0] }).objs.size)))
        { s with heap := (s.heap.push { cls := .type "tuple_iterator", data := .fields #[.ref l, .int 0 0] }).push { cls := .type "enumerate", data := .fields #[.none, .bool false, .ref s.heap.objs.size, rawInt 0, .none, .none] } }) :=
  .of_wp fun prog w A R s h => by
    obtain ⟨hp, g, d, tk, os⟩ := s; obtain ⟨hl, h⟩ := h
    have hsub := sub_enumerate
    have hL : Heap.IsTuple (Shared.heap ⟨hp, g, d, tk, os⟩) l items := ⟨_, hl, rfl, n, rfl⟩
    wp_walk using wpAny_loadPart' hl
    refine wpAny_stack_any fun st => wpAny_pure ?_
    split
    · rename_i c _ _ _ _ _
      cases (c == Value.type "enumerate")
      · wp_walk using wpAny_loadPart' hl, wpAny_pyIter_tuple hL
        exact ⟨_, rfl, h⟩
      · wp_walk using wpAny_loadPart' hl, wpAny_pyIter_tuple hL
        exact ⟨_, rfl, h⟩
    · wp_walk using wpAny_loadPart' hl, wpAny_pyIter_tuple hL
      exact ⟨_, rfl, h⟩
section
variable {prog : Program} {w : World} {A : Around} {E : Value → Shared → Prop} {s : Shared}
theorem call_enumerate_tuple {l : Addr} {items : Array Value} {Q : Value → Shared → Prop} (hL : s.heap.IsTuple l items)
    (h : ∀ h', IsEnum h' (s.heap.objs.size + 1) s.heap.objs.size 0 .none → h'.IsTupleIter s.heap.objs.size l 0 → h'.objs.size = s.heap.objs.size + 2 →
      (∀ b o, s.heap.get? b = some o → h'.get? b = some o) → Q (.ref (s.heap.objs.size + 1)) { s with heap := h' }) :
    wpAny (model prog w) A (call (.type "enumerate") [.ref l]) Q E s := by
  obtain ⟨⟨c, dct, dt, sl⟩, hl, hc, n, hd⟩ := hL
  replace hc : c = .type "tuple" := hc
  replace hd : dt = .seq items n := hd
  subst hc hd
  refine callType_new F.called_enumerate (by decide) (F.typeCall_enumerate_1 _) (F.newCall_enumerate_1 _) (fun obj => F.args_object_init_2 obj _) F.entry_enumerate_new
    (meets_enumerate_newT l items n dct sl) ⟨hl, ?_⟩
  have hz : (s.heap.push { cls := .type "tuple_iterator", data := .fields #[.ref l, .int 0 0] }).objs.size = s.heap.objs.size + 1 := Heap.size_push ..
  show _ ∧ _
  rw [hz]
  have he : IsEnum ((s.heap.push { cls := .type "tuple_iterator", data := .fields #[.ref l, .int 0 0] }).push
      { cls := .type "enumerate", data := .fields #[.none, .bool false, .ref s.heap.objs.size, rawInt 0, .none, .none] }) (s.heap.objs.size + 1) s.heap.objs.size 0 .none := by
    have := Heap.get?_push_size (s.heap.push { cls := .type "tuple_iterator", data := .fields #[.ref l, .int 0 0] })
      (o := { cls := .type "enumerate", data := .fields #[.none, .bool false, .ref s.heap.objs.size, rawInt 0, .none, .none] }) rfl
    rw [hz] at this; exact this
  refine ⟨⟨_, he, rfl⟩, h _ he ⟨_, Heap.get?_push_of_some _ (Heap.get?_push_size _ rfl), rfl, rfl⟩ (by rw [Heap.size_push, hz]) fun b o x => Heap.get?_push_of_some _ (Heap.get?_push_of_some _ x)⟩
end
def IteT (K : PySem.W.Frag) (a : Addr) : It :=
  ⟨fun i H => ∃ (xs : List V) (x : V), SqT K H a xs ∧ xs[i]? = some x, fun i H v H' => ∃ T x, v = .ref T ∧ H T = none ∧ H' = upd H T (.tup [.int (i : Nat), x]) ∧ ∀ xs, SqT K H a xs → xs[i]? = some x, fun i H => ∃ xs : List V, SqT K H a xs ∧ xs.length = i⟩
theorem turn_enumT {P : Program} {w : World} {K : PySem.W.Frag} {elts : List Expr} {kk : Nat} {tpos : Pos} (a e it : Addr) :
    Turn P w K (.Tuple elts kk tpos) (IteT K a) [e, it] e (fun i h => (∃ old, IsEnum h e it ((i : Nat) : Int) old) ∧ h.IsTupleIter it a i ∧ e ≠ it ∧ a ≠ it ∧ a ≠ e) where
  mem := by simp
  obj := fun i h st b hb => by
    obtain ⟨⟨old, he⟩, ⟨o, ho, hc, hd⟩, _⟩ := st
    have e' : b = e ∨ b = it := by simpa using hb
    rcases e' with z | z
    · rw [z]; exact ⟨_, he, fun v q => nomatch q⟩
    · rw [z]; exact ⟨o, ho, fun v q => by rw [hd] at q; cases q⟩
  keep := fun i h h' st k => let ⟨⟨old, he⟩, hi, hne⟩ := st; ⟨⟨old, k e (by simp) _ he⟩, hi.at fun o q => k it (by simp) o q, hne⟩
  item := by
    intro X hP hw hK hc i pins s σ H E I hf st hg
    subst hP hw hK
    obtain ⟨⟨old, he⟩, hit, hne, hai, hae⟩ := st
    obtain ⟨xs, x, hq, hx⟩ := hg
    obtain ⟨its, rv, p, hz⟩ := I.tuple hq
    obtain ⟨u, hu, ru⟩ := rv.get hx
    have hel : e < s.heap.objs.size := Heap.lt_size he
    have hil : it < s.heap.objs.size := by obtain ⟨_, q, _⟩ := hit; exact Heap.lt_size q
    have hi : i < its.toArray.size := by
      have := (List.getElem?_eq_some_iff.mp hu).1
      simpa using this
    refine wpAny_pyNext_enum_itemD (Draws.tuple (A := X.A.in1) (I.ok.hd hc) it a hai its.toArray) he ⟨hit, p⟩ hi hne (by simp [hne, Ne.symm hae]) fun x' h' tk hPx ho st' hT hsz hk => ?_
    have ex : x' = u := by
      have h1 : its.toArray[i]? = some u := by simpa using hu
      rw [h1] at hPx
      exact (Option.some.inj hPx).symm
    subst ex
    refine ⟨_, rfl, wpAny_letOwnedTupleGo_enum (s := { s with heap := h', toks := tk + 1 }) ho fun h'' he' sb => ?_⟩
    have hT2 : h''.get? s.heap.objs.size = some { cls := .type "tuple", data := .seq #[.int i tk, x'] } := (sb.2 _ (Nat.ne_of_gt hel)).trans hT
    have new : ObjOk X.prog X.w (upd H s.heap.objs.size (.tup [.int (i : Nat), x])) h'' s.heap.objs.size (.tup [.int (i : Nat), x]) :=
      ⟨by show 2 ≤ sizeLine; decide, [.int i tk, x'], .cons ⟨_, rfl⟩ (.cons ru .nil), ⟨_, hT2, rfl, _, rfl⟩⟩
    have I1 : Inv X pins σ (upd H s.heap.objs.size (.tup [.int (i : Nat), x])) { s with heap := h'', toks := tk + 1 } :=
      I.turnedNew (ch := [e, it]) (fun b ob hb q => (sb.2 b (fun z => hb (by simp [z]))).trans (hk b ob (fun z => hb (by simp [z])) (fun z => hb (by simp [z])) q)) hf (Nat.le_refl _) new
    refine ⟨.ref s.heap.objs.size, _, I1, rfl, ⟨_, x, rfl, I.hok.fresh (Nat.le_refl _), rfl, fun ys hy => by rw [I.tuple_inj hy hq]; exact hx⟩, ⟨⟨x', ?_⟩, st'.1.at fun o q => (sb.2 it (Ne.symm hne)).trans q, hne, hai, hae⟩, fun b hb => ?_⟩
    · have e1 : ((i + 1 : Nat) : Int) = (i : Int) + 1 := by omega
      rw [e1]; exact he'
    · have hb' : b < s.heap.objs.size := by
        have e' : b = e ∨ b = it := by simpa using hb
        rcases e' with z | z
        · rw [z]; exact hel
        · rw [z]; exact hil
      rw [upd_ne (Nat.ne_of_lt hb')]
      exact (hf b hb).1
  done := by
    intro X hP hw hK hc i pins s σ H E I hf st hg
    subst hP hw hK
    obtain ⟨⟨old, he⟩, hit, hne, hai, hae⟩ := st
    obtain ⟨xs, hq, hx⟩ := hg
    obtain ⟨its, rv, p, hz⟩ := I.tuple hq
    obtain ⟨f0, f1, f2, f3, f4, f5⟩ := hf it (by simp)
    have hl := rv.length
    have en : its.toArray.size = i := by simp; omega
    have hit' : s.heap.IsTupleIter it a its.toArray.size := by rw [en]; exact hit
    exact wpAny_pyNext_enum_endD (Draws.tuple (A := X.A.in1) (I.ok.hd hc) it a hai its.toArray) he ⟨hit', p⟩ fun h' eb => ⟨rfl, I.turned (t' := s.toks) (fun b o hb q => eb b o hb q) f0 f1 f3 f4 f5⟩
  self := fun A i s Q E st h => let ⟨⟨_, he⟩, _⟩ := st; wpAny_pyIter_enum he h
def iEnumT (K : PySem.W.Frag) (ta : TA) : TI := fun σ H R => ta σ H fun vs H1 => ∃ a xs, vs = [.ref a] ∧ SqT K H1 a xs ∧ R (IteT K a) H1
theorem pi_enumT {X : Cx} {e : Expr} {ta : TA} {p pos tpos : Pos} {elts : List Expr} {kk : Nat} (hg : Gl X "enumerate") (hm : X.mg "enumerate" = none) (ha : PA X [e] ta) (hs : starEach [e] X.env = [(false, eval e X.env)] := by rfl) :
    PI X (.Tuple elts kk tpos) (.Call (.Name "enumerate" p) [e] [] pos) (iEnumT X.K ta) := by
  refine ⟨fun pins s σ H R I h => ?_⟩
  refine Call_ (ld_blt I hg hm boot_enumerate (PyProof.Rows.callWith_type1 (thn (ha.run pos pins s σ H _ I h) fun us s1 ⟨vs, H1, I1, r1, q1⟩ => ?_) hs rfl))
  obtain ⟨a, xs, ex, hq, q⟩ := q1
  subst ex
  cases r1 with
  | cons r rr =>
    cases rr
    cases r
    obtain ⟨its, rv, p', hz⟩ := I1.tuple hq
    have hal : a < s1.heap.objs.size := by obtain ⟨o, ho, _⟩ := id p'; exact Heap.lt_size ho
    refine call_enumerate_tuple p' fun h' he hit hsz hk => wpAny_pyIter_enum he ?_
    have I2 : Inv X pins σ H1 { s1 with heap := h' } := I1.kept (t' := s1.toks) hk
    refine ⟨s1.heap.objs.size + 1, [s1.heap.objs.size + 1, s1.heap.objs.size], _, _, H1, rfl, I2, turn_enumT a (s1.heap.objs.size + 1) s1.heap.objs.size, ⟨⟨.none, he⟩, hit, Nat.succ_ne_self _, Nat.ne_of_lt hal, Nat.ne_of_lt (Nat.lt_succ_of_lt hal)⟩, fun b hb => ?_, q⟩
    have e' : b = s1.heap.objs.size + 1 ∨ b = s1.heap.objs.size := by simpa using hb
    have hle : s1.heap.objs.size ≤ b := by
      rcases e' with z | z
      · rw [z]; exact Nat.le_add_right _ _
      · rw [z]; exact Nat.le_refl _
    exact I1.fpOk hle (I1.hok.fresh hle)
theorem for_enumT {K : PySem.W.Frag} {a : Addr} {xs : List V} {g : TG} {tb : TS} {D : Ends} {σ : L2.St} {H : Hp} (Pv : Nat → L2.St → Hp → Prop) (h0 : Pv 0 σ H) (hl : ∀ i σ H, i ≤ xs.length → Pv i σ H → SqT K H a xs)
    (hs : ∀ i x σ H T, xs[i]? = some x → Pv i σ H → H T = none → g (.ref T) σ (upd H T (.tup [.int (i : Nat), x])) fun σ2 H2 => tb { D with nx := Pv (i + 1), ct := Pv (i + 1), bk := D.nx } σ2 H2) (hd : ∀ σ H, Pv xs.length σ H → D.nx σ H) :
    ∃ W : Nat → Nat → L2.St → Hp → Prop, (∃ m, W 0 m σ H) ∧ ∀ i m σ H, W i m σ H →
      ((IteT K a).stop i H ∧ D.nx σ H) ∨ ((IteT K a).go i H ∧ ∃ N : L2.St → Hp → Prop, (∀ σ' H', N σ' H' → ∃ m', m' < m ∧ W (i + 1) m' σ' H') ∧ ∀ x H', (IteT K a).yld i H x H' → g x σ H' fun σ2 H2 => tb { D with nx := N, ct := N, bk := D.nx } σ2 H2) := by
  refine ⟨fun i m σ H => m = xs.length - i ∧ i ≤ xs.length ∧ Pv i σ H, ⟨xs.length, by simp, Nat.zero_le _, h0⟩, ?_⟩
  rintro i m σ H ⟨rfl, hi, p⟩
  have q := hl i σ H hi p
  by_cases hlt : i < xs.length
  · refine .inr ⟨⟨xs, xs[i], q, by simp [hlt]⟩, Pv (i + 1), fun σ' H' p' => ⟨xs.length - (i + 1), by omega, rfl, hlt, p'⟩, fun x H' y => ?_⟩
    obtain ⟨T, x', rfl, nT, rfl, hx⟩ := y
    exact hs i x' σ H T (hx xs q) p nT
  · have : i = xs.length := by omega
    subst this
    exact .inl ⟨⟨xs, q, rfl⟩, hd σ H p⟩
theorem fnR_mk {P : Program} {w : World} {K : PySem.W.Frag} {mg : Str → Option Value} {base : Heap} {k : Nat} {g : Addr} {fd : FuncData} {ps : List Str} {sp : Sp} (F : FnOk P w K mg base CX0 k g fd ps sp) (hb : Binds K fd ps []) : FnR P w K mg base CX0 k g sp := by
  intro A outer s H us vs Q E hr e0 r h
  have hl : (us ++ []).length = ps.length := by
    rw [List.append_nil, ← r.length]
    exact F.len _ _ _ _ h
  have KX : K.In s.heap := e0.mod.kin.keeps fun b o e => (e0.bs b o e).1
  have hbb := hb s us KX hl
  rw [List.append_nil] at hbb
  exact F.run A outer s H ⟨us, []⟩ us vs Q E hr e0 hbb r h
end RL

namespace RL
open PySem L2
/-! ### the texts of pieces -/
def wd (r : Bool) : Str := if r = true then Str.ofString "rail" else Str.ofString "rung"
def ptx (p : Pc) : Str := wd p.1 ++ Str.ofString " " ++ ts p.2
theorem ptx_dec : ∀ r r' : Bool, ∀ i j : Fin 12, ptx (r, (i.val : Int) + 1) = ptx (r', (j.val : Int) + 1) → r = r' ∧ i = j := by decide +kernel
theorem ptx_free_dec : ∀ r : Bool, ∀ i : Fin 12, 44 ∉ TL.tl (ptx (r, (i.val : Int) + 1)) ∧ (ptx (r, (i.val : Int) + 1)).length ≤ 7 := by decide +kernel
theorem pc_fin {p : Pc} (h : PcOk p) : ∃ i : Fin 12, p = (p.1, (i.val : Int) + 1) := by
  obtain ⟨h1, h2⟩ := h
  refine ⟨⟨(p.2 - 1).toNat, by omega⟩, ?_⟩
  ext
  · rfl
  · dsimp
    omega
theorem ptx_inj {p q : Pc} (hp : PcOk p) (hq : PcOk q) (h : ptx p = ptx q) : p = q := by
  obtain ⟨i, ei⟩ := pc_fin hp
  obtain ⟨j, ej⟩ := pc_fin hq
  rw [ei, ej] at h
  obtain ⟨a, b⟩ := ptx_dec _ _ _ _ h
  rw [ei, ej, a, b]
theorem ptx_free {p : Pc} (hp : PcOk p) : 44 ∉ TL.tl (ptx p) := by
  obtain ⟨i, ei⟩ := pc_fin hp
  rw [ei]
  exact (ptx_free_dec _ _).1
theorem ptx_len {p : Pc} (hp : PcOk p) : (ptx p).length ≤ 7 := by
  obtain ⟨i, ei⟩ := pc_fin hp
  rw [ei]
  exact (ptx_free_dec _ _).2
theorem wd_inj {r r' : Bool} (h : wd r = wd r') : r = r' := by
  revert r r'
  decide +kernel
theorem both {R G : Prop} (f : R → G) (r : R) : G := f r
theorem ne_selfV (v : V) : ¬ (!decide (v = v)) = true := by
  rw [decide_eq_true rfl]
  decide
/-! ### rows in the heap -/
def PieceAt (H : Hp) (v : V) (p : Pc) : Prop := ∃ t, v = .ref t ∧ H t = some (.tup [.str (wd p.1), .int p.2])
def PiecesAt (H : Hp) (vs : List V) (r : List Pc) : Prop := vs.length = r.length ∧ ∀ (i : Nat) (p : Pc), r[i]? = some p → ∃ v, vs[i]? = some v ∧ PieceAt H v p
theorem PieceAt.same {H H' : Hp} {v : V} {p : Pc} (h : PieceAt H v p) (s : Same H H') : PieceAt H' v p := by
  obtain ⟨t, e, ht⟩ := h
  exact ⟨t, e, s _ _ ht⟩
theorem PiecesAt.same {H H' : Hp} {vs : List V} {r : List Pc} (h : PiecesAt H vs r) (s : Same H H') : PiecesAt H' vs r :=
  ⟨h.1, fun i p hp => let ⟨v, hv, q⟩ := h.2 i p hp; ⟨v, hv, q.same s⟩⟩
theorem PieceAt.but {H H' : Hp} {x : Addr} {v : V} {p : Pc} (h : PieceAt H v p) (s : But x H H') (hx : ∀ xs, H x ≠ some (.tup xs)) : PieceAt H' v p := by
  obtain ⟨t, e, ht⟩ := h
  refine ⟨t, e, s _ _ ?_ ht⟩
  rintro rfl
  exact hx _ ht
theorem PiecesAt.but {H H' : Hp} {x : Addr} {vs : List V} {r : List Pc} (h : PiecesAt H vs r) (s : But x H H') (hx : ∀ xs, H x ≠ some (.tup xs)) : PiecesAt H' vs r :=
  ⟨h.1, fun i p hp => let ⟨v, hv, q⟩ := h.2 i p hp; ⟨v, hv, q.but s hx⟩⟩
theorem PiecesAt.at_ {H : Hp} {vs : List V} {r : List Pc} (h : PiecesAt H vs r) {i : Nat} {v : V} (hv : vs[i]? = some v) : ∃ p, r[i]? = some p ∧ PieceAt H v p := by
  have hi : i < r.length := by
    rw [← h.1]
    exact (List.getElem?_eq_some_iff.mp hv).1
  obtain ⟨w, hw, q⟩ := h.2 i r[i] (List.getElem?_eq_getElem hi)
  rw [hv] at hw
  cases hw
  exact ⟨_, List.getElem?_eq_getElem hi, q⟩
theorem RowOk.at_ {r : List Pc} (h : RowOk r) {i : Nat} {p : Pc} (hp : r[i]? = some p) : PcOk p := h p (List.mem_of_getElem? hp)
structure Txt3 (K : PySem.W.Frag) (mg : Str → Option Value) (tG t1 t2 t3 : Tok) (aO aW J C : Addr) : Prop extends Txt2 K mg tG aO where
  mgOh : mg "MOST_OHMS" = some (.int 12 t1)
  mgPi : mg "MOST_PIECES" = some (.int 4 t2)
  mgJo : mg "MOST_JOINED" = some (.int 8 t3)
  mgW : mg "WORDS" = some (.ref aW)
  wds : ∃ (o : Obj) (its : Array Value) (n : Nat), K.lookup aW = some o ∧ o.cls = .type "tuple" ∧ o.data = .seq its n ∧ its.size ≤ sizeLine ∧ Vals [.str (Str.ofString "rail"), .str (Str.ofString "rung")] its.toList
  mgJ : mg "JoinedRow" = some (.ref J)
  mgC : mg "Pattern" = some (.ref C)
  clJ : Cls K J
  nJ : NoAttr K J "row"
  caJ : PySem.W.findIn K (.ref J) "__class__" = some (some (.builtin "object.__class__"))
  cnJ : PySem.W.specialIn K (.builtin "object.__class__") "__get__" = some (some (.builtin "getset_descriptor.__get__"))
  ctJ : PySem.W.takesIn K (.builtin "object.__class__") = some true
  cmJ : PySem.W.mroIn K J (.type "object") = some true
  isJ : PySem.W.kitOne K (.ref J) (.ref J) = some true
  ktJ : PySem.W.kitOne K (.type "tuple") (.ref J) = some false
  cl : Cls K C
  nRow : NoAttr K C "row"
  nMat : NoAttr K C "matrix"
  nScl : NoAttr K C "scale"
  nFour : NoAttr K C "four"
/-! ### promises -/
def spJ (J : Addr) : Sp := fun vs H Q _ => ∃ (x dx : Addr) (v : V), vs = [.ref x, v] ∧ H x = some (.ins J dx []) ∧ Q .non (upd H x (.ins J dx [("row", v)]))
def spIsPiece : Sp := fun vs H Q _ => ∃ (v : V) (p : Pc), vs = [v] ∧ PieceAt H v p ∧ PcOk p ∧ Q (.bl true) H
def spChk (J : Addr) : Sp := fun vs H Q _ => ∃ p : Addr, vs = [.ref p] ∧ ((∃ j dj q, H p = some (.tup [.ref j]) ∧ H j = some (.ins J dj [("row", .ref q)]) ∧ Q (.ref q) H) ∨
  (∃ ws r, H p = some (.tup ws) ∧ PiecesAt H ws r ∧ RowOk r ∧ 1 ≤ r.length ∧ r.length ≤ 4 ∧ ∀ H', Same H H' → Q (.ref p) H'))
def MatT (m : Mx) : List V := [.int m.a, .int m.b, .int m.c, .int m.d]
def spMat : Sp := fun vs H Q _ => ∃ (q : Addr) (ws : List V) (r : List Pc), vs = [.ref q] ∧ H q = some (.tup ws) ∧ PiecesAt H ws r ∧ RowOk r ∧ r.length ≤ 8 ∧
  ∀ H' p m, Same H H' → H' p = some (.tup [.ref m, .int (sclR r)]) → H' m = some (.tup (MatT (matR r))) → H p = none → H m = none → Q (.ref p) H'
def spShown : Sp := fun vs H Q _ => ∃ (a b : Addr) (m : Mx) (e : Int × Int), vs = [.ref a, .ref b] ∧ H a = some (.tup (MatT m)) ∧ H b = some (.tup [.int e.1, .int e.2]) ∧ MxSm 9000 m ∧ Sm 50000 e.1 ∧ Sm 50000 e.2 ∧
  ∀ H' p, Same H H' → H p = none → H' p = some (.tup [.int (m.app e).1, .int (m.app e).2]) → Q (.ref p) H'
def spPtx : Sp := fun vs H Q _ => ∃ p : Pc, vs = [.str (wd p.1), .int p.2] ∧ PcOk p ∧ Q (.str (ptx p)) H
def spPwt : Sp := fun vs H Q _ => ∃ p : Pc, vs = [.str (ptx p)] ∧ PcOk p ∧ ∀ H' t, Same H H' → H t = none → H' t = some (.tup [.str (wd p.1), .int p.2]) → Q (.ref t) H'
section
variable {P : Program} {w : World} {K : PySem.W.Frag} {mg : Str → Option Value} {base : Heap} {tG t1 t2 t3 : Tok} {aO aW J C : Addr}
theorem sc_JoinedRow_init : FnScope ["self", "row"] ["self", "row"] (defScope s_JoinedRow_init) := ⟨rfl, rfl, rfl, by decide +kernel, rfl, by decide +kernel, by decide +kernel⟩

theorem ok_join {f : Addr} {fd : FuncData} (F : Fun K "__init__" "JoinedRow.__init__" s_JoinedRow_init f fd) (T : Txt3 K mg tG t1 t2 t3 aO aW J C) : FnOk P w K mg base CX0 1 f fd ["self", "row"] (spJ J) := by
  refine F.ok sc_JoinedRow_init (fun vs H Q E h => ?_) (fun cdv A outer s H vs Q E hr h => ?_)
  · obtain ⟨x, dx, v, rfl, _⟩ := h
    rfl
  · obtain ⟨x, dx, v, rfl, hx, k⟩ := h
    refine ⟨_, (pss_one (ps_fld (pv 0) (pv 1) rfl)), ?_⟩
    exact ⟨_, rfl, _, rfl, x, J, dx, _, rfl, hx, T.clJ, T.nJ, (by show 0 < 1000; decide), k⟩
theorem sc_is_piece : FnScope ["value", "word", "ohms"] ["value"] (defScope s_is_piece) := ⟨rfl, rfl, rfl, by decide +kernel, rfl, by decide +kernel, by decide +kernel⟩

theorem ok_ispiece {f : Addr} {fd : FuncData} (F : Fun K "is_piece" "is_piece" s_is_piece f fd) (T : Txt3 K mg tG t1 t2 t3 aO aW J C) (D_is_integer_within : Df P w K mg base 2 "is_integer_within" ["value", "least", "most"] spWithin) : FnOk P w K mg base CX0 3 f fd ["value"] spIsPiece := by
  refine F.ok sc_is_piece (fun vs H Q E h => ?_) (fun cdv A outer s H vs Q E hr h => ?_)
  · obtain ⟨v, p, rfl, _⟩ := h
    rfl
  · obtain ⟨v, p, rfl, ⟨t, rfl, ht⟩, ⟨p1, p2⟩, k⟩ := h
    refine ⟨_, (pss_cons (ps_if (PW.pt (pw_or (pt_not (pt_val (pe_callB call_isi (by rfl) T.isinstance (by decide +kernel) (pa_cons (pv 0) (pa_cons (pe_bltn (v := .ty "tuple") (by rfl) T.tuple_ (by decide +kernel) rfl) pa_nil))))) (pw_or1 (pt_cmpR op_ne (pe_callB call_len_seq (by rfl) T.len (by decide +kernel) (pa_cons (pv 0) pa_nil)) pe_int (nomark _))))) (pss_one (ps_ret pe_bl)) pss_nil)
      (pss_cons (ps_asg (pv 0) (pg_tup rfl (pgs_cons (pg_name (i := 1) sc_is_piece.nd rfl (.inl rfl)) (pgs_cons (pg_name (i := 2) sc_is_piece.nd rfl (.inl rfl)) pgs_nil))))
      (pss_one (ps_ret (pe_and (pe_callB call_isi (by rfl) T.isinstance (by decide +kernel) (pa_cons (pv 1) (pa_cons (pe_bltn (v := .ty "str") (by rfl) T.str_ (by decide +kernel) rfl) pa_nil))) (pe_and (pe_cmpR op_in_seq (pv 1) (pe_glob (v := .ref aW) rfl T.mgW rfl) (by rfl)) (pe_one (pe_df D_is_integer_within (hr.mono (by decide)) (by rfl) (pa_cons (pv 2) (pa_cons pe_int (pa_cons (pe_glob (v := .int 12) rfl T.mgOh ⟨_, rfl⟩) pa_nil))))))))))), ?_⟩
    refine ⟨_, rfl, _, _, _, _, true, rfl, .ty _, .base (.tup ht), kit_ty (by decide +kernel), true, rfl, iteF ?_⟩
    refine ⟨_, rfl, t, _, rfl, .inr (SqT.of ht), rfl, _, rfl, ite2 (fun e => absurd e (ne_selfV (.int 2))) (fun _ => ?_)⟩
    refine ⟨_, rfl, t, _, rfl, SqT.of ht, rfl, _, _, rfl, _, _, rfl, rfl, ?_⟩
    refine ⟨_, rfl, _, _, _, _, true, rfl, .ty _, .base (.str _), kit_ty (by decide +kernel), true, rfl, iteT ?_⟩
    have hin : inV (V.str (wd p.1)) [.str (Str.ofString "rail"), .str (Str.ofString "rung")] = true := by
      cases p.1 <;> decide +kernel
    refine ⟨_, rfl, aW, _, rfl, .inr (.inr T.wds), rfl, rfl, true, congrArg V.bl hin, iteT ?_⟩
    exact ⟨_, rfl, p.2, 1, 12, rfl, p1, p2, k⟩
theorem sc_checked_row : FnScope ["pieces", "at", "piece"] ["pieces"] (defScope s_checked_row) := ⟨rfl, rfl, rfl, by decide +kernel, rfl, by decide +kernel, by decide +kernel⟩

theorem ok_chk {f : Addr} {fd : FuncData} (F : Fun K "checked_row" "checked_row" s_checked_row f fd) (T : Txt3 K mg tG t1 t2 t3 aO aW J C) (D_is_piece : Df P w K mg base 3 "is_piece" ["value"] spIsPiece) : FnOk P w K mg base CX0 4 f fd ["pieces"] (spChk J) := by
  refine F.ok sc_checked_row (fun vs H Q E h => ?_) (fun cdv A outer s H vs Q E hr h => ?_)
  · obtain ⟨p, rfl, _⟩ := h
    rfl
  · obtain ⟨p, rfl, h⟩ := h
    refine ⟨_, (pss_cons (ps_if (PW.pt (pw_and (pt_cmpR op_eq (pe_callB call_len_seq (by rfl) T.len (by decide +kernel) (pa_cons (pv 0) pa_nil)) pe_int (nomark _)) (pw_and1 (pt_val (pe_callB call_isi (by rfl) T.isinstance (by decide +kernel) (pa_cons (pe_ix ix_tup (pv 0) pe_int (fun _ _ => rfl)) (pa_cons (pe_glob (v := .ref J) rfl T.mgJ rfl) pa_nil))))))) (pss_one (ps_ret (pe_fld (pe_ix ix_tup (pv 0) pe_int (fun _ _ => rfl)) rfl))) pss_nil)
      (pss_cons (ps_if (PW.pt (pw_or (pt_cmpR op_lt (pe_callB call_len_seq (by rfl) T.len (by decide +kernel) (pa_cons (pv 0) pa_nil)) pe_int (nomark _)) (pw_or1 (pt_cmpR op_gt (pe_callB call_len_seq (by rfl) T.len (by decide +kernel) (pa_cons (pv 0) pa_nil)) (pe_glob (v := .int 4) rfl T.mgPi ⟨_, rfl⟩) (nomark _))))) (pss_one ps_never) pss_nil)
      (pss_cons (ps_for PassesOwn.never rfl (pi_enumT (by rfl) T.enumerate (pa_cons (pv 0) pa_nil)) (pg_tup rfl (pgs_cons (pg_name (i := 1) sc_checked_row.nd rfl (.inl rfl)) (pgs_cons (pg_name (i := 2) sc_checked_row.nd rfl (.inl rfl)) pgs_nil))) (pss_one (ps_if (pt_not (pt_val (pe_df D_is_piece (hr.mono (by decide)) (by rfl) (pa_cons (pv 2) pa_nil)))) (pss_one ps_never) pss_nil)))
      (pss_one (ps_ret (pv 0)))))), ?_⟩
    rcases h with ⟨j, dj, q, hp, hj, k⟩ | ⟨ws, r, hp, hw, hok, l1, l4, k⟩
    · refine ⟨_, rfl, p, _, rfl, .inr (SqT.of hp), rfl, _, rfl, ite2 (fun _ => ?_) (fun e => absurd (decide_eq_true rfl) e)⟩
      refine ⟨_, rfl, p, _, _, _, rfl, rfl, SqT.of hp, atI_nat (j := 0) rfl, _, _, _, _, true, rfl, .own J, .base (.ins hj T.clJ T.caJ T.cnJ T.ctJ T.cmJ), T.isJ, true, rfl, iteT ?_⟩
      exact ⟨_, rfl, p, _, _, _, rfl, rfl, SqT.of hp, atI_nat (j := 0) rfl, j, J, dj, _, _, rfl, hj, T.clJ, T.nJ, rfl, k⟩
    · have lw : ws.length = r.length := hw.1
      refine both (fun rest => ⟨_, rfl, p, _, rfl, .inr (SqT.of hp), rfl, _, rfl, ite2 (fun e => ?_) (fun _ => rest)⟩) ?_
      · have e1 : ws.length = 1 := by
          have := V.int.inj (of_decide_eq_true e)
          omega
        obtain ⟨t, et, ht⟩ := (hw.2 0 r[0] (List.getElem?_eq_getElem (by omega)))
        obtain ⟨a, rfl, ha⟩ := ht
        refine ⟨_, rfl, p, _, _, _, rfl, rfl, SqT.of hp, atI_nat (j := 0) et, _, _, _, _, false, rfl, .own J, .base (.tup ha), T.ktJ, false, rfl, iteF rest⟩
      refine ⟨_, rfl, p, _, rfl, .inr (SqT.of hp), _, _, rfl, rfl, _, rfl, ite2 (fun e => ?_) (fun _ => ?_)⟩
      · have := of_decide_eq_true e
        omega
      refine ⟨_, rfl, p, _, rfl, .inr (SqT.of hp), _, _, rfl, rfl, _, rfl, ite2 (fun e => ?_) (fun _ => ?_)⟩
      · have := of_decide_eq_true e
        omega
      refine ⟨_, rfl, p, _, rfl, SqT.of hp, ?_⟩
      refine for_enumT (K := K) (a := p) (xs := ws) (fun i σ H' => Same H H' ∧ ∃ v1 v2, σ = [some (.ref p), v1, v2]) ⟨Same.refl _, none, none, rfl⟩ (fun i σ H' _ h => SqT.of (h.1 _ _ hp)) ?_ ?_
      · rintro i x σ H' T0 hx ⟨sm, v1, v2, rfl⟩ nT
        refine ⟨T0, _, rfl, SqT.of upd_same, rfl, _, _, rfl, _, _, rfl, rfl, ?_⟩
        obtain ⟨pc, hpc, hx'⟩ := hw.at_ hx
        have s2 := sm.trans (same_upd (o := .tup [.int (i : Nat), x]) nT)
        exact ⟨_, rfl, _, pc, rfl, hx'.same s2, hok.at_ hpc, true, rfl, iteF ⟨s2, _, _, rfl⟩⟩
      · rintro σ H' ⟨sm, v1, v2, rfl⟩
        exact ⟨_, rfl, k _ sm⟩
theorem sc_matrix_and_scale : FnScope ["row", "a", "b", "c", "d", "scale", "word", "ohms"] ["row"] (defScope s_matrix_and_scale) := ⟨rfl, rfl, rfl, by decide +kernel, rfl, by decide +kernel, by decide +kernel⟩

theorem ok_mat {f : Addr} {fd : FuncData} (F : Fun K "matrix_and_scale" "matrix_and_scale" s_matrix_and_scale f fd) : FnOk P w K mg base CX0 1 f fd ["row"] spMat := by
  refine F.ok sc_matrix_and_scale (fun vs H Q E h => ?_) (fun cdv A outer s H vs Q E hr h => ?_)
  · obtain ⟨q, ws, r, rfl, _⟩ := h
    rfl
  · obtain ⟨q, ws, r, rfl, hq, hw, hok, l8, k⟩ := h
    refine ⟨_, (pss_cons (ps_asg (pe_tup (pa_cons pe_int (pa_cons pe_int (pa_cons pe_int (pa_cons pe_int pa_nil))))) (pg_tup rfl (pgs_cons (pg_name (i := 1) sc_matrix_and_scale.nd rfl (.inl rfl)) (pgs_cons (pg_name (i := 2) sc_matrix_and_scale.nd rfl (.inl rfl)) (pgs_cons (pg_name (i := 3) sc_matrix_and_scale.nd rfl (.inl rfl)) (pgs_cons (pg_name (i := 4) sc_matrix_and_scale.nd rfl (.inl rfl)) pgs_nil))))))
      (pss_cons (ps_set (i := 5) sc_matrix_and_scale.nd rfl (.inl rfl) pe_int)
      (pss_cons (ps_for PassesOwn.never rfl (pi_tup (pv 0)) (pg_tup rfl (pgs_cons (pg_name (i := 6) sc_matrix_and_scale.nd rfl (.inl rfl)) (pgs_cons (pg_name (i := 7) sc_matrix_and_scale.nd rfl (.inl rfl)) pgs_nil))) (pss_one (ps_if (pt_cmpR op_eq (pv 6) pe_str (nomark _)) (pss_one (ps_par (by rfl) sc_matrix_and_scale.nd (i := 2) (j := 4) rfl rfl (by decide) rfl rfl (pa_cons (pe_op op_add (pe_op op_mulX (pv 1) (pv 7)) (pv 2)) (pa_cons (pe_op op_add (pe_op op_mulX (pv 3) (pv 7)) (pv 4)) pa_nil)) (by rfl))) (pss_cons (ps_asg (pe_tup (pa_cons (pe_op op_add (pe_op op_mulX (pv 1) (pv 7)) (pv 2)) (pa_cons (pe_op op_mulX (pv 2) (pv 7)) (pa_cons (pe_op op_add (pe_op op_mulX (pv 3) (pv 7)) (pv 4)) (pa_cons (pe_op op_mulX (pv 4) (pv 7)) pa_nil))))) (pg_tup rfl (pgs_cons (pg_name (i := 1) sc_matrix_and_scale.nd rfl (.inl rfl)) (pgs_cons (pg_name (i := 2) sc_matrix_and_scale.nd rfl (.inl rfl)) (pgs_cons (pg_name (i := 3) sc_matrix_and_scale.nd rfl (.inl rfl)) (pgs_cons (pg_name (i := 4) sc_matrix_and_scale.nd rfl (.inl rfl)) pgs_nil))))))
      (pss_one (ps_set (i := 5) sc_matrix_and_scale.nd rfl (.inl rfl) (pe_op op_mulX (pv 5) (pv 7))))))))
      (pss_one (ps_ret (pe_tup (pa_cons (pe_tup (pa_cons (pv 1) (pa_cons (pv 2) (pa_cons (pv 3) (pa_cons (pv 4) pa_nil))))) (pa_cons (pv 5) pa_nil)))))))), ?_⟩
    refine ⟨(by show 4 ≤ sizeLine; decide), fun p0 hp0 => ⟨p0, _, rfl, SqT.of upd_same, rfl, _, _, rfl, _, _, rfl, _, _, rfl, _, _, rfl, rfl, ?_⟩⟩
    have s0 := same_upd (o := .tup [.int 1, .int 0, .int 0, .int 1]) hp0
    refine ⟨_, rfl, q, rfl, ⟨_, SqT.of (s0 _ _ hq)⟩, ?_⟩
    refine for_tup (K := K) (a := q) (xs := ws) (fun i σ H' => Same H H' ∧ ∃ v1 v2, σ = [some (.ref q), some (.int ((r.take i).foldl stepM m1).a), some (.int ((r.take i).foldl stepM m1).b), some (.int ((r.take i).foldl stepM m1).c), some (.int ((r.take i).foldl stepM m1).d), some (.int ((r.take i).foldl stepS 1)), v1, v2]) ⟨s0, none, none, rfl⟩ (fun i σ H' _ h => SqT.of (h.1 _ _ hq)) ?_ ?_
    · rintro i x σ H' hx ⟨sm, v1, v2, rfl⟩
      obtain ⟨pc, hpc, t, rfl, ht⟩ := hw.at_ hx
      have hi : i < r.length := (List.getElem?_eq_some_iff.mp hpc).1
      have tk : r.take (i + 1) = r.take i ++ [pc] := by
        rw [List.take_succ, hpc]
        rfl
      have f1 : (r.take (i + 1)).foldl stepM m1 = stepM ((r.take i).foldl stepM m1) pc := by rw [tk, List.foldl_append]; rfl
      have f2 : (r.take (i + 1)).foldl stepS 1 = stepS ((r.take i).foldl stepS 1) pc := by rw [tk, List.foldl_append]; rfl
      have okt : RowOk (r.take i) := fun z hz => hok z (List.mem_of_mem_take hz)
      have ms : MxSm 41 ((r.take i).foldl stepM m1) := (fold_sm okt m1_sm).mono (by rw [List.length_take]; omega)
      have ss : Sm 41 ((r.take i).foldl stepS 1) := (scl_sm (n := 1) okt (by unfold Sm; decide)).mono (by rw [List.length_take]; omega)
      obtain ⟨sa, sb, sc, sd⟩ := ms
      have po := ohm_sm (hok.at_ hpc)
      have ht' := sm _ _ ht
      rw [f1, f2]
      generalize (r.take i).foldl stepM m1 = m at *
      generalize (r.take i).foldl stepS 1 = sc0 at *
      refine ⟨t, _, rfl, SqT.of ht', rfl, _, _, rfl, _, _, rfl, rfl, ?_⟩
      refine ⟨_, rfl, rfl, _, rfl, ite2 (fun e => ?_) (fun e => ?_)⟩
      · have r1 : pc.1 = true := wd_inj (r' := true) (V.str.inj (of_decide_eq_true e))
        unfold stepM stepS
        rw [if_pos r1, if_pos r1]
        exact ⟨_, rfl, _, rfl, _, _, rfl, rfl, mx sa po, _, rfl, _, _, rfl, rfl, _, rfl, _, rfl, _, _, rfl, rfl, mx sc po, _, rfl, _, _, rfl, rfl, _, _, rfl, sm, _, _, rfl⟩
      · have r1 : ¬ pc.1 = true := fun z => e (decide_eq_true (by rw [z]; rfl))
        unfold stepM stepS
        rw [if_neg r1, if_neg r1]
        refine ⟨_, rfl, _, rfl, _, _, rfl, rfl, mx sa po, _, rfl, _, _, rfl, rfl, _, rfl, _, rfl, _, _, rfl, rfl, mx sb po, _, rfl, _, rfl, _, _, rfl, rfl, mx sc po, _, rfl, _, _, rfl, rfl, _, rfl, _, rfl, _, _, rfl, rfl, mx sd po, (by show 4 ≤ sizeLine; decide), fun p1 hp1 => ⟨p1, _, rfl, SqT.of upd_same, rfl, _, _, rfl, _, _, rfl, _, _, rfl, _, _, rfl, rfl, ?_⟩⟩
        exact ⟨_, rfl, _, rfl, _, _, rfl, rfl, mx ss po, sm.trans (same_upd hp1), _, _, rfl⟩
    · rintro σ H' ⟨sm, v1, v2, rfl⟩
      rw [hw.1, List.take_length]
      refine ⟨_, rfl, _, rfl, _, rfl, _, rfl, (by show 4 ≤ sizeLine; decide), fun m hm => ⟨_, rfl, (by show 2 ≤ sizeLine; decide), fun p hp => ?_⟩⟩
      have s1 := same_upd (o := .tup (MatT (matR r))) hm
      exact k _ p m ((sm.trans s1).trans (same_upd hp)) upd_same (same_upd hp _ _ upd_same) (sm.free (s1.free hp)) (sm.free hm)
theorem sc_shown_before : FnScope ["matrix", "pair", "a", "b", "c", "d", "top", "bottom"] ["matrix", "pair"] (defScope s_shown_before) := ⟨rfl, rfl, rfl, by decide +kernel, rfl, by decide +kernel, by decide +kernel⟩

theorem ok_shown {f : Addr} {fd : FuncData} (F : Fun K "shown_before" "shown_before" s_shown_before f fd) : FnOk P w K mg base CX0 1 f fd ["matrix", "pair"] spShown := by
  refine F.ok sc_shown_before (fun vs H Q E h => ?_) (fun cdv A outer s H vs Q E hr h => ?_)
  · obtain ⟨a, b, m, e, rfl, _⟩ := h
    rfl
  · obtain ⟨a, b, m, e, rfl, ha, hb, ⟨sa, sb, sc, sd⟩, s1, s2, k⟩ := h
    refine ⟨_, (pss_cons (ps_asg (pv 0) (pg_tup rfl (pgs_cons (pg_name (i := 2) sc_shown_before.nd rfl (.inl rfl)) (pgs_cons (pg_name (i := 3) sc_shown_before.nd rfl (.inl rfl)) (pgs_cons (pg_name (i := 4) sc_shown_before.nd rfl (.inl rfl)) (pgs_cons (pg_name (i := 5) sc_shown_before.nd rfl (.inl rfl)) pgs_nil))))))
      (pss_cons (ps_asg (pv 1) (pg_tup rfl (pgs_cons (pg_name (i := 6) sc_shown_before.nd rfl (.inl rfl)) (pgs_cons (pg_name (i := 7) sc_shown_before.nd rfl (.inl rfl)) pgs_nil))))
      (pss_one (ps_ret (pe_tup (pa_cons (pe_op op_add (pe_op op_mulX (pv 2) (pv 6)) (pe_op op_mulX (pv 3) (pv 7))) (pa_cons (pe_op op_add (pe_op op_mulX (pv 4) (pv 6)) (pe_op op_mulX (pv 5) (pv 7))) pa_nil))))))), ?_⟩
    refine ⟨_, rfl, a, _, rfl, SqT.of ha, rfl, _, _, rfl, _, _, rfl, _, _, rfl, _, _, rfl, rfl, ?_⟩
    refine ⟨_, rfl, b, _, rfl, SqT.of hb, rfl, _, _, rfl, _, _, rfl, rfl, ?_⟩
    refine ⟨_, rfl, _, rfl, _, _, rfl, rfl, mx sa s1, _, rfl, _, rfl, _, _, rfl, rfl, mx sb s2, _, _, rfl, rfl, _, rfl, _, rfl, _, _, rfl, rfl, mx sc s1, _, rfl, _, rfl, _, _, rfl, rfl, mx sd s2, _, _, rfl, rfl, (by show 2 ≤ sizeLine; decide), fun p hp => ?_⟩
    exact k _ p (same_upd hp) hp upd_same
theorem sc_piece_text : FnScope ["word", "ohms"] ["word", "ohms"] (defScope s_piece_text) := ⟨rfl, rfl, rfl, by decide +kernel, rfl, by decide +kernel, by decide +kernel⟩

theorem ok_ptx {f : Addr} {fd : FuncData} (F : Fun K "piece_text" "piece_text" s_piece_text f fd) : FnOk P w K mg base CX0 1 f fd ["word", "ohms"] spPtx := by
  refine F.ok sc_piece_text (fun vs H Q E h => ?_) (fun cdv A outer s H vs Q E hr h => ?_)
  · obtain ⟨p, rfl, _⟩ := h
    rfl
  · obtain ⟨p, rfl, hp, k⟩ := h
    refine ⟨_, (pss_one (ps_ret (pe_joined (PJ.cons (pe_fmt (pv 0)) (PJ.cons pe_str (PJ.cons (pe_fmt (pv 1)) PJ.nil)))))), ?_⟩
    have ww : OkT 4 (wd p.1) := by
      unfold wd
      split
      · exact OkT.of "rail"
      · exact OkT.of "rung"
    have oh : Sm 200 p.2 := (ohm_sm hp).mono (by decide)
    have o1 : OkT 4 (Str.empty ++ wd p.1) := by
      rw [Str.empty_append]
      exact ww
    have o2 := o1.app (OkT.of " ")
    have o3 := o2.app (ts_ok oh)
    refine ⟨_, rfl, .inl ⟨_, rfl, ww.fits, _, rfl, o1.fits, _, rfl, o2.fits, _, rfl, .inr ⟨_, rfl, Nat.lt_trans (log_sm (by decide) oh) (by decide), _, rfl, o3.fits, ?_⟩⟩⟩
    show Q (.str (((Str.empty ++ wd p.1) ++ Str.ofString " ") ++ ts p.2)) H
    rw [Str.empty_append]
    exact k
theorem sc_piece_with_text : FnScope ["text", "word", "ohms"] ["text"] (defScope s_piece_with_text) := ⟨rfl, rfl, rfl, by decide +kernel, rfl, by decide +kernel, by decide +kernel⟩

theorem ok_pwt {f : Addr} {fd : FuncData} (F : Fun K "piece_with_text" "piece_with_text" s_piece_with_text f fd) (T : Txt3 K mg tG t1 t2 t3 aO aW J C) (D_piece_text : Df P w K mg base 1 "piece_text" ["word", "ohms"] spPtx) : FnOk P w K mg base CX0 2 f fd ["text"] spPwt := by
  refine F.ok sc_piece_with_text (fun vs H Q E h => ?_) (fun cdv A outer s H vs Q E hr h => ?_)
  · obtain ⟨p, rfl, _⟩ := h
    rfl
  · obtain ⟨p, rfl, hp, k⟩ := h
    refine ⟨_, (pss_cons (ps_for PassesOwn.never rfl (pi_tup (pe_glob (v := .ref aW) rfl T.mgW rfl)) (pg_name (i := 1) sc_piece_with_text.nd rfl (.inl rfl)) (pss_one (ps_for PassesOwn.never rfl (pi_range2 rfl T.range (pa_cons pe_int (pa_cons (pe_op op_add (pe_glob (v := .int 12) rfl T.mgOh ⟨_, rfl⟩) pe_int) pa_nil))) (pg_name (i := 2) sc_piece_with_text.nd rfl (.inl rfl)) (pss_one (ps_if (pt_cmpR op_eq (pv 0) (pe_df D_piece_text (hr.mono (by decide)) (by rfl) (pa_cons (pv 1) (pa_cons (pv 2) pa_nil))) (nomark _)) (pss_one (ps_ret (pe_tup (pa_cons (pv 1) (pa_cons (pv 2) pa_nil))))) pss_nil)))))
      (pss_one (ps_ret pe_non))), ?_⟩
    have hW : SqT K H aW [.str (Str.ofString "rail"), .str (Str.ofString "rung")] := .inr T.wds
    refine ⟨aW, rfl, ⟨_, hW⟩, ?_⟩
    refine for_tup (K := K) (a := aW) (xs := [.str (Str.ofString "rail"), .str (Str.ofString "rung")]) (fun i σ H' => H' = H ∧ (∃ v1 v2, σ = [some (.str (ptx p)), v1, v2]) ∧ (1 ≤ i → p.1 = false) ∧ (2 ≤ i → False)) ⟨rfl, ⟨none, none, rfl⟩, by omega, by omega⟩ (fun i σ H' _ h => by rw [h.1]; exact hW) ?_ ?_
    · rintro i x σ H' hx ⟨rfl, ⟨v1, v2, rfl⟩, i1, i2⟩
      obtain ⟨r, rfl, hr1, hr2⟩ : ∃ r : Bool, x = .str (wd r) ∧ (p.1 ≠ r → (1 ≤ i + 1 → p.1 = false)) ∧ (p.1 ≠ r → (2 ≤ i + 1 → False)) := by
        match i, hx with
        | 0, hx =>
          cases hx
          refine ⟨true, rfl, fun z _ => by simpa using z, fun z y => absurd y (by decide)⟩
        | 1, hx =>
          cases hx
          exact ⟨false, rfl, fun z _ => i1 (by decide), fun z _ => z (i1 (by decide))⟩
      refine ⟨_, _, rfl, rfl, 1, 13, rfl, ⟨by decide, by decide, by decide, by decide⟩, ?_⟩
      refine for_range (lo := 1) (n := Int.toNat (13 - 1)) (fun j σ H'' => H'' = H' ∧ (∃ v2, σ = [some (.str (ptx p)), some (.str (wd r)), v2]) ∧ (p.1 = r → (j : Int) < p.2)) ⟨rfl, ⟨_, rfl⟩, fun _ => by have := hp.1; omega⟩ ?_ ?_
      · rintro j σ H'' hj ⟨rfl, ⟨v2, rfl⟩, hjp⟩
        have hj12 : j < 12 := hj
        have hq : PcOk (r, 1 + (j : Int)) := ⟨by dsimp; omega, by dsimp; omega⟩
        refine ⟨_, rfl, _, rfl, _, rfl, (r, 1 + (j : Int)), rfl, hq, rfl, _, rfl, ite2 (fun e => ?_) (fun e => ?_)⟩
        · have e1 : p = (r, 1 + (j : Int)) := ptx_inj hp hq (V.str.inj (of_decide_eq_true e))
          refine ⟨_, rfl, _, rfl, (by show 2 ≤ sizeLine; decide), fun t ht => ?_⟩
          refine k _ t (same_upd ht) ht ?_
          rw [upd_same, e1]
        · refine ⟨rfl, ⟨_, rfl⟩, fun z => ?_⟩
          have := hjp z
          rcases Int.lt_or_le ((j : Int) + 1) p.2 with y | y
          · omega
          · refine absurd (decide_eq_true ?_) e
            have e2 : p = (r, 1 + (j : Int)) := by
              ext
              · exact z
              · show p.2 = 1 + (j : Int)
                omega
            rw [← e2]
      · rintro σ H'' ⟨rfl, ⟨v2, rfl⟩, hjp⟩
        have ne : p.1 ≠ r := fun z => by
          have h1 : (12 : Int) < p.2 := hjp z
          have := hp.2
          omega
        exact ⟨rfl, ⟨_, _, rfl⟩, hr1 ne, hr2 ne⟩
    · rintro σ H' ⟨rfl, _, _, z⟩
      exact (z (by decide)).elim
end
end RL

set_option maxHeartbeats 1000000
namespace RL
open PySem L2 PySem.Spec PyProof.Rows
def star1 (sp : Sp) : Sp := fun vs H Q E => ∃ ws rest, vs = ws ++ rest ∧ ws.length = 1 ∧ rest.length ≤ sizeLine ∧ ∀ p, H p = Option.none → sp (ws ++ [V.ref p]) (L2.upd H p (.tup rest)) Q E
theorem okStar {P : Program} {w : World} {K : PySem.W.Frag} {mg : Str → Option Value} {base : Heap} {x qual : Str} {st : Stmt} {f : Addr} {fd : FuncData} {N : List Str} {p1 pv : Str} {k : Nat} {sp : Sp} (F : Fun K x qual st f fd) (S : FnScope N ([p1] ++ [pv]) (defScope st))
    (hb : ∀ (kV doc pm cdv ct : Value) (an : Option Addr) (us rest : List Value), us.length = [p1].length → bindArgs (PySem.W.fnOf x qual (defArgs st) (defBody st) (defScope st) .none kV doc pm an cdv ct) ⟨us ++ rest, []⟩ = (newTuple rest >>= fun t => pure ([p1].zip us ++ [(pv, t)])))
    (hbody : ∀ (cdv : Value) (A : Around) (outer : List Env) (s : Shared) (H : Hp) (vs : List V) (Q : VK) (E : XK), Room k (A.deeper (envOfC qual (defScope st) s.heap.objs.size f cdv)) → sp vs H Q E →
      ∃ t, PSs (cxOf CX0 P w K mg base N qual (defScope st) f cdv A outer s H E).nox (defBody st) t ∧ t { nx := fun _ H' => Q .non H', rt := Q } (start N vs) H) : FnR P w K mg base CX0 (k + 1) f (star1 sp) := by
  obtain ⟨oc, od, kV, doc, pm, an, cdv, ct, osl, rfl, lk, hcd⟩ := F.ex
  exact StX.fn_star (ps := [p1]) lk hcd S StX.cxUp_none (hb kV doc pm cdv ct an) fun A outer s H vs Q E hr hsp => by
    obtain ⟨t, h, q⟩ := hbody cdv A outer s H vs Q E hr hsp
    exact ⟨t, h.nox, q⟩
/-! ### a pattern in the heap -/
def FrAt (H : Hp) (a : Addr) (x s : Int) : Prop := H a = some (.tup [.int (low (x, s)).1, .int (low (x, s)).2])
def PF (q m f : Addr) (s : Int) : List (Str × V) := [("row", .ref q), ("matrix", .ref m), ("scale", .int s), ("four", .ref f)]
def PatAt (C : Addr) (H : Hp) (x : Addr) (r : List Pc) : Prop := ∃ (dx q m f : Addr) (ws : List V) (f1 f2 f3 f4 : Addr), H x = some (.ins C dx (PF q m f (sclR r))) ∧ H q = some (.tup ws) ∧ PiecesAt H ws r ∧ H m = some (.tup (MatT (matR r))) ∧
  H f = some (.tup [.ref f1, .ref f2, .ref f3, .ref f4]) ∧ FrAt H f1 (matR r).a (sclR r) ∧ FrAt H f2 (matR r).b (sclR r) ∧ FrAt H f3 (matR r).c (sclR r) ∧ FrAt H f4 (matR r).d (sclR r)
theorem PatAt.same {C : Addr} {H H' : Hp} {x : Addr} {r : List Pc} (h : PatAt C H x r) (s : Same H H') : PatAt C H' x r := by
  obtain ⟨dx, q, m, f, ws, f1, f2, f3, f4, h1, h2, h3, h4, h5, h6, h7, h8, h9⟩ := h
  exact ⟨dx, q, m, f, ws, f1, f2, f3, f4, s _ _ h1, s _ _ h2, h3.same s, s _ _ h4, s _ _ h5, s _ _ h6, s _ _ h7, s _ _ h8, s _ _ h9⟩
theorem PatAt.but {C : Addr} {H H' : Hp} {x c : Addr} {r : List Pc} (h : PatAt C H x r) (hc : CupAt c H) (s : But c H H') : PatAt C H' x r := by
  obtain ⟨dx, q, m, f, ws, f1, f2, f3, f4, h1, h2, h3, h4, h5, h6, h7, h8, h9⟩ := h
  obtain ⟨u, v, hc, _⟩ := hc
  have st : ∀ {a : Addr} {xs : List V}, H a = some (.tup xs) → H' a = some (.tup xs) := fun {a xs} e => s _ _ (ne_of e hc (by intro z; cases z)) e
  exact ⟨dx, q, m, f, ws, f1, f2, f3, f4, s _ _ (ne_of h1 hc (by intro z; cases z)) h1, st h2, h3.but s (fun xs z => by rw [hc] at z; cases z), st h4, st h5, st h6, st h7, st h8, st h9⟩
theorem str_ne {a b : Str} (h : (a == b) = false) : ¬ a = b := fun z => by
  rw [z] at h
  simp at h
theorem nrm : (("row" : Str) == ("matrix" : Str)) = false := by decide +kernel
theorem nrf : (("row" : Str) == ("four" : Str)) = false := by decide +kernel
theorem nmf : (("matrix" : Str) == ("four" : Str)) = false := by decide +kernel
theorem nmr : (("matrix" : Str) == ("row" : Str)) = false := by decide +kernel
theorem nfr : (("four" : Str) == ("row" : Str)) = false := by decide +kernel
theorem nfm : (("four" : Str) == ("matrix" : Str)) = false := by decide +kernel
theorem wrs : (("row" : Str) == ("scale" : Str)) = false := by decide +kernel
theorem wms : (("matrix" : Str) == ("scale" : Str)) = false := by decide +kernel
theorem wsf : (("scale" : Str) == ("four" : Str)) = false := by decide +kernel
theorem wsr : (("scale" : Str) == ("row" : Str)) = false := by decide +kernel
theorem wsm : (("scale" : Str) == ("matrix" : Str)) = false := by decide +kernel
theorem wfs : (("four" : Str) == ("scale" : Str)) = false := by decide +kernel
theorem putScl (a b v : V) : putF "scale" v [("row", a), ("matrix", b)] = ([("row", a), ("matrix", b), ("scale", v)] : List (Str × V)) := by
  unfold putF
  rw [if_neg (str_ne wrs)]
  unfold putF
  rw [if_neg (str_ne wms)]
  rfl
theorem putM (a v : V) : putF "matrix" v [("row", a)] = ([("row", a), ("matrix", v)] : List (Str × V)) := by
  unfold putF
  rw [if_neg (str_ne nrm)]
  rfl
theorem putFour (a b c v : V) : putF "four" v [("row", a), ("matrix", b), ("scale", c)] = ([("row", a), ("matrix", b), ("scale", c), ("four", v)] : List (Str × V)) := by
  unfold putF
  rw [if_neg (str_ne nrf)]
  unfold putF
  rw [if_neg (str_ne nmf)]
  unfold putF
  rw [if_neg (str_ne wsf)]
  rfl
theorem lkM2 (a b c : V) : ([("row", a), ("matrix", b), ("scale", c)] : List (Str × V)).lookup ("matrix" : Str) = some b := by
  simp [List.lookup, nmr]
theorem lkS2 (a b c : V) : ([("row", a), ("matrix", b), ("scale", c)] : List (Str × V)).lookup ("scale" : Str) = some c := by
  simp [List.lookup, wsr, wsm]
theorem lkR (q m f : Addr) {s : Int} : (PF q m f s).lookup ("row" : Str) = some (.ref q) := by
  simp [PF, List.lookup]
theorem lkM (q m f : Addr) {s : Int} : (PF q m f s).lookup ("matrix" : Str) = some (.ref m) := by
  simp [PF, List.lookup, nmr]
theorem lkF (q m f : Addr) {s : Int} : (PF q m f s).lookup ("four" : Str) = some (.ref f) := by
  simp [PF, List.lookup, nfr, nfm, wfs]
def spPI (C J : Addr) : Sp := fun vs H Q _ => ∃ (x dx p : Addr) (r : List Pc), vs = [.ref x, .ref p] ∧ H x = some (.ins C dx []) ∧ RowOk r ∧ 1 ≤ r.length ∧ r.length ≤ 8 ∧
  ((∃ j dj q ws, H p = some (.tup [.ref j]) ∧ H j = some (.ins J dj [("row", .ref q)]) ∧ H q = some (.tup ws) ∧ PiecesAt H ws r) ∨ (∃ ws, H p = some (.tup ws) ∧ PiecesAt H ws r ∧ r.length ≤ 4)) ∧
  ∀ H', But x H H' → PatAt C H' x r → Q .non H'
def LoadAt (H : Hp) (v : V) (e : Int × Int) : Prop := (∃ i, v = .int i ∧ 0 ≤ i ∧ i ≤ 1000000000000 ∧ e = (i, 1)) ∨ (∃ p, v = .ref p ∧ H p = some (.tup [.int e.1, .int e.2]) ∧ ResP e.1 e.2)
theorem LoadAt.pos {H : Hp} {v : V} {e : Int × Int} (h : LoadAt H v e) : Pos2 e := by
  rcases h with ⟨i, _, h1, h2, rfl⟩ | ⟨p, _, _, h⟩
  · exact ⟨h1, by show (0 : Int) ≤ 1; decide, .inr (by show (0 : Int) < 1; decide)⟩
  · rcases h with ⟨h1, _, h2, _⟩ | ⟨h1, h2⟩
    · exact ⟨h1, by omega, .inr (by omega)⟩
    · exact ⟨by omega, by omega, .inl (by omega)⟩
theorem sm_lt {n : Nat} {x : Int} (h0 : 0 ≤ x) (h : x < 2 ^ n) : Sm n x := by
  unfold Sm
  have e : ((2 ^ n : Nat) : Int) = 2 ^ n := by rw [Int.natCast_pow]; rfl
  omega
theorem LoadAt.sm {H : Hp} {v : V} {e : Int × Int} (h : LoadAt H v e) : Sm 41 e.1 ∧ Sm 41 e.2 := by
  have k : ∀ z : Int, 0 ≤ z → z ≤ 1000000000000 → Sm 41 z := fun z h1 h2 => sm_lt h1 (by
    have e : (2 : Int) ^ 41 = 2199023255552 := by decide
    rw [e]
    omega)
  rcases h with ⟨i, _, h1, h2, rfl⟩ | ⟨p, _, _, h⟩
  · exact ⟨k _ h1 h2, k 1 (by decide) (by decide)⟩
  · rcases h with ⟨h1, h2, h3, h4⟩ | ⟨h1, h2⟩
    · exact ⟨k _ h1 h2, k _ (by omega) h4⟩
    · exact ⟨k _ (by omega) (by omega), k _ (by omega) (by omega)⟩
def spCall (C : Addr) : Sp := fun vs H Q _ => ∃ (x : Addr) (v : V) (r : List Pc) (e : Int × Int), vs = [.ref x, v] ∧ PatAt C H x r ∧ RowOk r ∧ r.length ≤ 8 ∧ LoadAt H v e ∧
  ∀ H' p, Same H H' → H p = none → H' p = some (.tup [.int (low ((matR r).app e)).1, .int (low ((matR r).app e)).2]) → Q (.ref p) H'
def spNum (C : Addr) : Sp := fun vs H Q _ => ∃ (x dx q m f : Addr) (s : Int), vs = [.ref x] ∧ H x = some (.ins C dx (PF q m f s)) ∧ Q (.ref f) H
def spAdd (C : Addr) : Sp := fun vs H Q _ => ∃ (x y : Addr) (r r' : List Pc), vs = [.ref x, .ref y] ∧ PatAt C H x r ∧ PatAt C H y r' ∧ RowOk r ∧ RowOk r' ∧ 1 ≤ r.length ∧ 1 ≤ r'.length ∧ r.length + r'.length ≤ 8 ∧
  ∀ H' z, Same H H' → H z = none → PatAt C H' z (r ++ r') → Q (.ref z) H'
def spTurn (C : Addr) : Sp := fun vs H Q _ => ∃ (x : Addr) (r : List Pc), vs = [.ref x] ∧ PatAt C H x r ∧ RowOk r ∧ 1 ≤ r.length ∧ r.length ≤ 8 ∧ ∀ H' z, Same H H' → H z = none → PatAt C H' z r.reverse → Q (.ref z) H'
def rowTx (r : List Pc) : Str := Txt.join (Str.ofString ", ") (r.map ptx)
def spRead (C : Addr) : Sp := fun vs H Q _ => ∃ r : List Pc, vs = [.str (rowTx r)] ∧ RowOk r ∧ 1 ≤ r.length ∧ r.length ≤ 8 ∧ ∀ H' z, Same H H' → H z = none → PatAt C H' z r → Q (.ref z) H'
structure PatD (P : Program) (w : World) (K : PySem.W.Frag) (mg : Str → Option Value) (base : Heap) (C J f : Addr) : Prop where
  m : Mk K C f
  fn : FnR P w K mg base CX0 5 f (star1 (spPI C J))
structure JoinD (P : Program) (w : World) (K : PySem.W.Frag) (mg : Str → Option Value) (base : Heap) (J f : Addr) (fd : FuncData) : Prop where
  m : Mk K J f
  fn : FnOk P w K mg base CX0 1 f fd ["self", "row"] (spJ J)
  bd : Binds K fd ["self", "row"] []
theorem make_pat {C J : Addr} {H : Hp} {q : Addr} {ws : List V} {r : List Pc} {Q : V → Hp → Prop} (hq : H q = some (.tup ws)) (hw : PiecesAt H ws r) (hok : RowOk r) (l1 : 1 ≤ r.length) (l8 : r.length ≤ 8) (k : ∀ H' z, Same H H' → H z = none → PatAt C H' z r → Q (.ref z) H') :
    ∀ j dj, H j = none → H dj = none → dj ≠ j → spJ J [.ref j, .ref q] (upd (upd H dj (.own j)) j (.ins J dj [])) (fun v H2 => v = .non ∧ ∀ z dz, H2 z = none → H2 dz = none → dz ≠ z →
      star1 (spPI C J) [.ref z, .ref j] (upd (upd H2 dz (.own z)) z (.ins C dz [])) (fun v H3 => v = .non ∧ Q (.ref z) H3) E0) E0 := by
  intro j dj nj ndj nej
  refine ⟨j, dj, .ref q, rfl, upd_same, rfl, fun z dz nz ndz nez => ⟨[.ref z], [.ref j], rfl, rfl, (by show 1 ≤ sizeLine; decide), fun p np => ?_⟩⟩
  -- the heap ahead of the pattern's own
  have s1 : Same H (upd (upd (upd H dj (.own j)) j (.ins J dj [])) j (.ins J dj [("row", .ref q)])) := fun b o e => by
    rw [upd_ne (ne_of_none e nj), upd_ne (ne_of_none e nj), upd_ne (ne_of_none e ndj)]
    exact e
  have hj : (upd (upd (upd H dj (.own j)) j (.ins J dj [])) j (.ins J dj [("row", .ref q)])) j = some (.ins J dj [("row", .ref q)]) := upd_same
  generalize upd (upd (upd H dj (.own j)) j (.ins J dj [])) j (.ins J dj [("row", .ref q)]) = H2 at *
  have s2 : Same H2 (upd (upd H2 dz (.own z)) z (.ins C dz [])) := fun b o e => by
    rw [upd_ne (ne_of_none e nz), upd_ne (ne_of_none e ndz)]
    exact e
  have s3 := s2.trans (same_upd (o := .tup [.ref j]) np)
  have hz : (upd (upd (upd H2 dz (.own z)) z (.ins C dz [])) p (.tup [.ref j])) z = some (.ins C dz []) := by
    rw [upd_ne (ne_of_none (upd_same (H := upd H2 dz (.own z)) (a := z) (o := .ins C dz [])) np), upd_same]
  have s13 := s1.trans s3
  refine ⟨z, dz, p, r, rfl, hz, hok, l1, l8, .inl ⟨j, dj, q, ws, upd_same, s3 _ _ hj, s13 _ _ hq, hw.same s13⟩, fun H' b hP => ⟨rfl, k H' z ?_ (s1.free nz) hP⟩⟩
  intro b' o e
  exact b _ _ (ne_of_none (s1 _ _ e) nz) (s13 _ _ e)
section
variable {P : Program} {w : World} {K : PySem.W.Frag} {mg : Str → Option Value} {base : Heap} {tG t1 t2 t3 : Tok} {aO aW J C fP fJ : Addr} {fdJ : FuncData}
def FrsAt (H : Hp) (vs : List V) (es : List Int) (s : Int) : Prop := vs.length = es.length ∧ ∀ (i : Nat) (e : Int), es[i]? = some e → ∃ t, vs[i]? = some (.ref t) ∧ FrAt H t e s
theorem sc_Pattern_init : FnScope ["self", "pieces", "entry"] ["self", "pieces"] (defScope s_Pattern_init) := ⟨rfl, rfl, rfl, by decide +kernel, rfl, by decide +kernel, by decide +kernel⟩

theorem ok_pinit {f : Addr} {fd : FuncData} (F : Fun K "__init__" "Pattern.__init__" s_Pattern_init f fd) (T : Txt3 K mg tG t1 t2 t3 aO aW J C) (D_checked_row : Df P w K mg base 4 "checked_row" ["pieces"] (spChk J)) (D_matrix_and_scale : Df P w K mg base 1 "matrix_and_scale" ["row"] spMat) (D_lowest_terms : Df P w K mg base 2 "lowest_terms" ["top", "bottom"] spLow) :
    FnR P w K mg base CX0 5 f (star1 (spPI C J)) := by
  refine okStar (p1 := "self") (pv := "pieces") F sc_Pattern_init (fun _ _ _ _ _ _ => StX.bind_star1 (B := fun us => bindArgs _ ⟨us, []⟩) (fun _ => rfl) (fun _ _ _ => rfl)) (fun cdv A outer s H vs Q E hr h => ?_)
  obtain ⟨x, dx, p, r, rfl, hx, hok, l1, l8, hp, k⟩ := h
  refine ⟨_, (C8.pss_cut (ps_fld (pv 0) (pe_df D_checked_row (hr.mono (by decide)) (by rfl) (pa_cons (pv 1) pa_nil)) rfl)
      (pss_cons (ps_asg (pe_df D_matrix_and_scale (hr.mono (by decide)) (by rfl) (pa_cons (pe_fld (pv 0) rfl) pa_nil)) (pg_tup rfl (pgs_cons (pg_fld (pv 0)) (pgs_cons (pg_fld (pv 0)) pgs_nil))))
      (pss_one (ps_fld (pv 0) (pe_callTy call_tuple_of (by rfl) T.tuple_ (by decide +kernel) (pa_cons (pe_lc (own := [("entry", 2)]) (g := gName 2) (tt := tYes) rfl sc_Pattern_init.nd (pi_tup (pe_fld (pv 0) rfl)) (blkOk_by (N := ["self", "pieces", "entry"]) (sc := defScope s_Pattern_init) (by decide +kernel)) (fun _ _ _ _ _ => pg_name (i := 2) sc_Pattern_init.nd rfl (Or.inl rfl)) (fun _ _ _ _ _ => pts_nil) (fun _ _ _ _ _ => (pe_df D_lowest_terms (hr.mono (by decide)) (by rfl) (pa_cons (pv 2) (pa_cons (pe_fldK (K := K) (pv 0)) pa_nil))))) pa_nil)) rfl)))), ?_⟩
  -- self.row = ..
  have notT : ∀ {H' : Hp} {fs : List (Str × V)}, H' x = some (.ins C dx fs) → ∀ xs, H' x ≠ some (.tup xs) := fun e xs z => by rw [e] at z; cases z
  refine ⟨fun σ' H' => σ' = [some (.ref x), some (.ref p), none] ∧ ∃ (q : Addr) (ws : List V), But x H H' ∧ H' x = some (.ins C dx [("row", .ref q)]) ∧ H' q = some (.tup ws) ∧ PiecesAt H' ws r, ?_, ?_⟩
  · have set1 : ∀ (H1 : Hp) (q : Addr) (ws : List V), Same H H1 → H1 q = some (.tup ws) → PiecesAt H1 ws r → ∃ (q' : Addr) (ws' : List V), But x H (upd H1 x (.ins C dx [("row", .ref q)])) ∧ (upd H1 x (.ins C dx [("row", .ref q)])) x = some (.ins C dx [("row", .ref q')]) ∧ (upd H1 x (.ins C dx [("row", .ref q)])) q' = some (.tup ws') ∧ PiecesAt (upd H1 x (.ins C dx [("row", .ref q)])) ws' r := fun H1 q ws s1 hq hw => by
      have hx1 := s1 _ _ hx
      have b1 : But x H1 (upd H1 x (.ins C dx [("row", .ref q)])) := But.upd
      exact ⟨q, ws, (But.of s1).trans b1, upd_same, b1 _ _ (ne_of hq hx1 (by intro z; cases z)) hq, hw.but b1 (notT hx1)⟩
    rcases hp with ⟨j, dj, q, ws, h1, h2, h3, h4⟩ | ⟨ws, h1, h2, h3⟩
    · exact ⟨_, rfl, p, rfl, .inl ⟨j, dj, q, h1, h2, _, rfl, x, C, dx, _, rfl, hx, T.cl, T.nRow, (by show 0 < 1000; decide), rfl, set1 H q ws (Same.refl _) h3 h4⟩⟩
    · exact ⟨_, rfl, p, rfl, .inr ⟨ws, r, h1, h2, hok, l1, h3, fun H1 s1 => ⟨_, rfl, x, C, dx, _, rfl, s1 _ _ hx, T.cl, T.nRow, (by show 0 < 1000; decide), rfl, set1 H1 p ws s1 (s1 _ _ h1) (h2.same s1)⟩⟩⟩
  rintro σ' H2 ⟨rfl, q, ws, bb1, hx2, hq2, hw2⟩
  -- self.matrix, scale = ..
  refine ⟨_, rfl, x, C, dx, _, _, rfl, hx2, T.cl, T.nRow, rfl, q, ws, r, rfl, hq2, hw2, hok, l8, fun H3 pm m s3 hpm hm npm nm => ?_⟩
  have hx3 := s3 _ _ hx2
  refine ⟨pm, _, rfl, SqT.of hpm, rfl, _, _, rfl, _, rfl, x, C, dx, _, rfl, hx3, T.cl, T.nMat, (by show 1 < 1000; decide), ?_⟩
  rw [putM]
  have b4 : But x H3 (upd H3 x (.ins C dx [("row", .ref q), ("matrix", .ref m)])) := But.upd
  have hx4 : (upd H3 x (.ins C dx [("row", .ref q), ("matrix", .ref m)])) x = some (.ins C dx [("row", .ref q), ("matrix", .ref m)]) := upd_same
  have tp4 : ∀ {a : Addr} {xs : List V}, H3 a = some (.tup xs) → (upd H3 x (.ins C dx [("row", .ref q), ("matrix", .ref m)])) a = some (.tup xs) := fun {a xs} e => b4 _ _ (ne_of e hx3 (by intro z; cases z)) e
  have hm4 := tp4 hm
  have hq4 := tp4 (s3 _ _ hq2)
  have hw4 := (hw2.same s3).but b4 (notT hx3)
  have bb4 := (bb1.trans (But.of s3)).trans b4
  clear tp4
  generalize upd H3 x (.ins C dx [("row", .ref q), ("matrix", .ref m)]) = H4' at *
  refine ⟨_, _, rfl, _, rfl, x, C, dx, _, rfl, hx4, T.cl, T.nScl, (by show 2 < 1000; decide), rfl, ?_⟩
  rw [putScl]
  have b4' : But x H4' (upd H4' x (.ins C dx [("row", .ref q), ("matrix", .ref m), ("scale", .int (sclR r))])) := But.upd
  have hm4 := b4' _ _ (ne_of hm4 hx4 (by intro z; cases z)) hm4
  have hq4 := b4' _ _ (ne_of hq4 hx4 (by intro z; cases z)) hq4
  have hw4 := hw4.but b4' (notT hx4)
  have bb4 := bb4.trans b4'
  have hx4 : (upd H4' x (.ins C dx [("row", .ref q), ("matrix", .ref m), ("scale", .int (sclR r))])) x = some (.ins C dx [("row", .ref q), ("matrix", .ref m), ("scale", .int (sclR r))]) := upd_same
  clear b4 b4'
  generalize upd H4' x (.ins C dx [("row", .ref q), ("matrix", .ref m), ("scale", .int (sclR r))]) = H4 at *
  -- self.four = ..
  have sp := sclR_pos hok
  have ss := sclR_sm hok l8
  obtain ⟨ma, mb, mc, md, _⟩ := matR_ok hok
  obtain ⟨sa, sb, sc, sd⟩ := matR_sm hok l8
  refine ⟨_, rfl, x, C, dx, _, _, rfl, hx4, T.cl, T.nMat, lkM2 _ _ _, m, rfl, ⟨_, SqT.of hm4⟩, fun D hD => ?_⟩
  refine lc_tup (K := K) (a := m) (xs := MatT (matR r)) (fun i H' => But D H4 H' ∧ ∃ vs, H' D = some (.lst vs) ∧ FrsAt H' vs ([(matR r).a, (matR r).b, (matR r).c, (matR r).d].take i) (sclR r)) ⟨But.upd, [], upd_same, rfl, fun i e z => by simp at z⟩ (fun i H' _ h => SqT.of (h.1 _ _ (ne_of_none hm4 hD) hm4)) ?_ ?_
  · rintro i y H' hi ⟨bD, vs, hDi, hF⟩
    refine ⟨rfl, ?_⟩
    unfold tYes
    refine iteT ?_
    obtain ⟨z, rfl, z0, zs, ez, hi4⟩ : ∃ z : Int, y = .int z ∧ 0 ≤ z ∧ Sm 41 z ∧ [(matR r).a, (matR r).b, (matR r).c, (matR r).d].take (i + 1) = [(matR r).a, (matR r).b, (matR r).c, (matR r).d].take i ++ [z] ∧ i < 4 := by
      match i, hi with
      | 0, hi => cases hi; exact ⟨_, rfl, ma, sa, rfl, by decide⟩
      | 1, hi => cases hi; exact ⟨_, rfl, mb, sb, rfl, by decide⟩
      | 2, hi => cases hi; exact ⟨_, rfl, mc, sc, rfl, by decide⟩
      | 3, hi => cases hi; exact ⟨_, rfl, md, sd, rfl, by decide⟩
    have lv : vs.length = i := by
      rw [hF.1, List.length_take]
      show min i 4 = i
      omega
    refine ⟨_, rfl, _, rfl, x, C, dx, _, _, rfl, bD _ _ (ne_of_none hx4 hD) hx4, T.cl, T.nScl, lkS2 _ _ _, z, sclR r, rfl, ⟨z0, Int.le_of_lt sp, .inr sp⟩, zs.mono (by decide), ss.mono (by decide), fun H5 t s5 nt ht => ?_⟩
    have hD5 := s5 _ _ hDi
    refine ⟨vs, hD5, small1000 (by omega), ?_, vs ++ [.ref t], upd_same, ?_⟩
    · intro b o nb e
      rw [upd_ne nb]
      exact s5 _ _ (bD _ _ nb e)
    · rw [ez]
      refine ⟨by rw [List.length_append, List.length_append, hF.1]; rfl, fun j e hj => ?_⟩
      have up : ∀ {a : Addr} {xs : List V}, H5 a = some (.tup xs) → (upd H5 D (.lst (vs ++ [.ref t]))) a = some (.tup xs) := fun {a xs} e => by
        rw [upd_ne (ne_of e hD5 (by intro z; cases z))]
        exact e
      by_cases hji : j < ([(matR r).a, (matR r).b, (matR r).c, (matR r).d].take i).length
      · rw [List.getElem?_append_left hji] at hj
        obtain ⟨u, hu, hf⟩ := hF.2 j e hj
        refine ⟨u, ?_, up (s5 _ _ hf)⟩
        rw [List.getElem?_append_left (by rw [hF.1]; exact hji)]
        exact hu
      · rw [List.getElem?_append_right (by omega)] at hj
        have j0 : j - ([(matR r).a, (matR r).b, (matR r).c, (matR r).d].take i).length = 0 := by
          have := (List.getElem?_eq_some_iff.mp hj).1
          simp at this
          rw [List.length_take] at hji ⊢
          have e4 : ([(matR r).a, (matR r).b, (matR r).c, (matR r).d] : List Int).length = 4 := rfl
          omega
        rw [j0] at hj
        cases hj
        refine ⟨t, ?_, up ht⟩
        rw [List.getElem?_append_right (by rw [hF.1]; omega), hF.1, j0]
        rfl
  · rintro H' ⟨bD, vs, hDn, hF⟩
    have sD : Same H4 H' := fun b o e => bD _ _ (ne_of_none e hD) e
    refine ⟨D, _, rfl, .inl ⟨SqL.of hDn, fun l hl => ?_⟩⟩
    have s6 := sD.trans (same_upd (o := .tup vs) hl)
    have hx6 := s6 _ _ hx4
    refine ⟨_, rfl, x, C, dx, _, rfl, hx6, T.cl, T.nFour, (by show 3 < 1000; decide), ?_⟩
    rw [putFour]
    have b7 : But x (upd H' l (.tup vs)) (upd (upd H' l (.tup vs)) x (.ins C dx (PF q m l (sclR r)))) := But.upd
    have tp : ∀ {a : Addr} {xs : List V}, (upd H' l (.tup vs)) a = some (.tup xs) → (upd (upd H' l (.tup vs)) x (.ins C dx (PF q m l (sclR r)))) a = some (.tup xs) := fun {a xs} e => b7 _ _ (ne_of e hx6 (by intro z; cases z)) e
    have hF' : FrsAt H' vs [(matR r).a, (matR r).b, (matR r).c, (matR r).d] (sclR r) := hF
    obtain ⟨g1, e1, a1⟩ := hF'.2 0 _ rfl
    obtain ⟨g2, e2, a2⟩ := hF'.2 1 _ rfl
    obtain ⟨g3, e3, a3⟩ := hF'.2 2 _ rfl
    obtain ⟨g4, e4, a4⟩ := hF'.2 3 _ rfl
    have ev : vs = [.ref g1, .ref g2, .ref g3, .ref g4] := by
      match vs, hF'.1, e1, e2, e3, e4 with
      | [_, _, _, _], _, e1, e2, e3, e4 =>
        cases e1
        cases e2
        cases e3
        cases e4
        rfl
    subst ev
    have sl := same_upd (o := .tup [.ref g1, .ref g2, .ref g3, .ref g4]) hl
    exact k _ ((bb4.trans (But.of s6)).trans b7) ⟨dx, q, m, l, ws, g1, g2, g3, g4, upd_same, tp (s6 _ _ hq4), (hw4.same s6).but b7 (notT hx6), tp (s6 _ _ hm4), tp upd_same, tp (sl _ _ a1), tp (sl _ _ a2), tp (sl _ _ a3), tp (sl _ _ a4)⟩
end
end RL

set_option maxHeartbeats 1000000
namespace RL
open PySem L2 PySem.Spec PyProof.Rows
theorem PiecesAt.rev {H : Hp} {vs : List V} {r : List Pc} (h : PiecesAt H vs r) : PiecesAt H vs.reverse r.reverse := by
  refine ⟨by rw [List.length_reverse, List.length_reverse, h.1], fun i p hp => ?_⟩
  have hi : i < r.length := by
    have := (List.getElem?_eq_some_iff.mp hp).1
    rw [List.length_reverse] at this
    exact this
  rw [List.getElem?_reverse hi] at hp
  obtain ⟨v, hv, q⟩ := h.2 _ p hp
  refine ⟨v, ?_, q⟩
  rw [List.getElem?_reverse (by rw [h.1]; exact hi), h.1]
  exact hv
theorem PiecesAt.app {H : Hp} {vs vs' : List V} {r r' : List Pc} (h : PiecesAt H vs r) (h' : PiecesAt H vs' r') : PiecesAt H (vs ++ vs') (r ++ r') := by
  refine ⟨by rw [List.length_append, List.length_append, h.1, h'.1], fun i p hp => ?_⟩
  by_cases hi : i < r.length
  · rw [List.getElem?_append_left hi] at hp
    obtain ⟨v, hv, q⟩ := h.2 _ p hp
    exact ⟨v, by rw [List.getElem?_append_left (by rw [h.1]; exact hi)]; exact hv, q⟩
  · rw [List.getElem?_append_right (by omega)] at hp
    obtain ⟨v, hv, q⟩ := h'.2 _ p hp
    exact ⟨v, by rw [List.getElem?_append_right (by rw [h.1]; omega), h.1]; exact hv, q⟩
theorem RowOk.rev {r : List Pc} (h : RowOk r) : RowOk r.reverse := fun p hp => h p (List.mem_reverse.mp hp)
theorem parts_split {r : List Pc} (hok : RowOk r) (l1 : 1 ≤ r.length) : Txt.split (rowTx r) (Str.ofString ", ") = r.map ptx := by
  refine TL.split_join (s := 44) (S := [32]) (by decide +kernel) (by decide +kernel) (fun z => ?_) (fun p hp => ?_)
  · have := congrArg List.length z
    rw [List.length_map] at this
    have e0 : ([] : List Str).length = 0 := rfl
    omega
  · obtain ⟨q, hq, rfl⟩ := List.mem_map.mp hp
    exact ptx_free (hok q hq)
theorem join_len (y : Str) : ∀ l : List Str, (Str.join y l).length ≤ (l.map (·.length)).sum + l.length * y.length
  | [] => by
    show (Str.join y []).length ≤ _
    exact Nat.zero_le _
  | [x] => by
    show x.length ≤ _
    simp
  | x :: z :: l => by
    have ih := join_len y (z :: l)
    show (x ++ y ++ Str.join y (z :: l)).length ≤ _
    rw [Str.length_append, Str.length_append]
    simp only [List.map_cons, List.sum_cons, List.length_cons] at ih ⊢
    have : (l.length + 1 + 1) * y.length = (l.length + 1) * y.length + y.length := Nat.succ_mul _ _
    omega
theorem sum_len {r : List Pc} (hok : RowOk r) : ((r.map ptx).map (·.length)).sum ≤ 7 * r.length := by
  induction r with
  | nil => exact Nat.le_refl _
  | cons p r ih =>
    have h1 := ih hok.tail
    have h2 := ptx_len hok.head
    simp only [List.map_cons, List.sum_cons, List.length_cons]
    omega
theorem rowTx_len {r : List Pc} (hok : RowOk r) (l8 : r.length ≤ 8) : (rowTx r).length ≤ 100 := by
  unfold rowTx
  rw [TL.join_eq]
  have h1 := join_len (Str.ofString ", ") (r.map ptx)
  have h2 := sum_len hok
  rw [List.length_map] at h1
  have h3 : (Str.ofString ", ").length = 2 := by decide +kernel
  rw [h3] at h1
  omega
theorem eqv_none_tup (xs : List PyData) : PyData.eqv (.tuple xs) .none = false := by simp [PyData.eqv]
/-! ### what the class has, as its users see it -/
structure OwC (P : Program) (w : World) (K : PySem.W.Frag) (mg : Str → Option Value) (base : Heap) (C g : Addr) (fd : FuncData) : Prop where
  co : StX.CallO K C g
  ok : FnOk P w K mg base CX0 4 g fd ["self", "load"] (spCall C)
  fr : FnR P w K mg base CX0 4 g (spCall C)
  kb : ∀ (s : Shared) (u v : Value), K.In s.heap → BindsTo s fd ⟨[u], [("load", v)]⟩ [("self", u), ("load", v)]
structure OwA (P : Program) (w : World) (K : PySem.W.Frag) (mg : Str → Option Value) (base : Heap) (C g : Addr) (fd : FuncData) : Prop where
  sf : PySem.W.selfFirst K C = true
  at_ : PySem.W.findIn K (.ref C) (PySem.dunder Operator.Add.info.2) = some (some (.ref g))
  fn : PySem.W.isFn K (.ref g) = true
  ok : FnOk P w K mg base CX0 7 g fd ["self", "other"] (spAdd C)
  b : Binds K fd ["self", "other"] []
structure OwR (P : Program) (w : World) (K : PySem.W.Frag) (mg : Str → Option Value) (base : Heap) (C p g : Addr) (fd : FuncData) : Prop where
  rd : ClX.CRead K C (.type "type")
  sm : SMet K C (.type "type") "read" p g
  ok : FnOk P w K mg base CX0 7 g fd ["text"] (spRead C)
  b : Binds K fd ["text"] []
structure OwT (P : Program) (w : World) (K : PySem.W.Frag) (mg : Str → Option Value) (base : Heap) (C g : Addr) (fd : FuncData) : Prop where
  m : Meth K C "turned" g
  ok : FnOk P w K mg base CX0 7 g fd ["self"] (spTurn C)
  b : Binds K fd ["self"] []
structure OwN (P : Program) (w : World) (K : PySem.W.Frag) (mg : Str → Option Value) (base : Heap) (C p g : Addr) (fd : FuncData) : Prop where
  pr : PropOf K C "numbers" p g
  ok : FnOk P w K mg base CX0 1 g fd ["self"] (spNum C)
  b : Binds K fd ["self"] []
section
variable {P : Program} {w : World} {K : PySem.W.Frag} {mg : Str → Option Value} {base : Heap} {tG t1 t2 t3 : Tok} {aO aW J C fP fJ : Addr} {fdJ : FuncData}
theorem dp_row {H : Hp} {vs : List V} {r : List Pc} (h : PiecesAt H vs r) {q : Addr} (hq : H q = some (.tup vs)) : Dp K H (.ref q) (.tuple (r.map fun p => .tuple [.str (wd p.1), .int p.2])) := by
  refine .tup (SqT.of hq) ?_
  clear hq
  induction r generalizing vs with
  | nil =>
    match vs, h.1 with
    | [], _ => exact .nil
  | cons p r ih =>
    match vs, h.1, h.2 with
    | v :: vs, hl, h2 =>
      obtain ⟨v', hv, t, rfl, ht⟩ := h2 0 p rfl
      cases hv
      exact .cons (.tup (SqT.of ht) (.cons (.str _) (.cons (.int _) .nil))) (ih ⟨by simpa using hl, fun i p hp => h2 (i + 1) p hp⟩)
theorem wd_ok (r : Bool) : PyData.strOk (wd r) = true := by cases r <;> decide +kernel
theorem row_lay : ∀ r : List Pc, PyData.canLayAll0 (r.map fun p => .tuple [.str (wd p.1), .int p.2]) = true
  | [] => rfl
  | p :: r => by simp [PyData.canLayAll0, PyData.canLay0, row_lay r, wd_ok]
theorem row_depth : ∀ r : List Pc, PyData.depthAll (r.map fun p => .tuple [.str (wd p.1), .int p.2]) ≤ 1
  | [] => by simp [PyData.depthAll]
  | p :: r => by
    have h := row_depth r
    simp [PyData.depthAll, PyData.depth]
    omega
theorem sh_row (r : List Pc) : SeqAt.shaped (.tuple (r.map fun p => .tuple [.str (wd p.1), .int p.2])) = true := by
  have h1 := row_lay r
  have h2 := row_depth r
  unfold SeqAt.shaped
  simp [PyData.canLay0, PyData.depth, h1]
  omega
theorem units65 {k : Nat} {A : Around} (r : Room k A) : A.units + 65 < cLine := by
  have := r.un
  omega
theorem sc_Pattern_call : FnScope ["self", "load"] ["self", "load"] (defScope s_Pattern_call) := ⟨rfl, rfl, rfl, by decide +kernel, rfl, by decide +kernel, by decide +kernel⟩

theorem ok_call {f : Addr} {fd : FuncData} (F : Fun K "__call__" "Pattern.__call__" s_Pattern_call f fd) (T : Txt3 K mg tG t1 t2 t3 aO aW J C) (D_is_resistance : Df P w K mg base 3 "is_resistance" ["value"] spIsRes) (D_pair_of : Df P w K mg base 2 "pair_of" ["fraction_or_open"] spPairOf) (D_shown_before : Df P w K mg base 1 "shown_before" ["matrix", "pair"] spShown) (D_lowest_pair : Df P w K mg base 3 "lowest_pair" ["fraction_or_open"] spLowP) :
    FnOk P w K mg base CX0 4 f fd ["self", "load"] (spCall C) := by
  refine F.ok sc_Pattern_call (fun vs H Q E h => ?_) (fun cdv A outer s H vs Q E hr h => ?_)
  · obtain ⟨x, v, r, e, rfl, _⟩ := h
    rfl
  · obtain ⟨x, v, r, e, rfl, hP, hok, l8, hL, k⟩ := h
    refine ⟨_, (pss_cons (ps_if (pt_not (pt_val (pe_df D_is_resistance (hr.mono (by decide)) (by rfl) (pa_cons (pv 1) pa_nil)))) (pss_one ps_never) pss_nil)
      (pss_one (ps_ret (pe_df D_lowest_pair (hr.mono (by decide)) (by rfl) (pa_cons (pe_df D_shown_before (hr.mono (by decide)) (by rfl) (pa_cons (pe_fld (pv 0) rfl) (pa_cons (pe_df D_pair_of (hr.mono (by decide)) (by rfl) (pa_cons (pv 1) pa_nil)) pa_nil))) pa_nil))))), ?_⟩
    have ep := hL.pos
    obtain ⟨es1, es2⟩ := hL.sm
    obtain ⟨dx, q, m, f', ws, f1, f2, f3, f4, hx, hq, hw, hm, _⟩ := hP
    have ms := matR_sm hok l8
    have ap := app_pos hok ep
    obtain ⟨as1, as2⟩ := app_sm (j := 41) (k := 41) ms es1 es2
    rcases hL with ⟨i, rfl, i0, i1, rfl⟩ | ⟨p, rfl, hp, hR⟩
    · refine ⟨_, rfl, .inl ⟨i, rfl, i0, i1, true, rfl, iteF ?_⟩⟩
      refine ⟨_, rfl, x, C, dx, _, _, rfl, hx, T.cl, T.nMat, lkM _ _ _, _, rfl, .inl ⟨i, rfl, fun H1 t s1 nt ht => ?_⟩⟩
      refine ⟨m, t, matR r, (i, 1), rfl, s1 _ _ hm, ht, ms.mono (by decide), es1.mono (by decide), es2.mono (by decide), fun H2 p' s2 np hp' => ?_⟩
      exact ⟨_, _, rfl, .inr ⟨p', rfl, hp'⟩, ap, as1.mono (by decide), as2.mono (by decide), fun H3 p3 s3 np3 hp3 => k _ p3 ((s1.trans s2).trans s3) ((s1.trans s2).free np3) hp3⟩
    · refine ⟨_, rfl, .inr ⟨p, _, _, rfl, hp, hR, true, rfl, iteF ?_⟩⟩
      refine ⟨_, rfl, x, C, dx, _, _, rfl, hx, T.cl, T.nMat, lkM _ _ _, _, rfl, .inr ⟨p, _, rfl, hp, ?_⟩⟩
      refine ⟨m, p, matR r, e, rfl, (Same.refl H) _ _ hm, hp, ms.mono (by decide), es1.mono (by decide), es2.mono (by decide), fun H2 p' s2 np hp' => ?_⟩
      exact ⟨_, _, rfl, .inr ⟨p', rfl, hp'⟩, ap, as1.mono (by decide), as2.mono (by decide), fun H3 p3 s3 np3 hp3 => k _ p3 (s2.trans s3) (s2.free np3) hp3⟩
theorem sc_Pattern_numbers : FnScope ["self"] ["self"] (defScope s_Pattern_numbers) := ⟨rfl, rfl, rfl, by decide +kernel, rfl, by decide +kernel, by decide +kernel⟩

theorem ok_num {f : Addr} {fd : FuncData} (F : Fun K "numbers" "Pattern.numbers" s_Pattern_numbers f fd) (T : Txt3 K mg tG t1 t2 t3 aO aW J C) : FnOk P w K mg base CX0 1 f fd ["self"] (spNum C) := by
  refine F.ok sc_Pattern_numbers (fun vs H Q E h => ?_) (fun cdv A outer s H vs Q E hr h => ?_)
  · obtain ⟨x, dx, q, m, f, s0, rfl, _⟩ := h
    rfl
  · obtain ⟨x, dx, q, m, f, s0, rfl, hx, k⟩ := h
    refine ⟨_, (pss_one (ps_ret (pe_fld (pv 0) rfl))), ?_⟩
    exact ⟨_, rfl, x, C, dx, _, _, rfl, hx, T.cl, T.nFour, lkF _ _ _, k⟩
theorem sc_Pattern_add : FnScope ["self", "other", "row"] ["self", "other"] (defScope s_Pattern_add) := ⟨rfl, rfl, rfl, by decide +kernel, rfl, by decide +kernel, by decide +kernel⟩

theorem ok_add {f : Addr} {fd : FuncData} (F : Fun K "__add__" "Pattern.__add__" s_Pattern_add f fd) (T : Txt3 K mg tG t1 t2 t3 aO aW J C) (X_pat : PatD P w K mg base C J fP) (X_join : JoinD P w K mg base J fJ fdJ) : FnOk P w K mg base CX0 7 f fd ["self", "other"] (spAdd C) := by
  refine F.ok sc_Pattern_add (fun vs H Q E h => ?_) (fun cdv A outer s H vs Q E hr h => ?_)
  · obtain ⟨x, y, r, r', rfl, _⟩ := h
    rfl
  · obtain ⟨x, y, r, r', rfl, hP, hP', hok, hok', l1, l1', l8, k⟩ := h
    refine ⟨_, (pss_cons (ps_set (i := 2) sc_Pattern_add.nd rfl (.inl rfl) (pe_op op_catA (pe_fld (pv 0) rfl) (pe_fld (pv 1) rfl)))
      (pss_cons (ps_if (pt_cmpR op_gt (pe_callB call_len_seq (by rfl) T.len (by decide +kernel) (pa_cons (pv 2) pa_nil)) (pe_glob (v := .int 8) rfl T.mgJo ⟨_, rfl⟩) (nomark _)) (pss_one ps_never) pss_nil)
      (pss_one (ps_ret (StX.pe_makeR X_pat.m X_pat.fn (hr.mono (by decide)) rfl T.mgC pass0 (pa_cons (pe_make X_join.m X_join.fn (hr.mono (by decide)) rfl T.mgJ X_join.bd .nil pass0 (pa_cons (pv 2) pa_nil)) pa_nil)))))), ?_⟩
    obtain ⟨dx, q, m, f', ws, f1, f2, f3, f4, hx, hq, hw, hm, _⟩ := hP
    obtain ⟨dy, q', m', g', ws', g1, g2, g3, g4, hy, hq', hw', hm', _⟩ := hP'
    have e1 := hw.1
    have e2 := hw'.1
    refine ⟨_, rfl, x, C, dx, _, _, rfl, hx, T.cl, T.nRow, lkR _ _ _, _, rfl, y, C, dy, _, _, rfl, hy, T.cl, T.nRow, lkR _ _ _, q, q', ws, ws', rfl, rfl, SqT.of hq, SqT.of hq', Nat.le_trans (by omega) (small1000 (show 8 ≤ 1000 by decide)), fun z => ?_, fun _ z => ?_, fun _ _ p np => ?_⟩
    · rw [z] at e1
      have : ([] : List V).length = 0 := rfl
      omega
    · rw [z] at e2
      have : ([] : List V).length = 0 := rfl
      omega
    have s1 := same_upd (o := .tup (ws ++ ws')) np
    have hp : (upd H p (.tup (ws ++ ws'))) p = some (.tup (ws ++ ws')) := upd_same
    have hpp := (hw.app hw').same s1
    refine ⟨_, rfl, p, _, rfl, .inr (SqT.of hp), _, _, rfl, rfl, _, rfl, ite2 (fun e => ?_) (fun _ => ?_)⟩
    · have h1 := of_decide_eq_true e
      rw [List.length_append] at h1
      omega
    exact ⟨_, rfl, make_pat hp hpp (hok.app hok') (by rw [List.length_append]; omega) (by rw [List.length_append]; omega) fun H' z s2 nz hz => k H' z (s1.trans s2) (s1.free nz) hz⟩
theorem sc_Pattern_read : FnScope ["text", "parts", "row", "part"] ["text"] (defScope s_Pattern_read) := ⟨rfl, rfl, rfl, by decide +kernel, rfl, by decide +kernel, by decide +kernel⟩

theorem ok_read {f : Addr} {fd : FuncData} (F : Fun K "read" "Pattern.read" s_Pattern_read f fd) (T : Txt3 K mg tG t1 t2 t3 aO aW J C) (X_pat : PatD P w K mg base C J fP) (X_join : JoinD P w K mg base J fJ fdJ) (D_piece_with_text : Df P w K mg base 2 "piece_with_text" ["text"] spPwt) : FnOk P w K mg base CX0 7 f fd ["text"] (spRead C) := by
  refine F.ok sc_Pattern_read (fun vs H Q E h => ?_) (fun cdv A outer s H vs Q E hr h => ?_)
  · obtain ⟨r, rfl, _⟩ := h
    rfl
  · obtain ⟨r, rfl, hok, l1, l8, k⟩ := h
    refine ⟨_, (pss_cons (ps_if (pt_not (pt_val (pe_callB call_isi (by rfl) T.isinstance (by decide +kernel) (pa_cons (pv 0) (pa_cons (pe_bltn (v := .ty "str") (by rfl) T.str_ (by decide +kernel) rfl) pa_nil))))) (pss_one ps_never) pss_nil)
      (pss_cons (ps_set (i := 1) sc_Pattern_read.nd rfl (.inl rfl) (pe_split (pv 0) pe_str))
      (pss_cons (ps_if (pt_cmpR op_gt (pe_callB call_len_seq (by rfl) T.len (by decide +kernel) (pa_cons (pv 1) pa_nil)) (pe_glob (v := .int 8) rfl T.mgJo ⟨_, rfl⟩) (nomark _)) (pss_one ps_never) pss_nil)
      (pss_cons (ps_set (i := 2) sc_Pattern_read.nd rfl (.inl rfl) (pe_callTy call_tuple_of (by rfl) T.tuple_ (by decide +kernel) (pa_cons (pe_lc (own := [("part", 3)]) (g := gName 3) (tt := tYes) rfl sc_Pattern_read.nd (pi_list (pv 1)) (blkOk_by (N := ["text", "parts", "row", "part"]) (sc := defScope s_Pattern_read) (by decide +kernel)) (fun _ _ _ _ _ => pg_name (i := 3) sc_Pattern_read.nd rfl (Or.inl rfl)) (fun _ _ _ _ _ => pts_nil) (fun _ _ _ _ _ => (pe_df D_piece_with_text (hr.mono (by decide)) (by rfl) (pa_cons (pv 3) pa_nil)))) pa_nil)))
      (pss_cons (ps_if (pt_cmpR (op_inT (units65 hr)) pe_non (pv 2) (by rfl)) (pss_one ps_never) pss_nil)
      (pss_one (ps_ret (StX.pe_makeR X_pat.m X_pat.fn (hr.mono (by decide)) rfl T.mgC pass0 (pa_cons (pe_make X_join.m X_join.fn (hr.mono (by decide)) rfl T.mgJ X_join.bd .nil pass0 (pa_cons (pv 2) pa_nil)) pa_nil))))))))), ?_⟩
    refine ⟨_, rfl, _, _, _, _, true, rfl, .ty _, .base (.str _), kit_ty (by decide +kernel), true, rfl, iteF ?_⟩
    refine ⟨_, rfl, ⟨_, rfl⟩, _, _, rfl, rfl, by decide +kernel, Nat.le_trans (Nat.add_le_add_right (rowTx_len hok l8) 2) (small1000 (show 101 ≤ 999 + 1 by decide)), fun p np => ?_⟩
    rw [parts_split hok l1]
    have s1 := same_upd (o := .lst ((r.map ptx).map V.str)) np
    have hp : (upd H p (.lst ((r.map ptx).map V.str))) p = some (.lst ((r.map ptx).map V.str)) := upd_same
    have len : ((r.map ptx).map V.str).length = r.length := by rw [List.length_map, List.length_map]
    generalize upd H p (.lst ((r.map ptx).map V.str)) = H1 at *
    refine ⟨_, rfl, p, _, rfl, .inl (SqL.of hp), _, _, rfl, rfl, _, rfl, ite2 (fun e => ?_) (fun _ => ?_)⟩
    · have h1 := of_decide_eq_true e
      rw [len] at h1
      omega
    refine ⟨_, rfl, p, rfl, ⟨_, SqL.of hp⟩, fun D hD => ?_⟩
    refine lc_list (K := K) (a := p) (xs := (r.map ptx).map V.str) (fun i H' => But D H1 H' ∧ ∃ vs, H' D = some (.lst vs) ∧ PiecesAt H' vs (r.take i)) ⟨But.upd, [], upd_same, rfl, fun i e z => by simp at z⟩ (fun i H' _ h => SqL.of (h.1 _ _ (ne_of_none hp hD) hp)) ?_ ?_
    · rintro i y H' hi ⟨bD, vs, hDi, hF⟩
      refine ⟨rfl, ?_⟩
      unfold tYes
      refine iteT ?_
      obtain ⟨pc, rfl, hpc⟩ : ∃ pc, y = .str (ptx pc) ∧ r[i]? = some pc := by
        rw [List.getElem?_map, List.getElem?_map] at hi
        cases e : r[i]? with
        | none =>
          rw [e] at hi
          cases hi
        | some pc =>
          rw [e] at hi
          exact ⟨pc, (Option.some.inj hi).symm, rfl⟩
      have il : i < r.length := (List.getElem?_eq_some_iff.mp hpc).1
      have lv : vs.length = i := by
        rw [hF.1, List.length_take]
        omega
      have tk : r.take (i + 1) = r.take i ++ [pc] := by
        rw [List.take_succ, hpc]
        rfl
      refine ⟨_, rfl, pc, rfl, hok.at_ hpc, fun H5 t s5 nt ht => ?_⟩
      have hD5 := s5 _ _ hDi
      have bD2 : But D H5 (upd H5 D (.lst (vs ++ [.ref t]))) := But.upd
      refine ⟨vs, hD5, small1000 (by omega), ?_, vs ++ [.ref t], upd_same, ?_⟩
      · intro b o nb e
        rw [upd_ne nb]
        exact s5 _ _ (bD _ _ nb e)
      · rw [tk]
        refine ((hF.same s5).app ⟨rfl, fun j p hj => ?_⟩).but bD2 (fun xs z => by rw [hD5] at z; cases z)
        match j, hj with
        | 0, hj =>
          cases hj
          exact ⟨_, rfl, t, rfl, ht⟩
    · rintro H' ⟨bD, vs, hDn, hF⟩
      rw [len, List.take_length] at hF
      have sD : Same H1 H' := fun b o e => bD _ _ (ne_of_none e hD) e
      refine ⟨D, _, rfl, .inl ⟨SqL.of hDn, fun l hl => ?_⟩⟩
      have s6 := same_upd (o := .tup vs) hl
      have hF6 := hF.same s6
      have hl6 : (upd H' l (.tup vs)) l = some (.tup vs) := upd_same
      have sA := (s1.trans sD).trans s6
      generalize upd H' l (.tup vs) = H6 at *
      refine ⟨_, rfl, .none, _, .non, dp_row hF6 hl6, rfl, sh_row r, _, rfl, ite2 (fun e => ?_) (fun _ => ?_)⟩
      · exfalso
        rw [List.any_eq_true] at e
        obtain ⟨z, hz, ez⟩ := e
        obtain ⟨pc, _, rfl⟩ := List.mem_map.mp hz
        rw [eqv_none_tup] at ez
        cases ez
      exact ⟨_, rfl, make_pat hl6 hF6 hok l1 l8 fun H' z s2 nz hz => k H' z (sA.trans s2) (sA.free nz) hz⟩
end
end RL

set_option maxHeartbeats 1000000
namespace RL
open PySem L2 PySem.Spec PyProof.Rows
def RowL (H : Hp) (a : Addr) (r : List Pc) : Prop := ∃ ws, H a = some (.lst ws) ∧ PiecesAt H ws r
def PairAt (H : Hp) (t : Addr) (e : Int × Int) : Prop := H t = some (.tup [.int e.1, .int e.2])
theorem RowL.same {H H' : Hp} {a : Addr} {r : List Pc} (h : RowL H a r) (s : Same H H') : RowL H' a r := by
  obtain ⟨ws, h1, h2⟩ := h
  exact ⟨ws, s _ _ h1, h2.same s⟩
theorem RowL.but {H H' : Hp} {a c : Addr} {r : List Pc} (h : RowL H a r) (hc : CupAt c H) (na : a ≠ c) (s : But c H H') : RowL H' a r := by
  obtain ⟨ws, h1, h2⟩ := h
  obtain ⟨u, v, hc, _⟩ := hc
  exact ⟨ws, s _ _ na h1, h2.but s (fun xs z => by rw [hc] at z; cases z)⟩
theorem But.tup {c a : Addr} {H H' : Hp} {xs : List V} (b : But c H H') (hc : CupAt c H) (h : H a = some (.tup xs)) : H' a = some (.tup xs) := by
  obtain ⟨u, v, hc, _⟩ := hc
  exact b _ _ (ne_of h hc (by intro z; cases z)) h
def spFront : Sp := fun vs H Q _ => ∃ (a p : Addr) (r : List Pc) (e : Int × Int), vs = [.ref a, .ref p] ∧ RowL H a r ∧ RowOk r ∧ r.length ≤ 8 ∧ PairAt H p e ∧ Pos2 e ∧ Sm 3850 e.1 ∧ Sm 3850 e.2 ∧
  ∀ H' t, Same H H' → H t = none → PairAt H' t (low (frtR r e)) → Q (.ref t) H'
def spRow : Sp := fun vs H Q _ => ∃ (c : Addr) (m : Int), vs = [.ref c, .int m] ∧ CupAt c H ∧ 1 ≤ m ∧ m ≤ 8 ∧
  ∀ H' a r, But c H H' → CupAt c H' → H a = none → a ≠ c → RowL H' a r → RowOk r → 1 ≤ r.length → (r.length : Int) ≤ m → Q (.ref a) H'
def spWords : Sp := fun vs H Q _ => ∃ (a : Addr) (r : List Pc), vs = [.ref a] ∧ RowL H a r ∧ RowOk r ∧ r.length ≤ 8 ∧ ∀ H', Same H H' → Q (.str (rowTx r)) H'
def spEnd : Sp := fun vs H Q _ => ∃ c : Addr, vs = [.ref c] ∧ CupAt c H ∧ ∀ H' t e, But c H H' → CupAt c H' → PairAt H' t e → ResP e.1 e.2 → Q (.ref t) H'
def spReadL (C : Addr) : Sp := fun vs H Q _ => ∃ (a : Addr) (r : List Pc), vs = [.ref a] ∧ RowL H a r ∧ RowOk r ∧ 1 ≤ r.length ∧ r.length ≤ 8 ∧ ∀ H' z, Same H H' → H z = none → PatAt C H' z r → Q (.ref z) H'
theorem ResP.pos {e : Int × Int} (h : ResP e.1 e.2) : Pos2 e := by
  rcases h with ⟨h1, _, h2, _⟩ | ⟨h1, h2⟩
  · exact ⟨h1, by omega, .inr (by omega)⟩
  · exact ⟨by omega, by omega, .inl (by omega)⟩
theorem ResP.sm {e : Int × Int} (h : ResP e.1 e.2) : Sm 41 e.1 ∧ Sm 41 e.2 := by
  have k : ∀ z : Int, 0 ≤ z → z ≤ 1000000000000 → Sm 41 z := fun z h1 h2 => sm_lt h1 (by
    have e : (2 : Int) ^ 41 = 2199023255552 := by decide
    rw [e]
    omega)
  rcases h with ⟨h1, h2, h3, h4⟩ | ⟨h1, h2⟩
  · exact ⟨k _ h1 h2, k _ (by omega) h4⟩
  · exact ⟨k _ (by omega) (by omega), k _ (by omega) (by omega)⟩
theorem low_res {t b : Int} (t0 : 0 ≤ t) (t1 : t ≤ 1000000000000) (b0 : 1 ≤ b) (b1 : b ≤ 1000000000000) : ResP (low (t, b)).1 (low (t, b)).2 := by
  have hp : Pos2 (t, b) := ⟨t0, by show 0 ≤ b; omega, .inr (by show 0 < b; omega)⟩
  have g0 : 0 < gc t b := gc_pos2 hp
  have e := low_is hp
  have e1 : t = gc t b * (low (t, b)).1 := congrArg Prod.fst e
  have e2 : b = gc t b * (low (t, b)).2 := congrArg Prod.snd e
  obtain ⟨l1, l2, _⟩ := low_pos hp
  have g1 : 1 ≤ gc t b := g0
  have m1 := Int.mul_le_mul_of_nonneg_right g1 l1
  have m2 := Int.mul_le_mul_of_nonneg_right g1 l2
  rw [Int.one_mul] at m1 m2
  rw [← e1] at m1
  rw [← e2] at m2
  refine .inl ⟨l1, by omega, ?_, by omega⟩
  rcases Int.lt_or_le 0 (low (t, b)).2 with z | z
  · omega
  · have := Int.mul_nonpos_of_nonneg_of_nonpos (Int.le_of_lt g0) z
    omega
theorem walk_front (l : List Pc) (e : Int × Int) : l.foldl (fun e p => frt p e) e = frtR l.reverse e := by
  unfold frtR
  rw [List.foldr_reverse]
section
variable {P : Program} {w : World} {K : PySem.W.Frag} {mg : Str → Option Value} {base : Heap} {tG t1 t2 t3 : Tok} {aO aW J C fP fJ : Addr} {fdJ : FuncData}
theorem sc_law_front : FnScope ["_law_row_here", "_law_pair_here", "_law_top", "_law_bottom", "_law_word", "_law_ohms"] ["_law_row_here", "_law_pair_here"] (defScope s_law_front) := ⟨rfl, rfl, rfl, by decide +kernel, rfl, by decide +kernel, by decide +kernel⟩

theorem ok_front {f : Addr} {fd : FuncData} (F : Fun K "_law_front" "_law_front" s_law_front f fd) (D_law_pair : Df P w K mg base 1 "_law_pair" ["_law_top", "_law_bottom"] spPair) : FnOk P w K mg base CX0 2 f fd ["_law_row_here", "_law_pair_here"] spFront := by
  refine F.ok sc_law_front (fun vs H Q E h => ?_) (fun cdv A outer s H vs Q E hr h => ?_)
  · obtain ⟨a, p, r, e, rfl, _⟩ := h
    rfl
  · obtain ⟨a, p, r, e, rfl, ⟨ws, ha, hw⟩, hok, l8, hp, ep, es1, es2, k⟩ := h
    refine ⟨_, (pss_cons (ps_asg (pv 1) (pg_tup rfl (pgs_cons (pg_name (i := 2) sc_law_front.nd rfl (.inl rfl)) (pgs_cons (pg_name (i := 3) sc_law_front.nd rfl (.inl rfl)) pgs_nil))))
      (pss_cons (ps_for PassesOwn.never rfl (pi_list (pe_revL (pv 0))) (pg_tup rfl (pgs_cons (pg_name (i := 4) sc_law_front.nd rfl (.inl rfl)) (pgs_cons (pg_name (i := 5) sc_law_front.nd rfl (.inl rfl)) pgs_nil))) (pss_one (ps_if (pt_cmpR op_eq (pv 4) pe_str (nomark _)) (pss_one (ps_set (i := 2) sc_law_front.nd rfl (.inl rfl) (pe_op op_add (pv 2) (pe_op op_mulX (pv 5) (pv 3))))) (pss_one (ps_if (pt_cmpR op_eq (pv 3) pe_int (nomark _)) (pss_one (ps_par (by rfl) sc_law_front.nd (i := 2) (j := 3) rfl rfl (by decide) rfl rfl (pa_cons (pv 5) (pa_cons pe_int pa_nil)) (by rfl))) (pss_one (ps_par (by rfl) sc_law_front.nd (i := 2) (j := 3) rfl rfl (by decide) rfl rfl (pa_cons (pe_op op_mulX (pv 5) (pv 2)) (pa_cons (pe_op op_add (pe_op op_mulX (pv 5) (pv 3)) (pv 2)) pa_nil)) (by rfl))))))))
      (pss_one (ps_ret (pe_df D_law_pair (hr.mono (by decide)) (by rfl) (pa_cons (pv 2) (pa_cons (pv 3) pa_nil))))))), ?_⟩
    refine ⟨_, rfl, p, _, rfl, SqT.of hp, rfl, _, _, rfl, _, _, rfl, rfl, ?_⟩
    refine ⟨_, rfl, a, ws, rfl, SqL.of ha, fun q nq => ?_⟩
    have s1 := same_upd (o := .lst ws.reverse) nq
    have hq : (upd H q (.lst ws.reverse)) q = some (.lst ws.reverse) := upd_same
    generalize upd H q (.lst ws.reverse) = H1 at *
    have hwr := (hw.same s1).rev
    refine ⟨q, rfl, ⟨_, SqL.of hq⟩, for_list (K := K) (a := q) (xs := ws.reverse) (fun i σ H' => H' = H1 ∧ ∃ v1 v2, σ = [some (.ref a), some (.ref p), some (.int ((r.reverse.take i).foldl (fun e p => frt p e) e).1), some (.int ((r.reverse.take i).foldl (fun e p => frt p e) e).2), v1, v2]) ⟨rfl, none, none, rfl⟩ (fun i σ H' _ h => by rw [h.1]; exact SqL.of hq) ?_ ?_⟩
    · rintro i y σ H' hx ⟨rfl, v1, v2, rfl⟩
      obtain ⟨pc, hpc, t, rfl, ht⟩ := hwr.at_ hx
      have hi : i < r.length := by
        have := (List.getElem?_eq_some_iff.mp hpc).1
        rw [List.length_reverse] at this
        exact this
      have tk : r.reverse.take (i + 1) = r.reverse.take i ++ [pc] := by
        rw [List.take_succ, hpc]
        rfl
      have f1 : (r.reverse.take (i + 1)).foldl (fun e p => frt p e) e = frt pc ((r.reverse.take i).foldl (fun e p => frt p e) e) := by rw [tk, List.foldl_append]; rfl
      have okt : RowOk (r.reverse.take i).reverse := fun z hz => hok z (List.mem_reverse.mp (List.mem_of_mem_take (List.mem_reverse.mp hz)))
      have ms := frtR_sm (n := 3850) okt es1 es2
      rw [← walk_front] at ms
      have len : (r.reverse.take i).reverse.length ≤ 8 := by
        rw [List.length_reverse, List.length_take]
        omega
      have ms1 : Sm 3890 ((r.reverse.take i).foldl (fun e p => frt p e) e).1 := ms.1.mono (by omega)
      have ms2 : Sm 3890 ((r.reverse.take i).foldl (fun e p => frt p e) e).2 := ms.2.mono (by omega)
      have po := ohm_sm (hok.rev.at_ hpc)
      rw [f1]
      generalize (r.reverse.take i).foldl (fun e p => frt p e) e = g at *
      refine ⟨t, _, rfl, SqT.of ht, rfl, _, _, rfl, _, _, rfl, rfl, ?_⟩
      refine ⟨_, rfl, rfl, _, rfl, ite2 (fun e => ?_) (fun e => ?_)⟩
      · have r1 : pc.1 = true := wd_inj (r' := true) (V.str.inj (of_decide_eq_true e))
        unfold frt
        rw [if_pos r1]
        exact ⟨_, rfl, _, rfl, _, rfl, _, _, rfl, rfl, mx po ms2, _, _, rfl, rfl, rfl, _, _, rfl⟩
      · have r1 : ¬ pc.1 = true := fun z => e (decide_eq_true (by rw [z]; rfl))
        unfold frt
        rw [if_neg r1]
        refine ⟨_, rfl, rfl, _, rfl, ite2 (fun e2 => ?_) (fun e2 => ?_)⟩
        · rw [if_pos (V.int.inj (of_decide_eq_true e2))]
          exact ⟨_, rfl, _, _, rfl, rfl, _, _, rfl⟩
        · rw [if_neg (fun z => e2 (decide_eq_true (congrArg V.int z)))]
          exact ⟨_, rfl, _, rfl, _, _, rfl, rfl, mx po ms1, _, rfl, _, rfl, _, _, rfl, rfl, mx po ms2, _, rfl, _, _, rfl, rfl, _, _, rfl, rfl, _, _, rfl⟩
    · rintro σ H' ⟨rfl, v1, v2, rfl⟩
      have e0 : (r.reverse.take ws.reverse.length).foldl (fun e p => frt p e) e = frtR r e := by
        rw [List.length_reverse, hw.1, ← List.length_reverse, List.take_length, walk_front, List.reverse_reverse]
      rw [e0]
      have fp := frtR_pos hok ep
      obtain ⟨m1, m2⟩ := frtR_sm (n := 3850) hok es1 es2
      exact ⟨_, rfl, _, rfl, _, _, rfl, fp, m1.mono (by omega), m2.mono (by omega), fun H2 t s2 nt ht => k _ t (s1.trans s2) (s1.free nt) ht⟩
theorem sc_law_row : FnScope ["_law_cup_here", "_law_most", "_law_found", "_law_turn"] ["_law_cup_here", "_law_most"] (defScope s_law_row) := ⟨rfl, rfl, rfl, by decide +kernel, rfl, by decide +kernel, by decide +kernel⟩

theorem ok_row {f : Addr} {fd : FuncData} (F : Fun K "_law_row" "_law_row" s_law_row f fd) (T : Txt K mg) (D_law_sip : Df P w K mg base 1 "_law_sip" ["_law_cup_here", "_law_many"] spSip) (D_law_pick : Df P w K mg base 2 "_law_pick" ["_law_cup_here", "_law_things"] spPick) : FnOk P w K mg base CX0 3 f fd ["_law_cup_here", "_law_most"] spRow := by
  refine F.ok sc_law_row (fun vs H Q E h => ?_) (fun cdv A outer s H vs Q E hr h => ?_)
  · obtain ⟨c, m, rfl, _⟩ := h
    rfl
  · obtain ⟨c, m, rfl, hc, m1, m8, k⟩ := h
    refine ⟨_, (pss_cons (ps_set (i := 2) sc_law_row.nd rfl (.inl rfl) (pe_lst pa_nil))
      (pss_cons (ps_for PassesOwn.never rfl (pi_range1 rfl T.range (pa_cons (pe_op op_add pe_int (pe_df D_law_sip (hr.mono (by decide)) (by rfl) (pa_cons (pv 0) (pa_cons (pv 1) pa_nil)))) pa_nil)) (pg_name (i := 3) sc_law_row.nd rfl (.inl rfl)) (pss_one (ps_expr (pe_bm PySem.F.plainAttrs_list PySem.F.slot_list_append PySem.F.type_list_append mt_append (pv 2) (pa_cons (pe_tup (pa_cons (pe_df D_law_pick (hr.mono (by decide)) (by rfl) (pa_cons (pv 0) (pa_cons (pe_lst (pa_cons pe_str (pa_cons pe_str pa_nil))) pa_nil))) (pa_cons (pe_op op_add pe_int (pe_df D_law_sip (hr.mono (by decide)) (by rfl) (pa_cons (pv 0) (pa_cons pe_int pa_nil)))) pa_nil))) pa_nil)))))
      (pss_one (ps_ret (pv 2))))), ?_⟩
    refine ⟨Nat.zero_le _, fun a na => ?_⟩
    have s1 := same_upd (o := .lst []) na
    have nac : a ≠ c := (hc.ne na).symm
    have ha1 : (upd H a (.lst [])) a = some (.lst []) := upd_same
    have hc1 := hc.same s1
    generalize upd H a (.lst []) = H1 at *
    refine ⟨_, rfl, _, rfl, c, m, rfl, hc1, by omega, (sm_lt (n := 200) (by omega) (Int.lt_of_le_of_lt m8 (by decide))), fun H2 n b2 hc2 n0 n1 => ⟨_, _, rfl, rfl, _, rfl, by omega, by omega, ?_⟩⟩
    refine for_range (lo := 0) (n := (1 + n).toNat) (fun i σ H' => But c H H' ∧ CupAt c H' ∧ (∃ v, σ = [some (.ref c), some (.int m), some (.ref a), v]) ∧ ∃ r, r.length = i ∧ RowL H' a r ∧ RowOk r) ⟨(But.of s1).trans b2, hc2, ⟨none, rfl⟩, [], rfl, ⟨[], b2 _ _ nac ha1, rfl, fun i p z => by simp at z⟩, fun p hp => by simp at hp⟩ ?_ ?_
    · rintro i σ H' hi ⟨bH, hcH, ⟨v, rfl⟩, r, lr, ⟨ws, ha, hw⟩, hok⟩
      have hi9 : i < 9 := by omega
      refine ⟨_, rfl, .inl ⟨rfl, _, SqL.of ha⟩, _, rfl, (by show 2 ≤ sizeLine; decide), fun l nl => ?_⟩
      have sl := same_upd (o := .lst [.str (Str.ofString "rail"), .str (Str.ofString "rung")]) nl
      have hl : (upd H' l (.lst [.str (Str.ofString "rail"), .str (Str.ofString "rung")])) l = some (.lst [.str (Str.ofString "rail"), .str (Str.ofString "rung")]) := upd_same
      refine ⟨c, l, _, rfl, hcH.same sl, hcH.ne nl, hl, by show 0 < 2; decide, by show 2 ≤ 100; decide, fun H3 v3 b3 hc3 hv3 => ?_⟩
      obtain ⟨w3, rfl⟩ : ∃ b : Bool, v3 = .str (wd b) := by
        simp only [List.mem_cons, List.not_mem_nil, or_false] at hv3
        rcases hv3 with rfl | rfl
        · exact ⟨true, rfl⟩
        · exact ⟨false, rfl⟩
      refine ⟨_, rfl, c, 12, rfl, hc3, by decide, (by unfold Sm; decide), fun H4 o b4 hc4 o0 o1 => ⟨_, _, rfl, rfl, (by show 2 ≤ sizeLine; decide), fun t nt => ?_⟩⟩
      have st := same_upd (o := .tup [.str (wd w3), .int (1 + o)]) nt
      have bb := ((But.of (c := c) sl).trans b3).trans b4
      have ha4 : H4 a = some (.lst ws) := bb _ _ nac ha
      have nat : a ≠ t := ne_of_none ha4 nt
      have hw4 : PiecesAt H4 ws r := hw.but bb (fun xs z => by obtain ⟨u, v, h, _⟩ := hcH; rw [h] at z; cases z)
      have bt : But a (upd H4 t (.tup [.str (wd w3), .int (1 + o)])) (upd (upd H4 t (.tup [.str (wd w3), .int (1 + o)])) a (.lst (ws ++ [.ref t]))) := But.upd
      have ha5 := st _ _ ha4
      refine ⟨a, _, _, rfl, rfl, ha5, small1000 (by rw [hw.1]; omega), ?_⟩
      have okp : PcOk (w3, 1 + o) := ⟨by dsimp; omega, by dsimp; omega⟩
      refine ⟨?_, ?_, ⟨_, rfl⟩, r ++ [(w3, 1 + o)], by rw [List.length_append, lr]; rfl, ⟨_, upd_same, ?_⟩, hok.app fun p hp => by rw [List.mem_singleton] at hp; rw [hp]; exact okp⟩
      · refine fun b o' nb e => ?_
        have nba : b ≠ a := ne_of_none e na
        exact bt _ _ nba (st _ _ (bb _ _ nb (bH _ _ nb e)))
      · obtain ⟨u, v, h, z⟩ := hc4
        exact ⟨u, v, bt _ _ nac.symm (st _ _ h), z⟩
      · refine ((hw4.same st).app ⟨rfl, fun j p hj => ?_⟩).but bt (fun xs z => by rw [ha5] at z; cases z)
        match j, hj with
        | 0, hj =>
          cases hj
          exact ⟨_, rfl, t, rfl, upd_same⟩
    · rintro σ H' ⟨bH, hcH, ⟨v, rfl⟩, r, lr, hR, hok⟩
      exact ⟨_, rfl, k H' a r bH hcH na nac hR hok (by omega) (by omega)⟩
theorem sc_law_words : FnScope ["_law_row_here", "_law_word", "_law_ohms"] ["_law_row_here"] (defScope s_law_words) := ⟨rfl, rfl, rfl, by decide +kernel, rfl, by decide +kernel, by decide +kernel⟩

theorem ok_words {f : Addr} {fd : FuncData} (F : Fun K "_law_words" "_law_words" s_law_words f fd) (T : Txt K mg) : FnOk P w K mg base CX0 1 f fd ["_law_row_here"] spWords := by
  refine F.ok sc_law_words (fun vs H Q E h => ?_) (fun cdv A outer s H vs Q E hr h => ?_)
  · obtain ⟨a, r, rfl, _⟩ := h
    rfl
  · obtain ⟨a, r, rfl, ⟨ws, ha, hw⟩, hok, l8, k⟩ := h
    refine ⟨_, (pss_one (ps_ret (pe_join pe_str (pe_lc (own := [("_law_word", 1), ("_law_ohms", 2)]) (g := gTup K 2 (gCons (gName 1) (gCons (gName 2) gNil))) (tt := tYes) rfl sc_law_words.nd (pi_list (pv 0)) (blkOk_by (N := ["_law_row_here", "_law_word", "_law_ohms"]) (sc := defScope s_law_words) (by decide +kernel)) (fun _ _ _ _ _ => pg_tup rfl (pgs_cons (pg_name (i := 1) sc_law_words.nd rfl (Or.inl rfl)) (pgs_cons (pg_name (i := 2) sc_law_words.nd rfl (Or.inl rfl)) pgs_nil))) (fun _ _ _ _ _ => pts_nil) (fun _ _ _ _ _ => (pe_op op_add_str (pe_op op_add_str (pv 1) pe_str) (pe_callTy call_str_int (by rfl) T.str_ (by decide +kernel) (pa_cons (pv 2) pa_nil)))))))), ?_⟩
    refine ⟨⟨_, rfl⟩, _, rfl, a, rfl, ⟨_, SqL.of ha⟩, fun D hD => ?_⟩
    refine lc_list (K := K) (a := a) (xs := ws) (fun i H' => But D H H' ∧ H' D = some (.lst (((r.take i).map ptx).map V.str))) ⟨But.upd, upd_same⟩ (fun i H' _ h => SqL.of (h.1 _ _ (ne_of_none ha hD) ha)) ?_ ?_
    · rintro i y H1 hi ⟨bD, hDi⟩
      obtain ⟨pc, hpc, t, rfl, ht⟩ := hw.at_ hi
      have ht1 := bD _ _ (ne_of_none ht hD) ht
      have ok := hok.at_ hpc
      have oh : Sm 200 pc.2 := (ohm_sm ok).mono (by decide)
      have ww : OkT 4 (wd pc.1) := by
        unfold wd
        split
        · exact OkT.of "rail"
        · exact OkT.of "rung"
      have lens : ∀ {m n : Nat} {x y : Str}, OkT m x → OkT n y → m + n ≤ 100000 → x.length + y.length ≤ sizeLine := fun {m n x y} h1 h2 h3 => by
        have := h1.len
        have := h2.len
        rw [sizeLine_eq]
        omega
      refine ⟨t, _, rfl, SqT.of ht1, rfl, _, _, rfl, _, _, rfl, rfl, rfl, ?_⟩
      unfold tYes
      refine iteT ?_
      refine ⟨_, rfl, _, _, rfl, rfl, lens ww (OkT.of " ") (by decide), _, rfl, _, rfl, Nat.lt_trans (log_sm (by decide) oh) (by decide), _, _, rfl, rfl, lens (ww.app (OkT.of " ")) (ts_ok oh) (by decide), _, hDi, ?_, ?_, ?_⟩
      · rw [List.length_map, List.length_map, List.length_take]
        exact small1000 (by omega)
      · intro q o nq e
        rw [upd_ne nq]
        exact bD _ _ nq e
      · rw [upd_same, List.take_succ, hpc]
        simp only [Option.toList, List.map_append, List.map_cons, List.map_nil]
        rfl
    · rintro H1 ⟨bD, hDn⟩
      rw [hw.1, List.take_length] at hDn
      refine ⟨_, D, r.map ptx, rfl, rfl, .inl (SqL.of hDn), ?_, ?_⟩
      · have h2 := sum_len hok
        have h3 : (Str.ofString ", ").length = 2 := by decide +kernel
        rw [List.length_map]
        show _ + r.length * (Str.ofString ", ").length ≤ 16777216
        rw [h3]
        omega
      · exact k _ fun q o e => bD _ _ (ne_of_none e hD) e
theorem sc_law_end : FnScope ["_law_cup_here", "_law_way", "_law_small"] ["_law_cup_here"] (defScope s_law_end) := ⟨rfl, rfl, rfl, by decide +kernel, rfl, by decide +kernel, by decide +kernel⟩

variable {pr gr : Addr} {fr : FuncData}
theorem sc_law_read : FnScope ["_law_row_here"] ["_law_row_here"] (defScope s_law_read) := ⟨rfl, rfl, rfl, by decide +kernel, rfl, by decide +kernel, by decide +kernel⟩

theorem ok_readL {f : Addr} {fd : FuncData} (F : Fun K "_law_read" "_law_read" s_law_read f fd) (T : Txt3 K mg tG t1 t2 t3 aO aW J C) (OR : OwR P w K mg base C pr gr fr) (D_law_words : Df P w K mg base 1 "_law_words" ["_law_row_here"] spWords) : FnOk P w K mg base CX0 8 f fd ["_law_row_here"] (spReadL C) := by
  refine F.ok sc_law_read (fun vs H Q E h => ?_) (fun cdv A outer s H vs Q E hr h => ?_)
  · obtain ⟨a, r, rfl, _⟩ := h
    rfl
  · obtain ⟨a, r, rfl, hR, hok, l1, l8, k⟩ := h
    refine ⟨_, (pss_one (ps_ret (pe_smeth (pe_glob (v := .ref C) rfl T.mgC rfl) OR.rd OR.sm OR.ok OR.b (hr.mono (by decide)) (pa_cons (pe_df D_law_words (hr.mono (by decide)) (by rfl) (pa_cons (pv 0) pa_nil)) pa_nil)))), ?_⟩
    exact ⟨rfl, _, rfl, a, r, rfl, hR, hok, l8, fun H1 s1 => ⟨r, rfl, hok, l1, l8, fun H2 z s2 nz hz => k _ z (s1.trans s2) (s1.free nz) hz⟩⟩
end
end RL

set_option maxHeartbeats 1000000
namespace RL
open PySem L2 PySem.Spec PyProof.Rows
structure Txt4 (K : PySem.W.Frag) (mg : Str → Option Value) (tG t1 t2 t3 tP tC : Tok) (aO aW J C Ce Cl : Addr) : Prop extends Txt3 K mg tG t1 t2 t3 aO aW J C where
  mgP : mg "GREATEST_PART" = some (.int 10000000000000000000000000000000000000000 tP)
  mgCo : mg "MOST_SECTIONS" = some (.int 100 tC)
  mgE : mg "Exact" = some (.ref Ce)
  clE : Cls K Ce
  nP : NoAttr K Ce "parts"
  mgL : mg "Ladder" = some (.ref Cl)
  clL : Cls K Cl
  nSec : NoAttr K Cl "section"
  nBeh : NoAttr K Cl "behind"
  nFar : NoAttr K Cl "far"
def spRoot : Sp := fun vs H Q _ => ∃ n : Int, vs = [.int n] ∧ 0 ≤ n ∧ Sm 4000 n ∧ ∀ H', Same H H' → Q (.int (rt n)) H'
def spSign : Sp := fun vs H Q _ => ∃ n : Int, vs = [.int n] ∧ Q (.int (sg n)) H
def spUnder : Sp := fun vs H Q _ => ∃ s l w : Int, vs = [.int s, .int l, .int w] ∧ Sm 1000 s ∧ Sm 1000 l ∧ Sm 1000 w ∧ Q (.int (l * l + 4 * s * w)) H
def spEqF : Sp := fun vs H Q _ => ∃ (t b : Int), vs = [.int t, .int b] ∧ Pos2 (t, b) ∧ Sm 4000 t ∧ Sm 4000 b ∧
  ∀ H' p, Same H H' → H p = none → H' p = some (.tup [.int 0, .int (b / gc t b), .int (t / gc t b)]) → Q (.ref p) H'
def spSimp : Sp := fun vs H Q _ => ∃ a b c : Int, vs = [.int a, .int b, .int c] ∧ Good a b c ∧ Sm 133 a ∧ Sm 133 b ∧ Sm 133 c ∧
  ∀ H' p, Same H H' → H p = none → H' p = some (.tup [.int (parts a b c).1, .int (parts a b c).2.1, .int (parts a b c).2.2]) → Q (.ref p) H'
section
variable {P : Program} {w : World} {K : PySem.W.Frag} {mg : Str → Option Value} {base : Heap} {tG t1 t2 t3 tP tC : Tok} {aO aW J C Ce Cl fP fJ : Addr} {fdJ : FuncData}
theorem pow_up {a b : Nat} (h : a ≤ b) : (2 : Int) ^ a ≤ 2 ^ b := by
  have := Nat.pow_le_pow_right (n := 2) (by decide) h
  have e : ∀ k : Nat, ((2 ^ k : Nat) : Int) = 2 ^ k := fun k => by rw [Int.natCast_pow]; rfl
  rw [← e, ← e]
  omega
theorem bits_lt {n : Int} (h : 0 ≤ n) : n < 2 ^ (Builtin.Int.intBits n) := by
  unfold Builtin.Int.intBits
  by_cases z : n = 0
  · subst z
    decide
  · rw [if_neg (by simpa using z)]
    have := Nat.lt_log2_self (n := n.natAbs)
    have e : ((2 ^ (n.natAbs.log2 + 1) : Nat) : Int) = 2 ^ (n.natAbs.log2 + 1) := by rw [Int.natCast_pow]; rfl
    rw [← e]
    omega
theorem bits_le {n : Int} {m : Nat} (h : Sm m n) : Builtin.Int.intBits n ≤ m := PyProof.Rows.intBits_le h
theorem sc_square_root : FnScope ["number", "guess"] ["number"] (defScope s_square_root) := ⟨rfl, rfl, rfl, by decide +kernel, rfl, by decide +kernel, by decide +kernel⟩

theorem ok_sqrt {f : Addr} {fd : FuncData} (F : Fun K "square_root" "square_root" s_square_root f fd) : FnOk P w K mg base CX0 1 f fd ["number"] spRoot := by
  refine F.ok sc_square_root (fun vs H Q E h => ?_) (fun cdv A outer s H vs Q E hr h => ?_)
  · obtain ⟨n, rfl, _⟩ := h
    rfl
  · obtain ⟨n, rfl, n0, ns, k⟩ := h
    refine ⟨_, (pss_cons (ps_set (i := 1) sc_square_root.nd rfl (.inl rfl) (pe_op op_oneShl pe_int (pe_op op_fdivW (pe_op op_add (pe_bits (pv 0)) pe_int) pe_int)))
      (pss_cons (ps_while PassesOwn.never (pt_cmpR op_gt (pe_op op_mulX (pv 1) (pv 1)) (pv 0) (nomark _)) (pss_one (ps_set (i := 1) sc_square_root.nd rfl (.inl rfl) (pe_op op_fdivW (pe_op op_add (pv 1) (pe_op op_fdivW (pv 0) (pv 1))) pe_int))))
      (pss_one (ps_ret (pv 1))))), ?_⟩
    have hb := bits_le ns
    have hl := bits_lt n0
    refine ⟨_, rfl, n, rfl, _, _, rfl, rfl, _, _, rfl, rfl, dvw (b := 3) (by decide) (by unfold Sm; decide), ?_⟩
    have ek : ((Builtin.Int.intBits n : Nat) + 1 : Int) / 2 = (((Builtin.Int.intBits n + 1) / 2 : Nat) : Int) := by omega
    generalize Builtin.Int.intBits n = b at *
    refine ⟨(b + 1) / 2, rfl, congrArg V.int ek, (by omega), ?_⟩
    have ks : (b + 1) / 2 ≤ 2000 := by omega
    have kb : b ≤ (b + 1) / 2 + (b + 1) / 2 := by omega
    generalize (b + 1) / 2 = q at *
    have p0 : (0 : Int) < 2 ^ q := Int.pow_pos (by decide)
    have hp : n < 2 ^ q * 2 ^ q := by
      rw [← Int.pow_add]
      exact Int.lt_of_lt_of_le hl (pow_up kb)
    have gs : Sm 2001 (2 ^ q) := by
      unfold Sm
      rw [Int.natAbs_pow]
      exact Nat.pow_lt_pow_right (by decide) (by omega)
    refine while_by (fun σ H' => H' = H ∧ ∃ g : Int, σ = [some (.int n), some (.int g)] ∧ 0 ≤ g ∧ n < (g + 1) * (g + 1) ∧ Sm 2001 g) (fun σ _ => match σ with | [_, some (.int g)] => g.toNat | _ => 0) ⟨rfl, 2 ^ q, rfl, by omega, ?_, gs⟩ ?_ ?_
    · have e : ((2 : Int) ^ q + 1) * (2 ^ q + 1) = 2 ^ q * 2 ^ q + 2 * 2 ^ q + 1 := by
        generalize (2 : Int) ^ q = u
        grind
      omega
    · rintro σ H' ⟨rfl, g, rfl, g0, g1, gs⟩
      refine ⟨_, rfl, _, rfl, _, _, rfl, rfl, mx gs gs, _, rfl, _, _, rfl, rfl, _, rfl, ite2 (fun e => ?_) (fun e => ?_)⟩
      · have e0 : n < g * g := of_decide_eq_true e
        obtain ⟨h1, h2, h3, h4⟩ := newton n0 g0 g1 e0
        refine ⟨_, rfl, _, rfl, _, rfl, _, _, rfl, rfl, dvw h1 gs, _, _, rfl, rfl, _, _, rfl, rfl, dvw (b := 3) (by decide) (by unfold Sm; decide), ⟨rfl, _, rfl, h2, h4, gs.of (by omega) (by omega)⟩, ?_⟩
        show ((g + n / g) / 2).toNat < g.toNat
        omega
      · have e0 : ¬ n < g * g := fun z => e (decide_eq_true z)
        refine ⟨_, rfl, ?_⟩
        rw [rt_of ⟨g0, by omega, g1⟩]
        exact k _ (Same.refl _)
    · rintro σ H' Q1 Q2 hq h
      obtain ⟨v, e1, v2, e2, i, j, e3, e4, cm, v3, e5, i2, j2, e6, e7, z⟩ := h
      exact ⟨v, e1, v2, e2, i, j, e3, e4, cm, v3, e5, i2, j2, e6, e7, z.imp fun k z => ⟨z.1, hq _ _ z.2⟩⟩
theorem sc_sign : FnScope ["number"] ["number"] (defScope s_sign) := ⟨rfl, rfl, rfl, by decide +kernel, rfl, by decide +kernel, by decide +kernel⟩

theorem ok_sign {f : Addr} {fd : FuncData} (F : Fun K "sign" "sign" s_sign f fd) : FnOk P w K mg base CX0 1 f fd ["number"] spSign := by
  refine F.ok sc_sign (fun vs H Q E h => ?_) (fun cdv A outer s H vs Q E hr h => ?_)
  · obtain ⟨n, rfl, _⟩ := h
    rfl
  · obtain ⟨n, rfl, k⟩ := h
    refine ⟨_, (pss_cons (ps_if (pt_cmpR op_gt (pv 0) pe_int (nomark _)) (pss_one (ps_ret pe_int)) pss_nil)
      (pss_cons (ps_if (pt_cmpR op_lt (pv 0) pe_int (nomark _)) (pss_one (ps_ret (pe_un un_neg pe_int))) pss_nil)
      (pss_one (ps_ret pe_int)))), ?_⟩
    unfold sg at k
    refine ⟨_, rfl, _, _, rfl, rfl, _, rfl, ite2 (fun e => ?_) (fun e => ?_)⟩
    · rw [if_pos (show 0 < n from of_decide_eq_true e)] at k
      exact k
    · rw [if_neg (show ¬ 0 < n from fun z => e (decide_eq_true z))] at k
      refine ⟨_, rfl, _, _, rfl, rfl, _, rfl, ite2 (fun e2 => ?_) (fun e2 => ?_)⟩
      · rw [if_pos (show n < 0 from of_decide_eq_true e2)] at k
        exact ⟨1, rfl, k⟩
      · rw [if_neg (show ¬ n < 0 from fun z => e2 (decide_eq_true z))] at k
        exact k
theorem sc_under_root : FnScope ["square", "line", "whole"] ["square", "line", "whole"] (defScope s_under_root) := ⟨rfl, rfl, rfl, by decide +kernel, rfl, by decide +kernel, by decide +kernel⟩

theorem ok_under {f : Addr} {fd : FuncData} (F : Fun K "under_root" "under_root" s_under_root f fd) : FnOk P w K mg base CX0 1 f fd ["square", "line", "whole"] spUnder := by
  refine F.ok sc_under_root (fun vs H Q E h => ?_) (fun cdv A outer s H vs Q E hr h => ?_)
  · obtain ⟨a, b, c, rfl, _⟩ := h
    rfl
  · obtain ⟨a, b, c, rfl, ha, hb, hc, k⟩ := h
    refine ⟨_, (pss_one (ps_ret (pe_op op_add (pe_op op_mulX (pv 1) (pv 1)) (pe_op op_mulX (pe_op op_mul pe_int (pv 0)) (pv 2))))), ?_⟩
    have h4 : Sm 1003 (4 * a) := Sm.mul (m := 3) (n := 1000) (x := 4) (by unfold Sm; decide) ha
    exact ⟨_, rfl, _, rfl, _, _, rfl, rfl, mx hb hb, _, rfl, _, _, rfl, rfl, .inl ⟨by decide, by decide⟩, _, rfl, _, _, rfl, rfl, mx h4 hc, _, _, rfl, rfl, k⟩
theorem sc_equation_of_fraction : FnScope ["top", "bottom", "top_part", "bottom_part"] ["top", "bottom"] (defScope s_equation_of_fraction) := ⟨rfl, rfl, rfl, by decide +kernel, rfl, by decide +kernel, by decide +kernel⟩

theorem ok_eqf {f : Addr} {fd : FuncData} (F : Fun K "equation_of_fraction" "equation_of_fraction" s_equation_of_fraction f fd) (D_lowest_terms : Df P w K mg base 2 "lowest_terms" ["top", "bottom"] spLow) : FnOk P w K mg base CX0 3 f fd ["top", "bottom"] spEqF := by
  refine F.ok sc_equation_of_fraction (fun vs H Q E h => ?_) (fun cdv A outer s H vs Q E hr h => ?_)
  · obtain ⟨t, b, rfl, _⟩ := h
    rfl
  · obtain ⟨t, b, rfl, tb, ts, bs, k⟩ := h
    refine ⟨_, (pss_cons (ps_asg (pe_df D_lowest_terms (hr.mono (by decide)) (by rfl) (pa_cons (pv 0) (pa_cons (pv 1) pa_nil))) (pg_tup rfl (pgs_cons (pg_name (i := 2) sc_equation_of_fraction.nd rfl (.inl rfl)) (pgs_cons (pg_name (i := 3) sc_equation_of_fraction.nd rfl (.inl rfl)) pgs_nil))))
      (pss_one (ps_ret (pe_tup (pa_cons pe_int (pa_cons (pv 3) (pa_cons (pv 2) pa_nil))))))), ?_⟩
    refine ⟨_, rfl, _, rfl, t, b, rfl, tb, ts, bs, fun H1 p sm np hp => ?_⟩
    refine ⟨p, _, rfl, SqT.of hp, rfl, _, _, rfl, _, _, rfl, rfl, ?_⟩
    exact ⟨_, rfl, _, rfl, (by show 3 ≤ sizeLine; decide), fun q hq => k _ q (sm.trans (same_upd hq)) (sm.free hq) upd_same⟩
theorem sc_simplest_equation : FnScope ["square", "line", "whole", "inside", "root", "divisor"] ["square", "line", "whole"] (defScope s_simplest_equation) := ⟨rfl, rfl, rfl, by decide +kernel, rfl, by decide +kernel, by decide +kernel⟩

theorem ok_simp {f : Addr} {fd : FuncData} (F : Fun K "simplest_equation" "simplest_equation" s_simplest_equation f fd) (D_common_divisor : Df P w K mg base 1 "common_divisor" ["first", "second"] spGcd) (D_square_root : Df P w K mg base 1 "square_root" ["number"] spRoot)
    (D_under_root : Df P w K mg base 1 "under_root" ["square", "line", "whole"] spUnder) (D_equation_of_fraction : Df P w K mg base 3 "equation_of_fraction" ["top", "bottom"] spEqF) : FnOk P w K mg base CX0 4 f fd ["square", "line", "whole"] spSimp := by
  refine F.ok sc_simplest_equation (fun vs H Q E h => ?_) (fun cdv A outer s H vs Q E hr h => ?_)
  · obtain ⟨a, b, c, rfl, _⟩ := h
    rfl
  · obtain ⟨a, b, c, rfl, hG, ha, hb, hc, k⟩ := h
    refine ⟨_, (pss_cons (ps_if (pt_cmpR op_eq (pv 0) pe_int (nomark _)) (pss_one (ps_ret (pe_df D_equation_of_fraction (hr.mono (by decide)) (by rfl) (pa_cons (pv 2) (pa_cons (pv 1) pa_nil))))) pss_nil)
      (pss_cons (ps_set (i := 3) sc_simplest_equation.nd rfl (.inl rfl) (pe_df D_under_root (hr.mono (by decide)) (by rfl) (pa_cons (pv 0) (pa_cons (pv 1) (pa_cons (pv 2) pa_nil)))))
      (pss_cons (ps_set (i := 4) sc_simplest_equation.nd rfl (.inl rfl) (pe_df D_square_root (hr.mono (by decide)) (by rfl) (pa_cons (pv 3) pa_nil)))
      (pss_cons (ps_if (pt_cmpR op_eq (pe_op op_mulX (pv 4) (pv 4)) (pv 3) (nomark _)) (pss_one (ps_ret (pe_df D_equation_of_fraction (hr.mono (by decide)) (by rfl) (pa_cons (pe_op op_sub (pv 4) (pv 1)) (pa_cons (pe_op op_mul pe_int (pv 0)) pa_nil))))) pss_nil)
      (pss_cons (ps_set (i := 5) sc_simplest_equation.nd rfl (.inl rfl) (pe_df D_common_divisor (hr.mono (by decide)) (by rfl) (pa_cons (pe_df D_common_divisor (hr.mono (by decide)) (by rfl) (pa_cons (pv 0) (pa_cons (pv 1) pa_nil))) (pa_cons (pv 2) pa_nil))))
      (pss_one (ps_ret (pe_tup (pa_cons (pe_op op_fdivW (pv 0) (pv 5)) (pa_cons (pe_op op_fdivW (pv 1) (pv 5)) (pa_cons (pe_op op_fdivW (pv 2) (pv 5)) pa_nil))))))))))), ?_⟩
    unfold parts at k
    refine ⟨_, rfl, rfl, _, rfl, ite2 (fun e => ?_) (fun e => ?_)⟩
    · have a0 : a = 0 := V.int.inj (of_decide_eq_true e)
      rw [if_pos a0] at k
      have b0 : 1 ≤ b ∧ 0 ≤ c := by
        rcases hG with z | z
        · exact z.2
        · omega
      exact ⟨_, rfl, _, rfl, c, b, rfl, ⟨b0.2, by show 0 ≤ b; omega, .inr (by show 0 < b; omega)⟩, hc.mono (by decide), hb.mono (by decide), k⟩
    · have a0 : ¬ a = 0 := fun z => e (decide_eq_true (congrArg V.int z))
      rw [if_neg a0] at k
      have hg : 1 ≤ a ∧ 1 ≤ c := by
        rcases hG with z | z
        · exact absurd z.1 a0
        · exact z
      have ip := inside_pos (b := b) hg
      have hd : Sm 270 (b * b + 4 * a * c) := by
        have h4 : Sm 3 4 := by unfold Sm; decide
        have e1 : Sm (133 + 133) (b * b) := hb.mul hb
        have e2 : Sm (3 + 133 + 133) (4 * a * c) := (h4.mul ha).mul hc
        exact (Sm.add (n := 269) (e1.mono (by decide)) (e2.mono (by decide)))
      have hr0 : Sm 135 (rt (b * b + 4 * a * c)) := rt_sm (n := 135) ip.2 hd
      refine ⟨_, rfl, _, rfl, _, rfl, a, b, c, rfl, ha.mono (by decide), hb.mono (by decide), hc.mono (by decide), ?_⟩
      refine ⟨_, rfl, _, rfl, ip.2, hd.mono (by decide), fun H1 sm => ?_⟩
      refine ⟨_, rfl, _, rfl, _, _, rfl, rfl, mx hr0 hr0, _, rfl, rfl, _, rfl, ite2 (fun e2 => ?_) (fun e2 => ?_)⟩
      · have e3 : rt (b * b + 4 * a * c) * rt (b * b + 4 * a * c) = b * b + 4 * a * c := V.int.inj (of_decide_eq_true e2)
        rw [if_pos e3] at k
        have rg := rt_gt ip.1 (rt_is ip.2).1 e3.symm
        refine ⟨_, rfl, _, rfl, _, _, rfl, rfl, _, rfl, _, _, rfl, rfl, .inl ⟨by decide, by decide⟩, _, _, rfl, ⟨by show 0 ≤ rt (b * b + 4 * a * c) - b; omega, by show 0 ≤ 2 * a; omega, .inr (by show 0 < 2 * a; omega)⟩, ?_, ?_, fun H2 p sm2 np hp => ?_⟩
        · exact (hr0.sub (hb.mono (by decide))).mono (by decide)
        · exact (Sm.mul (m := 2) (n := 133) (x := 2) (by unfold Sm; decide) ha).mono (by decide)
        · exact k _ p (sm.trans sm2) (sm.free np) hp
      · have e3 : ¬ rt (b * b + 4 * a * c) * rt (b * b + 4 * a * c) = b * b + 4 * a * c := fun z => e2 (decide_eq_true (congrArg V.int z))
        rw [if_neg e3] at k
        have g0 : 0 < gc (gc a b) c := gc_pos (.inr (by omega))
        have gb : gc (gc a b) c ≤ c := Int.le_of_dvd (by omega) (gc_dvd2 _ _)
        have gs : Sm 133 (gc (gc a b) c) := hc.of (by omega) gb
        refine ⟨_, rfl, _, rfl, a, b, rfl, _, rfl, _, _, rfl, ?_⟩
        refine ⟨_, rfl, _, rfl, _, _, rfl, rfl, dvw g0 gs, _, rfl, _, rfl, _, _, rfl, rfl, dvw g0 gs, _, rfl, _, rfl, _, _, rfl, rfl, dvw g0 gs, (by show 3 ≤ sizeLine; decide), fun p hp => ?_⟩
        exact k _ _ (sm.trans (same_upd hp)) (sm.free hp) upd_same
end
end RL

set_option maxHeartbeats 1000000
namespace RL
open PySem L2 PySem.Spec PyProof.Rows
def ExAt (C : Addr) (H : Hp) (x : Addr) (s l w : Int) : Prop := ∃ dx p : Addr, H x = some (.ins C dx [("parts", .ref p)]) ∧ H p = some (.tup [.int s, .int l, .int w])
def Big (a b c : Int) : Prop := Good a b c ∧ a ≤ 10000000000000000000000000000000000000000 ∧ -10000000000000000000000000000000000000000 ≤ b ∧ b ≤ 10000000000000000000000000000000000000000 ∧ c ≤ 10000000000000000000000000000000000000000
theorem Big.sm {a b c : Int} (h : Big a b c) : Sm 133 a ∧ Sm 133 b ∧ Sm 133 c := by
  obtain ⟨g, h1, h2, h3, h4⟩ := h
  have e : (10 : Int) ^ 40 = 10000000000000000000000000000000000000000 := by decide
  have a0 : 0 ≤ a ∧ 0 ≤ c := by
    rcases g with g | g <;> omega
  exact ⟨sm40 (by omega) (by omega), sm40 (by omega) (by omega), sm40 (by omega) (by omega)⟩
def spInit (C : Addr) : Sp := fun vs H Q _ => ∃ (x dx : Addr) (a b c : Int), vs = [.ref x, .int a, .int b, .int c] ∧ H x = some (.ins C dx []) ∧ Big a b c ∧
  ∀ H' : Hp, But x H H' → ExAt C H' x (parts a b c).1 (parts a b c).2.1 (parts a b c).2.2 → Q .non H'
def spFt : Sp := fun vs H Q _ => ∃ t b : Int, vs = [.int t, .int b] ∧ Sm 200 t ∧ Sm 200 b ∧ Q (.str (ftext t b)) H
def spCm : Sp := fun vs H Q _ => ∃ (p : Addr) (a b c : Int), vs = [.ref p] ∧ H p = some (.tup [.int a, .int b, .int c]) ∧ Sm 200 a ∧ Sm 200 b ∧ Sm 200 c ∧ ∀ H', Same H H' → Q (.str (commas a b c)) H'
def spStr (C : Addr) : Sp := fun vs H Q _ => ∃ (x : Addr) (s l w : Int), vs = [.ref x] ∧ ExAt C H x s l w ∧ Sm 200 s ∧ Sm 200 l ∧ Sm 200 w ∧ ∀ H', Same H H' → Q (.str (xtext s l w)) H'
def spRep (C : Addr) : Sp := fun vs H Q _ => ∃ (x : Addr) (s l w : Int), vs = [.ref x] ∧ ExAt C H x s l w ∧ Sm 200 s ∧ Sm 200 l ∧ Sm 200 w ∧ ∀ H', Same H H' → Q (.str (rtext s l w)) H'
def spEqn (C : Addr) : Sp := fun vs H Q _ => ∃ (x dx p : Addr), vs = [.ref x] ∧ H x = some (.ins C dx [("parts", .ref p)]) ∧ Q (.ref p) H
def spFrac (C : Addr) : Sp := fun vs H Q _ => ∃ (x : Addr) (s l w : Int), vs = [.ref x] ∧ ExAt C H x s l w ∧ (s = 0 → ∀ H' q, Same H H' → H' q = some (.tup [.int w, .int l]) → Q (.ref q) H') ∧ (s ≠ 0 → Q .non H)
/-! ### a new Exact, by position and by keywords -/
structure ExD (P : Program) (w : World) (K : PySem.W.Frag) (mg : Str → Option Value) (base : Heap) (C : Addr) : Prop where
  ex : ∃ (fI : Addr) (fdI : FuncData), Mk K C fI ∧ FnOk P w K mg base CX0 5 fI fdI ["self", "square", "line", "whole"] (spInit C) ∧ Binds K fdI ["self", "square", "line", "whole"] []
theorem pe_exact {X : Cx} {C : Addr} {p pos : Pos} {e : Expr} {es : List Expr} {t : TA} (D : ExD X.prog X.w X.K X.mg X.base C) (hr : Room 6 X.A) (hg : Gl X "Exact") (hm : X.mg "Exact" = some (.ref C))
    (ha : PA X (e :: es) t) (he : starEach (e :: es) X.env = (false, eval e X.env) :: starEach es X.env := by rfl) (hpl : (backTo pos (starEach es X.env)).any (·.1) = false := by rfl) :
    PE X (.Call (.Name "Exact" p) (e :: es) [] pos) (tMake C (spInit C) [] E0 t) := by
  obtain ⟨fI, fdI, M, G, hb⟩ := D.ex
  exact pe_make M G hr hg hm hb .nil pass0 ha (by decide) he hpl
theorem ExAt.same {C x : Addr} {H H' : Hp} {s l w : Int} (h : ExAt C H x s l w) (sm : Same H H') : ExAt C H' x s l w := by
  obtain ⟨dx, p, a, b⟩ := h
  exact ⟨dx, p, sm _ _ a, sm _ _ b⟩
theorem ExAt.but {C x c : Addr} {H H' : Hp} {s l w : Int} (h : ExAt C H x s l w) (hc : CupAt c H) (sm : But c H H') : ExAt C H' x s l w := by
  obtain ⟨dx, p, a, b⟩ := h
  refine ⟨dx, p, ?_, sm.tup hc b⟩
  obtain ⟨u, v, e, _⟩ := hc
  exact sm _ _ (ne_of a e (by intro z; cases z)) a
def spNormal : Sp := fun vs H Q _ => ∃ a b c : Int, vs = [.int a, .int b, .int c] ∧ Good a b c ∧ Sm 133 a ∧ Sm 133 b ∧ Sm 133 c ∧
  ∀ H' p, Same H H' → H' p = some (.tup [.int (parts a b c).1, .int (parts a b c).2.1, .int (parts a b c).2.2]) → Q (.ref p) H'
section
variable {P : Program} {w : World} {K : PySem.W.Frag} {mg : Str → Option Value} {base : Heap} {tG t1 t2 t3 tP tC : Tok} {aO aW J C Ce Cl fP fJ : Addr} {fdJ : FuncData}
theorem sc_Exact_init : FnScope ["self", "square", "line", "whole"] ["self", "square", "line", "whole"] (defScope s_Exact_init) := ⟨rfl, rfl, rfl, by decide +kernel, rfl, by decide +kernel, by decide +kernel⟩

theorem ok_init {f : Addr} {fd : FuncData} (F : Fun K "__init__" "Exact.__init__" s_Exact_init f fd) (T : Txt4 K mg tG t1 t2 t3 tP tC aO aW J C Ce Cl) (D_is_integer_within : Df P w K mg base 2 "is_integer_within" ["value", "least", "most"] spWithin) (D_simplest_equation : Df P w K mg base 4 "simplest_equation" ["square", "line", "whole"] spSimp) :
    FnOk P w K mg base CX0 5 f fd ["self", "square", "line", "whole"] (spInit Ce) := by
  refine F.ok sc_Exact_init (fun vs H Q E h => ?_) (fun cdv A outer s H vs Q E hr h => ?_)
  · obtain ⟨x, dx, a, b, c, rfl, _⟩ := h
    rfl
  · obtain ⟨x, dx, a, b, c, rfl, hx, hB, k⟩ := h
    refine ⟨_, (pss_cons (ps_if (pt_not (pt_val (pe_df D_is_integer_within (hr.mono (by decide)) (by rfl) (pa_cons (pv 1) (pa_cons pe_int (pa_cons (pe_glob (v := .int 10000000000000000000000000000000000000000) rfl T.mgP ⟨_, rfl⟩) pa_nil)))))) (pss_one ps_never) pss_nil)
      (pss_cons (ps_if (PW.pt (pw_or (pt_not (pt_val (pe_df D_is_integer_within (hr.mono (by decide)) (by rfl) (pa_cons (pv 2) (pa_cons (pe_un un_neg (pe_glob (v := .int 10000000000000000000000000000000000000000) rfl T.mgP ⟨_, rfl⟩)) (pa_cons (pe_glob (v := .int 10000000000000000000000000000000000000000) rfl T.mgP ⟨_, rfl⟩) pa_nil)))))) (pw_or1 (PW.pt (pw_and (pt_cmpR op_eq (pv 1) pe_int (nomark _)) (pw_and1 (pt_cmpR op_lt (pv 2) pe_int (nomark _)))))))) (pss_one ps_never) pss_nil)
      (pss_cons (ps_if (PW.pt (pw_or (pt_not (pt_val (pe_df D_is_integer_within (hr.mono (by decide)) (by rfl) (pa_cons (pv 3) (pa_cons pe_int (pa_cons (pe_glob (v := .int 10000000000000000000000000000000000000000) rfl T.mgP ⟨_, rfl⟩) pa_nil)))))) (pw_or1 (PW.pt (pw_and (pt_cmpR op_ne (pv 1) pe_int (nomark _)) (pw_and1 (pt_cmpR op_eq (pv 3) pe_int (nomark _)))))))) (pss_one ps_never) pss_nil)
      (pss_one (ps_fld (pv 0) (pe_df D_simplest_equation (hr.mono (by decide)) (by rfl) (pa_cons (pv 1) (pa_cons (pv 2) (pa_cons (pv 3) pa_nil)))) rfl))))), ?_⟩
    obtain ⟨sa, sb, sc⟩ := hB.sm
    obtain ⟨g, h1, h2, h3, h4⟩ := hB
    have a0 : 0 ≤ a ∧ 0 ≤ c := by
      rcases g with g | g <;> omega
    refine ⟨_, rfl, a, 0, _, rfl, a0.1, h1, true, rfl, iteF ?_⟩
    refine ⟨_, rfl, _, rfl, b, _, _, rfl, h2, h3, true, rfl, iteF ?_⟩
    refine both (fun rest => ⟨_, rfl, rfl, _, rfl, ite2 (fun e => ⟨_, rfl, _, _, rfl, rfl, _, rfl, ite2 (fun e2 => ?_) (fun _ => rest)⟩) (fun _ => iteF rest)⟩) ?_
    · have e3 : a = 0 := V.int.inj (of_decide_eq_true e)
      have e4 : b < 1 := of_decide_eq_true e2
      rcases g with g | g <;> omega
    refine ⟨_, rfl, c, 0, _, rfl, a0.2, h4, true, rfl, iteF ?_⟩
    refine both (fun rest => ⟨_, rfl, rfl, _, rfl, ite2 (fun e => ⟨_, rfl, rfl, _, rfl, ite2 (fun e2 => ?_) (fun _ => rest)⟩) (fun _ => iteF rest)⟩) ?_
    · have e3 : ¬ a = 0 := fun z => by
        have e5 : (!decide (V.int a = V.int 0)) = true := e
        rw [decide_eq_true (congrArg V.int z)] at e5
        cases e5
      have e4 : c = 0 := V.int.inj (of_decide_eq_true e2)
      rcases g with g | g <;> omega
    refine ⟨_, rfl, _, rfl, _, rfl, a, b, c, rfl, g, sa, sb, sc, fun H1 p sm np hp => ?_⟩
    have hx1 := sm _ _ hx
    have nxp : x ≠ p := ne_of hx1 hp (by intro z; cases z)
    refine ⟨_, rfl, x, Ce, dx, _, rfl, hx1, T.clE, T.nP, (by show 0 < 1000; decide), ?_⟩
    refine k _ ((But.of sm).trans But.upd) ⟨dx, p, upd_same, ?_⟩
    rw [upd_ne nxp.symm]
    exact hp
abbrev s_fraction_text : Stmt := top 18
abbrev s_with_commas : Stmt := top 57
abbrev s_Exact_str : Stmt := inClass (top 49) 7
abbrev s_Exact_repr : Stmt := inClass (top 49) 8
theorem sc_Exact_fraction : FnScope ["self", "square", "line", "whole"] ["self"] (defScope s_Exact_fraction) := ⟨rfl, rfl, rfl, by decide +kernel, rfl, by decide +kernel, by decide +kernel⟩

theorem ok_frac {f : Addr} {fd : FuncData} (F : Fun K "fraction" "Exact.fraction" s_Exact_fraction f fd) (T : Txt4 K mg tG t1 t2 t3 tP tC aO aW J C Ce Cl) : FnOk P w K mg base CX0 1 f fd ["self"] (spFrac Ce) := by
  refine F.ok sc_Exact_fraction (fun vs H Q E h => ?_) (fun cdv A outer s H vs Q E hr h => ?_)
  · obtain ⟨x, a, b, c, rfl, _⟩ := h
    rfl
  · obtain ⟨x, a, b, c, rfl, ⟨dx, pp, hx, hpp⟩, k1, k2⟩ := h
    refine ⟨_, (pss_cons (ps_asg (pe_fld (pv 0) rfl) (pg_tup rfl (pgs_cons (pg_name (i := 1) sc_Exact_fraction.nd rfl (.inl rfl)) (pgs_cons (pg_name (i := 2) sc_Exact_fraction.nd rfl (.inl rfl)) (pgs_cons (pg_name (i := 3) sc_Exact_fraction.nd rfl (.inl rfl)) pgs_nil)))))
      (pss_cons (ps_if (pt_cmpR op_eq (pv 1) pe_int (nomark _)) (pss_one (ps_ret (pe_tup (pa_cons (pv 3) (pa_cons (pv 2) pa_nil))))) pss_nil)
      (pss_one (ps_ret pe_non)))), ?_⟩
    refine ⟨_, rfl, x, Ce, dx, _, _, rfl, hx, T.clE, T.nP, rfl, pp, _, rfl, SqT.of hpp, rfl, _, _, rfl, _, _, rfl, _, _, rfl, rfl, ?_⟩
    refine ⟨_, rfl, rfl, _, rfl, ite2 (fun e => ?_) (fun e => ?_)⟩
    · have a0 : a = 0 := V.int.inj (of_decide_eq_true e)
      exact ⟨_, rfl, _, rfl, (by show 2 ≤ sizeLine; decide), fun q hq => k1 a0 _ q (same_upd hq) upd_same⟩
    · exact k2 fun z => e (decide_eq_true (congrArg V.int z))
theorem sc_Exact_equation : FnScope ["self"] ["self"] (defScope s_Exact_equation) := ⟨rfl, rfl, rfl, by decide +kernel, rfl, by decide +kernel, by decide +kernel⟩

theorem ok_eqn {f : Addr} {fd : FuncData} (F : Fun K "equation" "Exact.equation" s_Exact_equation f fd) (T : Txt4 K mg tG t1 t2 t3 tP tC aO aW J C Ce Cl) : FnOk P w K mg base CX0 1 f fd ["self"] (spEqn Ce) := by
  refine F.ok sc_Exact_equation (fun vs H Q E h => ?_) (fun cdv A outer s H vs Q E hr h => ?_)
  · obtain ⟨x, dx, p, rfl, _⟩ := h
    rfl
  · obtain ⟨x, dx, p, rfl, hx, k⟩ := h
    refine ⟨_, (pss_one (ps_ret (pe_fld (pv 0) rfl))), ?_⟩
    exact ⟨_, rfl, x, Ce, dx, _, _, rfl, hx, T.clE, T.nP, rfl, k⟩
end
end RL

/-! When two rows show the same: their four fractions. -/
namespace RL
theorem step_det (m : Mx) (p : Pc) : (stepM m p).a * (stepM m p).d - (stepM m p).b * (stepM m p).c = (if p.1 = true then 1 else p.2 * p.2) * (m.a * m.d - m.b * m.c) := by
  unfold stepM
  split <;> dsimp <;> grind
theorem fold_det (r : List Pc) : ∀ (m : Mx) (s : Int), m.a * m.d - m.b * m.c = s * s → (r.foldl stepM m).a * (r.foldl stepM m).d - (r.foldl stepM m).b * (r.foldl stepM m).c = (r.foldl stepS s) * (r.foldl stepS s) := by
  induction r with
  | nil => exact fun _ _ h => h
  | cons p r ih =>
    intro m s h
    rw [List.foldl_cons, List.foldl_cons]
    refine ih _ _ ?_
    rw [step_det, h]
    unfold stepS
    split
    · omega
    · grind
theorem matR_det (r : List Pc) : (matR r).a * (matR r).d - (matR r).b * (matR r).c = sclR r * sclR r := fold_det r m1 1 (by decide)
theorem sq_eq {x y : Int} (hx : 0 < x) (hy : 0 < y) (h : x * x = y * y) : x = y := by
  have e : (x - y) * (x + y) = 0 := by grind
  rcases Int.mul_eq_zero.mp e with z | z <;> omega
theorem three {A B C D s A' B' C' D' s' g1 k1 g2 k2 : Int} (hs : 0 < s) (hs' : 0 < s') (hg1 : 0 < g1) (hk1 : 0 < k1) (hg2 : 0 < g2) (hk2 : 0 < k2) (d : A * D - B * C = s * s) (d' : A' * D' - B' * C' = s' * s')
    (a1 : k1 * A = g1 * A') (c1 : k1 * C = g1 * C') (b2 : k2 * B = g2 * B') (d2 : k2 * D = g2 * D') (h3 : (A + B) * (C' + D') = (A' + B') * (C + D)) :
    A * s' = A' * s ∧ B * s' = B' * s ∧ C * s' = C' * s ∧ D * s' = D' * s := by
  have hss : 0 < s * s := Int.mul_pos hs hs
  have e1 : g2 * k1 * (s * s) = g1 * k2 * (s * s) := by
    have : g1 * g2 * ((A + B) * (C' + D')) = g1 * g2 * ((A' + B') * (C + D)) := by rw [h3]
    have l : g1 * g2 * ((A + B) * (C' + D')) = (A + B) * (g2 * (g1 * C') + g1 * (g2 * D')) := by grind
    have r : g1 * g2 * ((A' + B') * (C + D)) = (g2 * (g1 * A') + g1 * (g2 * B')) * (C + D) := by grind
    rw [l, r, ← c1, ← d2, ← a1, ← b2] at this
    rw [← d]
    grind
  have e2 : g2 * k1 = g1 * k2 := Int.eq_of_mul_eq_mul_right (by omega) e1
  have e3 : g1 * g2 * (s' * s') = k1 * k2 * (s * s) := by
    rw [← d, ← d']
    have : g1 * g2 * (A' * D' - B' * C') = (g1 * A') * (g2 * D') - (g2 * B') * (g1 * C') := by grind
    rw [this, ← a1, ← d2, ← b2, ← c1]
    grind
  have e4 : g2 * ((g1 * s') * (g1 * s')) = g2 * ((k1 * s) * (k1 * s)) := by
    have l : g2 * ((g1 * s') * (g1 * s')) = g1 * (g1 * g2 * (s' * s')) := by grind
    have r : g2 * ((k1 * s) * (k1 * s)) = (g2 * k1) * k1 * (s * s) := by grind
    rw [l, r, e3, e2]
    grind
  have e5 : (g1 * s') * (g1 * s') = (k1 * s) * (k1 * s) := Int.eq_of_mul_eq_mul_left (by omega) e4
  have e6 : g1 * s' = k1 * s := sq_eq (Int.mul_pos hg1 hs') (Int.mul_pos hk1 hs) e5
  have e7 : g2 * s' = k2 * s := by
    refine Int.eq_of_mul_eq_mul_left (a := g1) (by omega) ?_
    have l : g1 * (g2 * s') = g2 * (g1 * s') := by grind
    have r : g1 * (k2 * s) = (g1 * k2) * s := by grind
    rw [l, r, e6, ← e2]
    grind
  have fin : ∀ {g k X X' : Int}, 0 < g → k * X = g * X' → g * s' = k * s → X * s' = X' * s := fun {g k X X'} hg h1 h2 => by
    refine Int.eq_of_mul_eq_mul_left (a := g) (by omega) ?_
    have l : g * (X * s') = X * (g * s') := by grind
    have r : g * (X' * s) = (g * X') * s := by grind
    rw [l, r, h2, ← h1]
    grind
  exact ⟨fin hg1 a1 e6, fin hg2 b2 e7, fin hg1 c1 e6, fin hg2 d2 e7⟩
def fourOf (r : List Pc) : (Int × Int) × (Int × Int) × (Int × Int) × (Int × Int) := (low ((matR r).a, sclR r), low ((matR r).b, sclR r), low ((matR r).c, sclR r), low ((matR r).d, sclR r))
theorem low_frac_iff {x s x' s' : Int} (hs : 0 < s) (hs' : 0 < s') (h : x * s' = x' * s) : low (x, s) = low (x', s') := by
  obtain ⟨e1, e2⟩ := low_eq hs hs' h
  unfold low
  ext
  · exact e2
  · exact e1
end RL

/-! Limits of ladders: their equations, fixed points. -/
namespace RL
/-! ### a closer bound of a row's map -/
def MxLe (N : Int) (m : Mx) : Prop := 0 ≤ m.a ∧ m.a ≤ N ∧ 0 ≤ m.b ∧ m.b ≤ N ∧ 0 ≤ m.c ∧ m.c ≤ N ∧ 0 ≤ m.d ∧ m.d ≤ N
theorem step_le {m : Mx} {p : Pc} {N : Int} (hp : PcOk p) (h : MxLe N m) : MxLe (13 * N) (stepM m p) := by
  obtain ⟨a0, a1, b0, b1, c0, c1, d0, d1⟩ := h
  obtain ⟨o1, o2⟩ := hp
  have up : ∀ x : Int, 0 ≤ x → x ≤ N → 0 ≤ x * p.2 ∧ x * p.2 ≤ 12 * N := fun x h0 h1 => by
    refine ⟨Int.mul_nonneg h0 (by omega), ?_⟩
    have e1 : x * p.2 ≤ x * 12 := Int.mul_le_mul_of_nonneg_left o2 h0
    omega
  have ua := up _ a0 a1
  have ub := up _ b0 b1
  have uc := up _ c0 c1
  have ud := up _ d0 d1
  unfold stepM MxLe
  split <;> (dsimp only; omega)
theorem fold_le {r : List Pc} : ∀ {m : Mx} {N : Int}, RowOk r → MxLe N m → MxLe (13 ^ r.length * N) (r.foldl stepM m) := by
  induction r with
  | nil =>
    intro m N _ h
    show MxLe (13 ^ 0 * N) m
    rw [Int.pow_zero, Int.one_mul]
    exact h
  | cons p r ih =>
    intro m N hr h
    have := ih hr.tail (step_le hr.head h)
    rw [List.foldl_cons, show (p :: r).length = r.length + 1 from rfl, Int.pow_succ]
    rw [← Int.mul_assoc] at this
    exact this
theorem matR_le {r : List Pc} (hr : RowOk r) (l8 : r.length ≤ 8) : MxLe 815730721 (matR r) := by
  have h := fold_le (N := 1) hr (m := m1) ⟨by decide, by decide, by decide, by decide, by decide, by decide, by decide, by decide⟩
  have e : (13 : Int) ^ r.length * 1 ≤ 815730721 := by
    rw [Int.mul_one]
    have e8 : (13 : Int) ^ 8 = 815730721 := by decide
    rw [← e8]
    have h8 : (13 : Nat) ^ r.length ≤ 13 ^ 8 := Nat.pow_le_pow_right (by decide) l8
    have c1 : ((13 ^ r.length : Nat) : Int) = (13 : Int) ^ r.length := by rw [Int.natCast_pow]; rfl
    have c2 : ((13 ^ 8 : Nat) : Int) = (13 : Int) ^ 8 := by decide
    rw [← c1, ← c2]
    exact Int.ofNat_le.mpr h8
  obtain ⟨a0, a1, b0, b1, c0, c1, d0, d1⟩ := h
  exact ⟨a0, Int.le_trans a1 e, b0, Int.le_trans b1 e, c0, Int.le_trans c1 e, d0, Int.le_trans d1 e⟩
theorem sm30 {x : Int} (h0 : 0 ≤ x) (h1 : x ≤ 815730721) : Sm 30 x := by
  unfold Sm
  omega
theorem matR_sm30 {r : List Pc} (hr : RowOk r) (l8 : r.length ≤ 8) : MxSm 30 (matR r) := by
  obtain ⟨a0, a1, b0, b1, c0, c1, d0, d1⟩ := matR_le hr l8
  exact ⟨sm30 a0 a1, sm30 b0 b1, sm30 c0 c1, sm30 d0 d1⟩
/-! ### the equation of the limit -/
def eqL (r : List Pc) : Int × Int × Int := if (matR r).b = 0 then (0, 1, 0) else parts (matR r).c ((matR r).d - (matR r).a) (matR r).b
theorem fixed {m : Mx} {t u : Int} (h : m.c * t * t + (m.d - m.a) * t * u = m.b * u * u) : (m.app (t, u)).1 * u = t * (m.app (t, u)).2 := by
  unfold Mx.app
  dsimp only
  grind
def appN (m : Mx) : Nat → Int × Int → Int × Int
  | 0, e => e
  | n + 1, e => m.app (appN m n e)
theorem appN_pos {r : List Pc} {e : Int × Int} (hr : RowOk r) (h : Pos2 e) : ∀ n, Pos2 (appN (matR r) n e)
  | 0 => h
  | n + 1 => app_pos hr (appN_pos hr h n)
theorem appN_sm {r : List Pc} {e : Int × Int} {k : Nat} (hr : RowOk r) (l8 : r.length ≤ 8) (h1 : Sm k e.1) (h2 : Sm k e.2) : ∀ n, Sm (k + 31 * n) (appN (matR r) n e).1 ∧ Sm (k + 31 * n) (appN (matR r) n e).2
  | 0 => ⟨h1, h2⟩
  | n + 1 => by
    obtain ⟨i1, i2⟩ := appN_sm hr l8 h1 h2 n
    have := app_sm (matR_sm30 hr l8) i1 i2
    have e : k + 31 * (n + 1) = 30 + (k + 31 * n) + 1 := by omega
    rw [e]
    exact this
end RL

set_option maxHeartbeats 1000000
namespace RL
open PySem L2 PySem.Spec PyProof.Rows
structure IsC (K : PySem.W.Frag) (C : Addr) : Prop where
  ca : PySem.W.findIn K (.ref C) "__class__" = some (some (.builtin "object.__class__"))
  cn : PySem.W.specialIn K (.builtin "object.__class__") "__get__" = some (some (.builtin "getset_descriptor.__get__"))
  ct : PySem.W.takesIn K (.builtin "object.__class__") = some true
  cm : PySem.W.mroIn K C (.type "object") = some true
  is_ : PySem.W.kitOne K (.ref C) (.ref C) = some true
/-! ### methods, by position and by one keyword -/
structure Mt (P : Program) (w : World) (K : PySem.W.Frag) (mg : Str → Option Value) (base : Heap) (C : Addr) (k : Nat) (m p1 kw : Str) (sp : Sp) : Prop where
  ex : ∃ (f : Addr) (fd : FuncData), FnOk P w K mg base CX0 k f fd [p1, kw] sp ∧ Meth K C m f ∧ Binds K fd [p1, kw] [] ∧ (∀ (s : Shared) (u v : Value), K.In s.heap → BindsTo s fd ⟨[u], [(kw, v)]⟩ [(p1, u), (kw, v)])
def tMethK (C : Addr) (m : Str) (sp : Sp) (ta : TE) (tk : TA) : TE := fun σ H Q => ta σ H fun x H1 => ∃ a dx fs, x = .ref a ∧ H1 a = some (.ins C dx fs) ∧ fs.lookup m = none ∧ tk σ H1 fun zs H2 => sp (.ref a :: zs) H2 Q E0
section
variable {X : Cx} {k : Nat} {C : Addr} {sp : Sp} {m p1 kw : Str} {p pos apos kpos : Pos} {e o : Expr} {es : List Expr} {t : TA} {ta te : TE} {tk : TA}
theorem pe_dm {pl : Sem Bool} (he : PE X o ta) (c : Cls X.K C) (D : Mt X.prog X.w X.K X.mg X.base C k m p1 kw sp) (hr : Room k X.A) (ha : PA X (e :: es) t)
    (hst : starEach (e :: es) X.env = (false, eval e X.env) :: starEach es X.env := by rfl) (hpl : (backTo pos (starEach es X.env)).any (·.1) = false := by rfl)
    (ht : eval (.Call (.Attribute o m apos) (e :: es) [] pos) X.env = (do
      let ov ← eval o X.env
      standAt apos.atName
      let (f, first) ← holding [ov] (getMethod ov m pl)
      callWith pos f first (backTo pos (starEach (e :: es) X.env)) (backToKw pos (keywordEach [] X.env))) := by rfl) :
    PE X (.Call (.Attribute o m apos) (e :: es) [] pos) (tMeth C m sp [] E0 ta t) := by
  obtain ⟨f, fd, F, hm, hb, _⟩ := D.ex
  exact pe_meth (pl := pl) he c hm F hr hb .nil pass0 ha hst hpl ht
end
theorem PatAt.butX {C : Addr} {H H' : Hp} {x c : Addr} {r : List Pc} (h : PatAt C H x r) (hc : ∀ xs, H c ≠ some (.tup xs)) (nx : x ≠ c) (s : But c H H') : PatAt C H' x r := by
  obtain ⟨dx, q, m, f, ws, f1, f2, f3, f4, h1, h2, h3, h4, h5, h6, h7, h8, h9⟩ := h
  have st : ∀ {a : Addr} {xs : List V}, H a = some (.tup xs) → H' a = some (.tup xs) := fun {a xs} e => s _ _ (fun z => hc xs (z ▸ e)) e
  exact ⟨dx, q, m, f, ws, f1, f2, f3, f4, s _ _ nx h1, st h2, h3.but s hc, st h4, st h5, st h6, st h7, st h8, st h9⟩
def LimAt (aO Ce : Addr) (H : Hp) (v : V) (r : List Pc) : Prop := ((matR r).c = 0 ∧ v = .ref aO) ∨ ((matR r).c ≠ 0 ∧ ∃ x, v = .ref x ∧ ExAt Ce H x (eqL r).1 (eqL r).2.1 (eqL r).2.2)
theorem LimAt.same {aO Ce : Addr} {H H' : Hp} {v : V} {r : List Pc} (h : LimAt aO Ce H v r) (s : Same H H') : LimAt aO Ce H' v r := by
  rcases h with h | ⟨h, x, e, hx⟩
  · exact .inl h
  · exact .inr ⟨h, x, e, hx.same s⟩
def LF (p q : Addr) (v : V) : List (Str × V) := [("section", .ref p), ("behind", .ref q), ("far", v)]
def LadAt (C aO Ce Cl : Addr) (H : Hp) (x : Addr) (r : List Pc) (e : Int × Int) : Prop := ∃ (dx p q : Addr) (v : V), H x = some (.ins Cl dx (LF p q v)) ∧ PatAt C H p r ∧ PairAt H q e ∧ LimAt aO Ce H v r
theorem LadAt.same {C aO Ce Cl : Addr} {H H' : Hp} {x : Addr} {r : List Pc} {e : Int × Int} (h : LadAt C aO Ce Cl H x r e) (s : Same H H') : LadAt C aO Ce Cl H' x r e := by
  obtain ⟨dx, p, q, v, h1, h2, h3, h4⟩ := h
  exact ⟨dx, p, q, v, s _ _ h1, h2.same s, s _ _ h3, h4.same s⟩
theorem nsb : (("section" : Str) == ("behind" : Str)) = false := by decide +kernel
theorem nsf : (("section" : Str) == ("far" : Str)) = false := by decide +kernel
theorem nbf : (("behind" : Str) == ("far" : Str)) = false := by decide +kernel
theorem nbs : (("behind" : Str) == ("section" : Str)) = false := by decide +kernel
theorem nfs : (("far" : Str) == ("section" : Str)) = false := by decide +kernel
theorem nfb : (("far" : Str) == ("behind" : Str)) = false := by decide +kernel
theorem putB (a v : V) : putF "behind" v [("section", a)] = ([("section", a), ("behind", v)] : List (Str × V)) := by
  unfold putF
  rw [if_neg (str_ne nsb)]
  rfl
theorem putFar (a b v : V) : putF "far" v [("section", a), ("behind", b)] = ([("section", a), ("behind", b), ("far", v)] : List (Str × V)) := by
  unfold putF
  rw [if_neg (str_ne nsf)]
  unfold putF
  rw [if_neg (str_ne nbf)]
  rfl
theorem lkS (p q : Addr) (v : V) : (LF p q v).lookup ("section" : Str) = some (.ref p) := by
  simp [LF, List.lookup]
theorem lkB (p q : Addr) (v : V) : (LF p q v).lookup ("behind" : Str) = some (.ref q) := by
  simp [LF, List.lookup, nbs]
theorem lkAf (p q : Addr) (v : V) : (LF p q v).lookup ("after" : Str) = none := by
  have h1 : (("after" : Str) == ("section" : Str)) = false := by decide +kernel
  have h2 : (("after" : Str) == ("behind" : Str)) = false := by decide +kernel
  have h3 : (("after" : Str) == ("far" : Str)) = false := by decide +kernel
  simp [LF, List.lookup, h1, h2, h3]
theorem lkFar (p q : Addr) (v : V) : (LF p q v).lookup ("far" : Str) = some v := by
  simp [LF, List.lookup, nfs, nfb]
def spCount : Sp := fun vs H Q _ => ∃ n : Int, vs = [.int n] ∧ 0 ≤ n ∧ n ≤ 100 ∧ Q (.bl true) H
def spPO : Sp := fun vs H Q _ => ∃ (a b : Addr) (e f : Int × Int), vs = [.ref a, .ref b] ∧ PairAt H a e ∧ PairAt H b f ∧ Sm 50000 e.1 ∧ Sm 50000 e.2 ∧ Sm 50000 f.1 ∧ Sm 50000 f.2 ∧ Q (.int (sg (e.1 * f.2 - f.1 * e.2))) H
def spChkP (C : Addr) : Sp := fun vs H Q _ => ∃ (x dx : Addr) (fs : List (Str × V)), vs = [.ref x] ∧ H x = some (.ins C dx fs) ∧ Q .non H
def spChkR : Sp := fun vs H Q _ => ∃ (v : V) (e : Int × Int), vs = [v] ∧ LoadAt H v e ∧ Q .non H
def spChkC : Sp := fun vs H Q _ => ∃ n : Int, vs = [.int n] ∧ 0 ≤ n ∧ n ≤ 100 ∧ Q .non H
def spAfter (C aO Ce Cl : Addr) : Sp := fun vs H Q _ => ∃ (x t : Addr) (r : List Pc) (e e' : Int × Int), vs = [.ref x, .ref t] ∧ LadAt C aO Ce Cl H x r e ∧ PairAt H t e' ∧ RowOk r ∧ r.length ≤ 8 ∧ Sm 50000 e'.1 ∧ Sm 50000 e'.2 ∧
  ∀ H' p, Same H H' → H p = none → PairAt H' p ((matR r).app e') → Q (.ref p) H'
def spLim (aO Ce : Addr) : Sp := fun vs H Q _ => ∃ (a : Addr) (r : List Pc), vs = [.ref a] ∧ H a = some (.tup (MatT (matR r))) ∧ RowOk r ∧ r.length ≤ 8 ∧ ∀ H' v, Same H H' → LimAt aO Ce H' v r → Q v H'
def spLad (C aO Ce Cl : Addr) : Sp := fun vs H Q _ => ∃ (x dx p : Addr) (v : V) (r : List Pc) (e : Int × Int), vs = [.ref x, .ref p, v] ∧ H x = some (.ins Cl dx []) ∧ PatAt C H p r ∧ RowOk r ∧ r.length ≤ 8 ∧ LoadAt H v e ∧
  ∀ H', But x H H' → LadAt C aO Ce Cl H' x r (low e) → Q .non H'
def spLCall (C aO Ce Cl : Addr) : Sp := fun vs H Q _ => ∃ (x : Addr) (n : Int) (r : List Pc) (e : Int × Int), vs = [.ref x, .int n] ∧ LadAt C aO Ce Cl H x r e ∧ RowOk r ∧ r.length ≤ 8 ∧ Pos2 e ∧ Sm 41 e.1 ∧ Sm 41 e.2 ∧ 0 ≤ n ∧ n ≤ 100 ∧
  ∀ H' p, Same H H' → H p = none → PairAt H' p (low (appN (matR r) n.toNat e)) → Q (.ref p) H'
def spGoes (C aO Ce Cl : Addr) : Sp := fun vs H Q _ => ∃ (x : Addr) (r : List Pc) (e : Int × Int), vs = [.ref x] ∧ LadAt C aO Ce Cl H x r e ∧ RowOk r ∧ r.length ≤ 8 ∧ Sm 1000 e.1 ∧ Sm 1000 e.2 ∧
  ∀ H', Same H H' → Q (.int (sg (((matR r).app e).1 * e.2 - e.1 * ((matR r).app e).2))) H'
def spLimit (C aO Ce Cl : Addr) : Sp := fun vs H Q _ => ∃ (x : Addr) (r : List Pc) (e : Int × Int), vs = [.ref x] ∧ LadAt C aO Ce Cl H x r e ∧ ∀ v, LimAt aO Ce H v r → Q v H
structure LadD (P : Program) (w : World) (K : PySem.W.Frag) (mg : Str → Option Value) (base : Heap) (C aO Ce Cl f : Addr) (fd : FuncData) : Prop where
  m : Mk K Cl f
  fn : FnOk P w K mg base CX0 8 f fd ["self", "pattern", "load"] (spLad C aO Ce Cl)
  bd : Binds K fd ["self", "pattern", "load"] []
structure OwL (P : Program) (w : World) (K : PySem.W.Frag) (mg : Str → Option Value) (base : Heap) (C aO Ce Cl g : Addr) (fd : FuncData) : Prop where
  co : StX.CallO K Cl g
  ok : FnOk P w K mg base CX0 5 g fd ["self", "count"] (spLCall C aO Ce Cl)
  fr : FnR P w K mg base CX0 5 g (spLCall C aO Ce Cl)
structure OwG (P : Program) (w : World) (K : PySem.W.Frag) (mg : Str → Option Value) (base : Heap) (C aO Ce Cl p g : Addr) (fd : FuncData) : Prop where
  pr : PropOf K Cl "goes" p g
  ok : FnOk P w K mg base CX0 3 g fd ["self"] (spGoes C aO Ce Cl)
  b : Binds K fd ["self"] []
structure OwM (P : Program) (w : World) (K : PySem.W.Frag) (mg : Str → Option Value) (base : Heap) (C aO Ce Cl p g : Addr) (fd : FuncData) : Prop where
  pr : PropOf K Cl "limit" p g
  ok : FnOk P w K mg base CX0 1 g fd ["self"] (spLimit C aO Ce Cl)
  b : Binds K fd ["self"] []
structure OwQ (P : Program) (w : World) (K : PySem.W.Frag) (mg : Str → Option Value) (base : Heap) (Ce p g : Addr) (fd : FuncData) : Prop where
  pr : PropOf K Ce "equation" p g
  ok : FnOk P w K mg base CX0 1 g fd ["self"] (spEqn Ce)
  b : Binds K fd ["self"] []
structure OwF (P : Program) (w : World) (K : PySem.W.Frag) (mg : Str → Option Value) (base : Heap) (Ce p g : Addr) (fd : FuncData) : Prop where
  pr : PropOf K Ce "fraction" p g
  ok : FnOk P w K mg base CX0 1 g fd ["self"] (spFrac Ce)
  b : Binds K fd ["self"] []
theorem parts010 : parts 0 1 0 = (0, 1, 0) := by decide
theorem make_lim {aO Ce : Addr} {H : Hp} {r : List Pc} {a b c : Int} {Q : V → Hp → Prop} (hB : Big a b c) (hc : (matR r).c ≠ 0) (he : eqL r = parts a b c) (k : ∀ H' v, Same H H' → LimAt aO Ce H' v r → Q v H') :
    ∀ z dz, H z = none → H dz = none → dz ≠ z → spInit Ce [.ref z, .int a, .int b, .int c] (upd (upd H dz (.own z)) z (.ins Ce dz [])) (fun v H3 => v = .non ∧ Q (.ref z) H3) E0 := by
  intro z dz nz ndz nez
  refine ⟨z, dz, a, b, c, rfl, upd_same, hB, fun H' bz hE => ⟨rfl, k H' _ (fun b' o e => ?_) (.inr ⟨hc, z, rfl, ?_⟩)⟩⟩
  · refine bz _ _ (ne_of_none e nz) ?_
    rw [upd_ne (ne_of_none e nz), upd_ne (ne_of_none e ndz)]
    exact e
  · rw [he]
    exact hE
section
variable {P : Program} {w : World} {K : PySem.W.Frag} {mg : Str → Option Value} {base : Heap} {tG t1 t2 t3 tP tC : Tok} {aO aW J C Ce Cl fP fJ : Addr} {fdJ : FuncData}
theorem sc_is_count : FnScope ["value"] ["value"] (defScope s_is_count) := ⟨rfl, rfl, rfl, by decide +kernel, rfl, by decide +kernel, by decide +kernel⟩

theorem ok_count {f : Addr} {fd : FuncData} (F : Fun K "is_count" "is_count" s_is_count f fd) (T : Txt4 K mg tG t1 t2 t3 tP tC aO aW J C Ce Cl) (D_is_integer_within : Df P w K mg base 2 "is_integer_within" ["value", "least", "most"] spWithin) : FnOk P w K mg base CX0 3 f fd ["value"] spCount := by
  refine F.ok sc_is_count (fun vs H Q E h => ?_) (fun cdv A outer s H vs Q E hr h => ?_)
  · obtain ⟨n, rfl, _⟩ := h
    rfl
  · obtain ⟨n, rfl, n0, n1, k⟩ := h
    refine ⟨_, (pss_one (ps_ret (pe_df D_is_integer_within (hr.mono (by decide)) (by rfl) (pa_cons (pv 0) (pa_cons pe_int (pa_cons (pe_glob (v := .int 100) rfl T.mgCo ⟨_, rfl⟩) pa_nil)))))), ?_⟩
    exact ⟨_, rfl, n, 0, 100, rfl, n0, n1, k⟩
theorem sc_pair_order : FnScope ["first", "second"] ["first", "second"] (defScope s_pair_order) := ⟨rfl, rfl, rfl, by decide +kernel, rfl, by decide +kernel, by decide +kernel⟩

theorem ok_po {f : Addr} {fd : FuncData} (F : Fun K "pair_order" "pair_order" s_pair_order f fd) (D_sign : Df P w K mg base 1 "sign" ["number"] spSign) : FnOk P w K mg base CX0 2 f fd ["first", "second"] spPO := by
  refine F.ok sc_pair_order (fun vs H Q E h => ?_) (fun cdv A outer s H vs Q E hr h => ?_)
  · obtain ⟨a, b, e, f, rfl, _⟩ := h
    rfl
  · obtain ⟨a, b, e, f, rfl, ha, hb, e1, e2, f1, f2, k⟩ := h
    refine ⟨_, (pss_one (ps_ret (pe_df D_sign (hr.mono (by decide)) (by rfl) (pa_cons (pe_op op_sub (pe_op op_mulX (pe_ix ix_tup (pv 0) pe_int (fun _ _ => rfl)) (pe_ix ix_tup (pv 1) pe_int (fun _ _ => rfl))) (pe_op op_mulX (pe_ix ix_tup (pv 1) pe_int (fun _ _ => rfl)) (pe_ix ix_tup (pv 0) pe_int (fun _ _ => rfl)))) pa_nil)))), ?_⟩
    refine ⟨_, rfl, a, _, _, _, rfl, rfl, SqT.of ha, atI_nat (j := 0) rfl, _, rfl, b, _, _, _, rfl, rfl, SqT.of hb, atI_nat (j := 1) rfl, _, _, rfl, rfl, mx e1 f2, ?_⟩
    exact ⟨_, rfl, b, _, _, _, rfl, rfl, SqT.of hb, atI_nat (j := 0) rfl, _, rfl, a, _, _, _, rfl, rfl, SqT.of ha, atI_nat (j := 1) rfl, _, _, rfl, rfl, mx f1 e2, _, _, rfl, rfl, _, rfl, k⟩
theorem sc_check_pattern : FnScope ["value"] ["value"] (defScope s_check_pattern) := ⟨rfl, rfl, rfl, by decide +kernel, rfl, by decide +kernel, by decide +kernel⟩

theorem ok_chkp {f : Addr} {fd : FuncData} (F : Fun K "check_pattern" "check_pattern" s_check_pattern f fd) (T : Txt4 K mg tG t1 t2 t3 tP tC aO aW J C Ce Cl) (I : IsC K C) : FnOk P w K mg base CX0 1 f fd ["value"] (spChkP C) := by
  refine F.ok sc_check_pattern (fun vs H Q E h => ?_) (fun cdv A outer s H vs Q E hr h => ?_)
  · obtain ⟨x, dx, fs, rfl, _⟩ := h
    rfl
  · obtain ⟨x, dx, fs, rfl, hx, k⟩ := h
    refine ⟨_, (pss_one (ps_if (pt_not (pt_val (pe_callB call_isi (by rfl) T.isinstance (by decide +kernel) (pa_cons (pv 0) (pa_cons (pe_glob (v := .ref C) rfl T.mgC rfl) pa_nil))))) (pss_one ps_never) pss_nil)), ?_⟩
    exact ⟨_, rfl, _, _, _, _, true, rfl, .own C, .base (.ins hx T.cl I.ca I.cn I.ct I.cm), I.is_, true, rfl, iteF k⟩
theorem sc_check_resistance : FnScope ["value"] ["value"] (defScope s_check_resistance) := ⟨rfl, rfl, rfl, by decide +kernel, rfl, by decide +kernel, by decide +kernel⟩

theorem ok_chkr {f : Addr} {fd : FuncData} (F : Fun K "check_resistance" "check_resistance" s_check_resistance f fd) (D_is_resistance : Df P w K mg base 3 "is_resistance" ["value"] spIsRes) : FnOk P w K mg base CX0 4 f fd ["value"] spChkR := by
  refine F.ok sc_check_resistance (fun vs H Q E h => ?_) (fun cdv A outer s H vs Q E hr h => ?_)
  · obtain ⟨v, e, rfl, _⟩ := h
    rfl
  · obtain ⟨v, e, rfl, hv, k⟩ := h
    refine ⟨_, (pss_one (ps_if (pt_not (pt_val (pe_df D_is_resistance (hr.mono (by decide)) (by rfl) (pa_cons (pv 0) pa_nil)))) (pss_one ps_never) pss_nil)), ?_⟩
    rcases hv with ⟨i, rfl, i0, i1, rfl⟩ | ⟨t, rfl, ht, hR⟩
    · exact ⟨_, rfl, .inl ⟨i, rfl, i0, i1, true, rfl, iteF k⟩⟩
    · exact ⟨_, rfl, .inr ⟨t, _, _, rfl, ht, hR, true, rfl, iteF k⟩⟩
theorem sc_check_count : FnScope ["value"] ["value"] (defScope s_check_count) := ⟨rfl, rfl, rfl, by decide +kernel, rfl, by decide +kernel, by decide +kernel⟩

theorem ok_chkc {f : Addr} {fd : FuncData} (F : Fun K "check_count" "check_count" s_check_count f fd) (D_is_count : Df P w K mg base 3 "is_count" ["value"] spCount) : FnOk P w K mg base CX0 4 f fd ["value"] spChkC := by
  refine F.ok sc_check_count (fun vs H Q E h => ?_) (fun cdv A outer s H vs Q E hr h => ?_)
  · obtain ⟨n, rfl, _⟩ := h
    rfl
  · obtain ⟨n, rfl, n0, n1, k⟩ := h
    refine ⟨_, (pss_one (ps_if (pt_not (pt_val (pe_df D_is_count (hr.mono (by decide)) (by rfl) (pa_cons (pv 0) pa_nil)))) (pss_one ps_never) pss_nil)), ?_⟩
    exact ⟨_, rfl, n, rfl, n0, n1, true, rfl, iteF k⟩
theorem sc_ladder_limit : FnScope ["matrix", "a", "b", "c", "d"] ["matrix"] (defScope s_ladder_limit) := ⟨rfl, rfl, rfl, by decide +kernel, rfl, by decide +kernel, by decide +kernel⟩

theorem ok_lim {f : Addr} {fd : FuncData} (F : Fun K "ladder_limit" "ladder_limit" s_ladder_limit f fd) (T : Txt4 K mg tG t1 t2 t3 tP tC aO aW J C Ce Cl) (X_exact : ExD P w K mg base Ce) : FnOk P w K mg base CX0 7 f fd ["matrix"] (spLim aO Ce) := by
  refine F.ok sc_ladder_limit (fun vs H Q E h => ?_) (fun cdv A outer s H vs Q E hr h => ?_)
  · obtain ⟨a, r, rfl, _⟩ := h
    rfl
  · obtain ⟨a, r, rfl, ha, hok, l8, k⟩ := h
    refine ⟨_, (pss_cons (ps_asg (pv 0) (pg_tup rfl (pgs_cons (pg_name (i := 1) sc_ladder_limit.nd rfl (.inl rfl)) (pgs_cons (pg_name (i := 2) sc_ladder_limit.nd rfl (.inl rfl)) (pgs_cons (pg_name (i := 3) sc_ladder_limit.nd rfl (.inl rfl)) (pgs_cons (pg_name (i := 4) sc_ladder_limit.nd rfl (.inl rfl)) pgs_nil))))))
      (pss_cons (ps_if (pt_cmpR op_eq (pv 3) pe_int (nomark _)) (pss_one (ps_ret (pe_glob (v := .ref aO) rfl T.mgO rfl))) pss_nil)
      (pss_cons (ps_if (pt_cmpR op_eq (pv 2) pe_int (nomark _)) (pss_one (ps_ret (pe_exact X_exact (hr.mono (by decide)) rfl T.mgE (pa_cons pe_int (pa_cons pe_int (pa_cons pe_int pa_nil)))))) pss_nil)
      (pss_one (ps_ret (pe_exact X_exact (hr.mono (by decide)) rfl T.mgE (pa_cons (pv 3) (pa_cons (pe_op op_sub (pv 4) (pv 1)) (pa_cons (pv 2) pa_nil))))))))), ?_⟩
    obtain ⟨a0, a1, b0, b1, c0, c1, d0, d1⟩ := matR_le hok l8
    refine ⟨_, rfl, a, _, rfl, SqT.of ha, rfl, _, _, rfl, _, _, rfl, _, _, rfl, _, _, rfl, rfl, ?_⟩
    refine ⟨_, rfl, rfl, _, rfl, ite2 (fun e => ?_) (fun e => ?_)⟩
    · exact k _ _ (Same.refl _) (.inl ⟨V.int.inj (of_decide_eq_true e), rfl⟩)
    have cn : (matR r).c ≠ 0 := fun z => e (decide_eq_true (congrArg V.int z))
    refine ⟨_, rfl, rfl, _, rfl, ite2 (fun e2 => ?_) (fun e2 => ?_)⟩
    · have bz : (matR r).b = 0 := V.int.inj (of_decide_eq_true e2)
      exact make_lim ⟨.inl ⟨rfl, by decide, by decide⟩, by decide, by decide, by decide, by decide⟩ cn (by unfold eqL; rw [if_pos bz, parts010]) k
    · have bn : (matR r).b ≠ 0 := fun z => e2 (decide_eq_true (congrArg V.int z))
      refine ⟨_, rfl, _, rfl, _, rfl, _, _, rfl, rfl, _, rfl, ?_⟩
      exact make_lim ⟨.inr ⟨by omega, by omega⟩, by omega, by omega, by omega, by omega⟩ cn (by unfold eqL; rw [if_neg bn]) k
theorem sc_Ladder_init : FnScope ["self", "pattern", "load"] ["self", "pattern", "load"] (defScope s_Ladder_init) := ⟨rfl, rfl, rfl, by decide +kernel, rfl, by decide +kernel, by decide +kernel⟩

theorem ok_lad {f : Addr} {fd : FuncData} (F : Fun K "__init__" "Ladder.__init__" s_Ladder_init f fd) (T : Txt4 K mg tG t1 t2 t3 tP tC aO aW J C Ce Cl) (D_check_pattern : Df P w K mg base 1 "check_pattern" ["value"] (spChkP C)) (D_check_resistance : Df P w K mg base 4 "check_resistance" ["value"] spChkR) (D_lowest_pair : Df P w K mg base 3 "lowest_pair" ["fraction_or_open"] spLowP) (D_ladder_limit : Df P w K mg base 7 "ladder_limit" ["matrix"] (spLim aO Ce)) :
    FnOk P w K mg base CX0 8 f fd ["self", "pattern", "load"] (spLad C aO Ce Cl) := by
  refine F.ok sc_Ladder_init (fun vs H Q E h => ?_) (fun cdv A outer s H vs Q E hr h => ?_)
  · obtain ⟨x, dx, p, v, r, e, rfl, _⟩ := h
    rfl
  · obtain ⟨x, dx, p, v, r, e, rfl, hx, hP, hok, l8, hL, k⟩ := h
    refine ⟨_, (pss_cons (ps_expr (pe_df D_check_pattern (hr.mono (by decide)) (by rfl) (pa_cons (pv 1) pa_nil)))
      (pss_cons (ps_expr (pe_df D_check_resistance (hr.mono (by decide)) (by rfl) (pa_cons (pv 2) pa_nil)))
      (pss_cons (ps_fld (pv 0) (pv 1) rfl)
      (pss_cons (ps_fld (pv 0) (pe_df D_lowest_pair (hr.mono (by decide)) (by rfl) (pa_cons (pv 2) pa_nil)) rfl)
      (pss_one (ps_fld (pv 0) (pe_df D_ladder_limit (hr.mono (by decide)) (by rfl) (pa_cons (pe_fld (pv 1) rfl) pa_nil)) rfl)))))), ?_⟩
    have ep := hL.pos
    obtain ⟨es1, es2⟩ := hL.sm
    have hP0 := hP
    obtain ⟨dp, q, m, f', ws, f1, f2, f3, f4, hp, hq, hw, hm, _⟩ := hP0
    have npx : p ≠ x := ne_of hp hx (by intro z; cases z)
    refine ⟨_, rfl, p, dp, _, rfl, hp, ?_⟩
    refine ⟨_, rfl, v, e, rfl, hL, ?_⟩
    have fin : ∀ (H1 H2 H3 : Hp) (t2 : Addr) (v3 : V), Same H H1 → Same (upd H1 x (.ins Cl dx [("section", .ref p)])) H2 → PairAt H2 t2 (low e) → Same (upd H2 x (.ins Cl dx [("section", .ref p), ("behind", .ref t2)])) H3 → LimAt aO Ce H3 v3 r →
        But x H (upd H3 x (.ins Cl dx (LF p t2 v3))) ∧ LadAt C aO Ce Cl (upd H3 x (.ins Cl dx (LF p t2 v3))) x r (low e) := fun H1 H2 H3 t2 v3 s1 s2 ht s3 hv => by
      have hx1 := s1 _ _ hx
      have hx2 := s2 _ _ (upd_same (H := H1) (a := x) (o := .ins Cl dx [("section", .ref p)]))
      have hx3 := s3 _ _ (upd_same (H := H2) (a := x) (o := .ins Cl dx [("section", .ref p), ("behind", .ref t2)]))
      have nt : ∀ {Hh : Hp} {fs : List (Str × V)}, Hh x = some (.ins Cl dx fs) → ∀ xs, Hh x ≠ some (.tup xs) := fun h xs z => by rw [h] at z; cases z
      have b1 : But x H1 (upd H1 x (.ins Cl dx [("section", .ref p)])) := But.upd
      have b2 : But x H2 (upd H2 x (.ins Cl dx [("section", .ref p), ("behind", .ref t2)])) := But.upd
      have b3 : But x H3 (upd H3 x (.ins Cl dx (LF p t2 v3))) := But.upd
      have P1 := ((hP.same s1).butX (nt hx1) npx b1).same s2
      have P3 := (P1.butX (nt hx2) npx b2).same s3
      have t2x : t2 ≠ x := ne_of ht hx2 (by intro z; cases z)
      have ht3 : PairAt H3 t2 (low e) := s3 _ _ (b2 _ _ t2x ht)
      refine ⟨((((But.of s1).trans b1).trans (But.of s2)).trans b2).trans ((But.of s3).trans b3), dx, p, t2, v3, upd_same, P3.butX (nt hx3) npx b3, b3 _ _ t2x ht3, ?_⟩
      rcases hv with hv | ⟨hc, y, ey, dy, py, hy, hpy⟩
      · exact .inl hv
      · have : y ≠ x := fun z => by
          rw [z, hx3] at hy
          cases hy
        exact .inr ⟨hc, y, ey, dy, py, b3 _ _ this hy, b3 _ _ (ne_of hpy hx3 (by intro z; cases z)) hpy⟩
    have s1 : Same H H := Same.refl _
    refine ⟨_, rfl, _, rfl, x, Cl, dx, _, rfl, hx, T.clL, T.nSec, (by show 0 < 1000; decide), ?_⟩
    have hv1 : (∃ i, v = .int i ∧ e = (i, 1)) ∨ (∃ p', v = .ref p' ∧ (upd H x (.ins Cl dx [("section", .ref p)])) p' = some (.tup [.int e.1, .int e.2])) := by
      rcases hL with ⟨i, rfl, i0, i1, rfl⟩ | ⟨t, rfl, ht, hR⟩
      · exact .inl ⟨i, rfl, rfl⟩
      · refine .inr ⟨t, rfl, ?_⟩
        rw [upd_ne (ne_of ht hx (by intro z; cases z))]
        exact ht
    refine ⟨_, rfl, _, e, rfl, hv1, ep, es1.mono (by decide), es2.mono (by decide), fun H2 t2 s2 nt2 ht2 => ?_⟩
    have hx2 := s2 _ _ (upd_same (H := H) (a := x) (o := .ins Cl dx [("section", .ref p)]))
    refine ⟨_, rfl, x, Cl, dx, _, rfl, hx2, T.clL, T.nBeh, (by show 1 < 1000; decide), ?_⟩
    rw [putB]
    have hp3 : (upd H2 x (.ins Cl dx [("section", .ref p), ("behind", .ref t2)])) p = some (.ins C dp (PF q m f' (sclR r))) := by
      rw [upd_ne npx]
      refine s2 _ _ ?_
      rw [upd_ne npx]
      exact hp
    have hm3 : (upd H2 x (.ins Cl dx [("section", .ref p), ("behind", .ref t2)])) m = some (.tup (MatT (matR r))) := by
      have nmx : m ≠ x := ne_of hm hx (by intro z; cases z)
      rw [upd_ne nmx]
      refine s2 _ _ ?_
      rw [upd_ne nmx]
      exact hm
    refine ⟨_, rfl, p, C, dp, _, _, rfl, hp3, T.cl, T.nMat, lkM _ _ _, m, r, rfl, hm3, hok, l8, fun H3 v3 s3 hv3 => ?_⟩
    refine ⟨_, rfl, x, Cl, dx, _, rfl, s3 _ _ upd_same, T.clL, T.nFar, (by show 2 < 1000; decide), ?_⟩
    rw [putFar]
    obtain ⟨z1, z2⟩ := fin H H2 H3 t2 v3 s1 s2 ht2 s3 hv3
    exact k _ z1 z2
theorem sc_Ladder_after : FnScope ["self", "pair"] ["self", "pair"] (defScope s_Ladder_after) := ⟨rfl, rfl, rfl, by decide +kernel, rfl, by decide +kernel, by decide +kernel⟩

theorem ok_after {f : Addr} {fd : FuncData} (F : Fun K "after" "Ladder.after" s_Ladder_after f fd) (T : Txt4 K mg tG t1 t2 t3 tP tC aO aW J C Ce Cl) (D_shown_before : Df P w K mg base 1 "shown_before" ["matrix", "pair"] spShown) : FnOk P w K mg base CX0 2 f fd ["self", "pair"] (spAfter C aO Ce Cl) := by
  refine F.ok sc_Ladder_after (fun vs H Q E h => ?_) (fun cdv A outer s H vs Q E hr h => ?_)
  · obtain ⟨x, t, r, e, e', rfl, _⟩ := h
    rfl
  · obtain ⟨x, t, r, e, e', rfl, ⟨dx, p, q, v, hx, hP, hq, hv⟩, ht, hok, l8, es1, es2, k⟩ := h
    refine ⟨_, (pss_one (ps_ret (pe_df D_shown_before (hr.mono (by decide)) (by rfl) (pa_cons (pe_fld (pe_fld (pv 0) rfl) rfl) (pa_cons (pv 1) pa_nil))))), ?_⟩
    obtain ⟨dp, q', m, f', ws, f1, f2, f3, f4, hp, hq', hw, hm, _⟩ := hP
    exact ⟨_, rfl, x, Cl, dx, _, _, rfl, hx, T.clL, T.nSec, lkS _ _ _, p, C, dp, _, _, rfl, hp, T.cl, T.nMat, lkM _ _ _, _, rfl, m, t, matR r, _, rfl, hm, ht, (matR_sm30 hok l8).mono (by decide), es1, es2, k⟩
theorem sc_Ladder_call : FnScope ["self", "count", "pair", "number"] ["self", "count"] (defScope s_Ladder_call) := ⟨rfl, rfl, rfl, by decide +kernel, rfl, by decide +kernel, by decide +kernel⟩

theorem ok_lcall {f : Addr} {fd : FuncData} (F : Fun K "__call__" "Ladder.__call__" s_Ladder_call f fd) (T : Txt4 K mg tG t1 t2 t3 tP tC aO aW J C Ce Cl) (D_check_count : Df P w K mg base 4 "check_count" ["value"] spChkC) (M_after : Mt P w K mg base Cl 2 "after" "self" "pair" (spAfter C aO Ce Cl)) (D_lowest_pair : Df P w K mg base 3 "lowest_pair" ["fraction_or_open"] spLowP) : FnOk P w K mg base CX0 5 f fd ["self", "count"] (spLCall C aO Ce Cl) := by
  refine F.ok sc_Ladder_call (fun vs H Q E h => ?_) (fun cdv A outer s H vs Q E hr h => ?_)
  · obtain ⟨x, n, r, e, rfl, _⟩ := h
    rfl
  · obtain ⟨x, n, r, e, rfl, hLd, hok, l8, ep, es1, es2, n0, n1, k⟩ := h
    refine ⟨_, (pss_cons (ps_expr (pe_df D_check_count (hr.mono (by decide)) (by rfl) (pa_cons (pv 1) pa_nil)))
      (pss_cons (ps_set (i := 2) sc_Ladder_call.nd rfl (.inl rfl) (pe_fld (pv 0) rfl))
      (pss_cons (ps_for PassesOwn.never rfl (pi_range1 rfl T.range (pa_cons (pv 1) pa_nil)) (pg_name (i := 3) sc_Ladder_call.nd rfl (.inl rfl)) (pss_one (ps_set (i := 2) sc_Ladder_call.nd rfl (.inl rfl) (pe_dm (pv 0) T.clL M_after (hr.mono (by decide)) (pa_cons (pv 2) pa_nil)))))
      (pss_one (ps_ret (pe_df D_lowest_pair (hr.mono (by decide)) (by rfl) (pa_cons (pv 2) pa_nil))))))), ?_⟩
    obtain ⟨dx, p, q, v, hx, hP, hq, hv⟩ := id hLd
    refine ⟨_, rfl, n, rfl, n0, n1, ?_⟩
    refine ⟨_, rfl, x, Cl, dx, _, _, rfl, hx, T.clL, T.nBeh, lkB _ _ _, ?_⟩
    refine ⟨_, rfl, n, rfl, by omega, by omega, ?_⟩
    refine for_range (lo := 0) (n := n.toNat) (fun i σ H' => Same H H' ∧ ∃ (t : Addr) (v1 : Option V), σ = [some (.ref x), some (.int n), some (.ref t), v1] ∧ PairAt H' t (appN (matR r) i e)) ⟨Same.refl _, q, none, rfl, hq⟩ ?_ ?_
    · rintro i σ H' hi ⟨s1, t, v1, rfl, ht⟩
      obtain ⟨a1, a2⟩ := appN_sm hok l8 es1 es2 i
      refine ⟨_, rfl, x, dx, _, rfl, s1 _ _ hx, lkAf _ _ _, _, rfl, x, t, r, e, _, rfl, hLd.same s1, ht, hok, l8, a1.mono (by omega), a2.mono (by omega), fun H2 p2 s2 np2 hp2 => ?_⟩
      exact ⟨s1.trans s2, p2, _, rfl, hp2⟩
    · rintro σ H' ⟨s1, t, v1, rfl, ht⟩
      obtain ⟨a1, a2⟩ := appN_sm hok l8 es1 es2 n.toNat
      exact ⟨_, rfl, _, _, rfl, .inr ⟨t, rfl, ht⟩, appN_pos hok ep _, a1.mono (by omega), a2.mono (by omega), fun H2 p2 s2 np2 hp2 => k _ p2 (s1.trans s2) (s1.free np2) hp2⟩
theorem sc_Ladder_goes : FnScope ["self"] ["self"] (defScope s_Ladder_goes) := ⟨rfl, rfl, rfl, by decide +kernel, rfl, by decide +kernel, by decide +kernel⟩

theorem ok_goes {f : Addr} {fd : FuncData} (F : Fun K "goes" "Ladder.goes" s_Ladder_goes f fd) (T : Txt4 K mg tG t1 t2 t3 tP tC aO aW J C Ce Cl) (D_pair_order : Df P w K mg base 2 "pair_order" ["first", "second"] spPO) (M_after : Mt P w K mg base Cl 2 "after" "self" "pair" (spAfter C aO Ce Cl)) : FnOk P w K mg base CX0 3 f fd ["self"] (spGoes C aO Ce Cl) := by
  refine F.ok sc_Ladder_goes (fun vs H Q E h => ?_) (fun cdv A outer s H vs Q E hr h => ?_)
  · obtain ⟨x, r, e, rfl, _⟩ := h
    rfl
  · obtain ⟨x, r, e, rfl, hLd, hok, l8, es1, es2, k⟩ := h
    refine ⟨_, (pss_one (ps_ret (pe_df D_pair_order (hr.mono (by decide)) (by rfl) (pa_cons (pe_dm (pv 0) T.clL M_after (hr.mono (by decide)) (pa_cons (pe_fld (pv 0) rfl) pa_nil)) (pa_cons (pe_fld (pv 0) rfl) pa_nil))))), ?_⟩
    obtain ⟨dx, p, q, v, hx, hP, hq, hv⟩ := id hLd
    obtain ⟨a1, a2⟩ := app_sm (matR_sm30 hok l8) es1 es2
    refine ⟨_, rfl, x, dx, _, rfl, hx, lkAf _ _ _, _, rfl, x, Cl, dx, _, _, rfl, hx, T.clL, T.nBeh, lkB _ _ _, x, q, r, e, _, rfl, hLd, hq, hok, l8, es1.mono (by decide), es2.mono (by decide), fun H2 p2 s2 np2 hp2 => ?_⟩
    exact ⟨_, rfl, x, Cl, dx, _, _, rfl, s2 _ _ hx, T.clL, T.nBeh, lkB _ _ _, p2, q, _, _, rfl, hp2, s2 _ _ hq, a1.mono (by decide), a2.mono (by decide), es1.mono (by decide), es2.mono (by decide), k _ s2⟩
theorem sc_Ladder_limit : FnScope ["self"] ["self"] (defScope s_Ladder_limit) := ⟨rfl, rfl, rfl, by decide +kernel, rfl, by decide +kernel, by decide +kernel⟩

theorem ok_limit {f : Addr} {fd : FuncData} (F : Fun K "limit" "Ladder.limit" s_Ladder_limit f fd) (T : Txt4 K mg tG t1 t2 t3 tP tC aO aW J C Ce Cl) : FnOk P w K mg base CX0 1 f fd ["self"] (spLimit C aO Ce Cl) := by
  refine F.ok sc_Ladder_limit (fun vs H Q E h => ?_) (fun cdv A outer s H vs Q E hr h => ?_)
  · obtain ⟨x, r, e, rfl, _⟩ := h
    rfl
  · obtain ⟨x, r, e, rfl, ⟨dx, p, q, v, hx, hP, hq, hv⟩, k⟩ := h
    refine ⟨_, (pss_one (ps_ret (pe_fld (pv 0) rfl))), ?_⟩
    exact ⟨_, rfl, x, Cl, dx, _, _, rfl, hx, T.clL, T.nFar, lkFar _ _ _, k _ hv⟩
end
end RL

namespace RL
/-! ### joined patterns: products of their matrices -/
def Mx.mul (m n : Mx) : Mx := ⟨m.a * n.a + m.b * n.c, m.a * n.b + m.b * n.d, m.c * n.a + m.d * n.c, m.c * n.b + m.d * n.d⟩
theorem app_mul (m n : Mx) (e : Int × Int) : (m.mul n).app e = m.app (n.app e) := by
  unfold Mx.mul Mx.app
  ext <;> dsimp <;> grind
theorem mx_ext {m n : Mx} (h : ∀ e, m.app e = n.app e) : m = n := by
  have h1 := h (1, 0)
  have h2 := h (0, 1)
  unfold Mx.app at h1 h2
  simp at h1 h2
  obtain ⟨a, b, c, d⟩ := m
  obtain ⟨a', b', c', d'⟩ := n
  dsimp at h1 h2
  rw [h1.1, h1.2, h2.1, h2.2]
theorem mat_mul (r r' : List Pc) : matR (r ++ r') = (matR r).mul (matR r') := mx_ext fun e => by
  rw [app_mul, mat_app, mat_app, mat_app, act_app]
theorem appN_succ (m : Mx) (n : Nat) (e : Int × Int) : appN m (n + 1) e = m.app (appN m n e) := rfl
theorem appN_add (m : Mx) (k : Nat) (e : Int × Int) : ∀ n, appN m (k + n) e = appN m n (appN m k e)
  | 0 => rfl
  | n + 1 => by
    show m.app (appN m (k + n) e) = _
    rw [appN_add m k e n]
    rfl
theorem app_sc' (m : Mx) (k : Int) (e : Int × Int) : m.app (sc k e) = sc k (m.app e) := by
  unfold sc Mx.app
  ext <;> dsimp <;> grind
theorem appN_sc (m : Mx) (k : Int) (e : Int × Int) : ∀ n, appN m n (sc k e) = sc k (appN m n e)
  | 0 => rfl
  | n + 1 => by
    rw [appN_succ, appN_succ, appN_sc m k e n, app_sc']
theorem low_appN {m : Mx} {e : Int × Int} (h : Pos2 e) (n : Nat) : low (appN m n (low e)) = low (appN m n e) := by
  have q : low (appN m n e) = low (appN m n (sc (gc e.1 e.2) (low e))) := by rw [← low_is h]
  rw [q, appN_sc, low_sc (gc_pos2 h)]
theorem low_app {m : Mx} {e : Int × Int} (h : Pos2 e) : low (m.app (low e)) = low (m.app e) := low_appN (m := m) h 1
/-! ### which way a ladder goes -/
def goV (m : Mx) (e : Int × Int) : Int := (m.app e).1 * e.2 - e.1 * (m.app e).2
theorem sg_mul {k x : Int} (hk : 0 < k) : sg (k * x) = sg x := by
  unfold sg
  have h1 : 0 < k * x ↔ 0 < x := ⟨fun h => by
    rcases Int.lt_or_le 0 x with z | z
    · exact z
    · have := Int.mul_nonpos_of_nonneg_of_nonpos (Int.le_of_lt hk) z
      omega, fun h => Int.mul_pos hk h⟩
  have h2 : k * x < 0 ↔ x < 0 := ⟨fun h => by
    rcases Int.lt_or_le x 0 with z | z
    · exact z
    · have := Int.mul_nonneg (Int.le_of_lt hk) z
      omega, fun h => Int.mul_neg_of_pos_of_neg hk h⟩
  simp only [h1, h2]
theorem goV_app (m : Mx) (e : Int × Int) : goV m (m.app e) = (m.a * m.d - m.b * m.c) * goV m e := by
  unfold goV Mx.app
  dsimp only
  grind
theorem goV_appN {r : List Pc} (hr : RowOk r) (e : Int × Int) : ∀ n, sg (goV (matR r) (appN (matR r) n e)) = sg (goV (matR r) e)
  | 0 => rfl
  | n + 1 => by
    rw [appN_succ, goV_app, sg_mul (matR_ok hr).2.2.2.2, goV_appN hr e n]
theorem tr_pos {r : List Pc} (hr : RowOk r) : 0 < (matR r).a + (matR r).d ∧ 0 < (matR r).a ∧ 0 < (matR r).d := by
  obtain ⟨h1, h2, h3, h4, h5⟩ := matR_ok hr
  have h6 := Int.mul_nonneg h2 h3
  have h7 : 0 < (matR r).a * (matR r).d := by omega
  have ha : 0 < (matR r).a := by
    rcases Int.lt_or_le 0 (matR r).a with z | z
    · exact z
    · have : (matR r).a = 0 := by omega
      rw [this, Int.zero_mul] at h7
      omega
  have hd : 0 < (matR r).d := by
    rcases Int.lt_or_le 0 (matR r).d with z | z
    · exact z
    · have : (matR r).d = 0 := by omega
      rw [this, Int.mul_zero] at h7
      omega
  exact ⟨by omega, ha, hd⟩
/-! ### limits of joined ladders -/
end RL

namespace RL
/-! ### patterns from behind -/
theorem RowOk.head1 {p : Pc} {r : List Pc} (h : RowOk (p :: r)) : RowOk [p] := fun q hq => h q (by rw [List.mem_singleton] at hq; rw [hq]; exact List.mem_cons_self)
def Mx.fl (m : Mx) : Mx := ⟨m.d, m.b, m.c, m.a⟩
theorem scl_foldl (r : List Pc) : ∀ s : Int, r.foldl stepS s = s * r.foldl stepS 1 := by
  induction r with
  | nil => intro s; simp
  | cons p r ih =>
    intro s
    rw [List.foldl_cons, List.foldl_cons, ih, ih (stepS 1 p)]
    unfold stepS
    split
    · rw [Int.one_mul]
    · rw [Int.one_mul, Int.mul_assoc]
theorem scl_app (r r' : List Pc) : sclR (r ++ r') = sclR r * sclR r' := by
  unfold sclR
  rw [List.foldl_append, scl_foldl]
/-! ### rows of both kinds -/
theorem c_pos {r : List Pc} (hr : RowOk r) (h : ∃ p ∈ r, p.1 = false) : 0 < (matR r).c := by
  induction r with
  | nil =>
    obtain ⟨p, hp, _⟩ := h
    cases hp
  | cons p r ih =>
    obtain ⟨_, a1, d1⟩ := tr_pos hr.tail
    obtain ⟨_, a2, d2⟩ := tr_pos (RowOk.head1 hr)
    obtain ⟨_, _, c1, _⟩ := matR_ok hr.tail
    obtain ⟨_, _, c2, _⟩ := matR_ok (RowOk.head1 hr)
    rw [show p :: r = [p] ++ r from rfl, mat_mul]
    show 0 < (matR [p]).c * (matR r).a + (matR [p]).d * (matR r).c
    have n1 := Int.mul_nonneg c2 (Int.le_of_lt a1)
    have n2 := Int.mul_nonneg (Int.le_of_lt d2) c1
    obtain ⟨q, hq, hf⟩ := h
    rcases List.mem_cons.mp hq with rfl | hq
    · have e : (matR [q]).c = 1 := by
        show (stepM m1 q).c = 1
        unfold stepM m1
        rw [if_neg (by rw [hf]; decide)]
        dsimp only
        omega
      rw [e, Int.one_mul]
      omega
    · have := Int.mul_pos d2 (ih hr.tail ⟨q, hq, hf⟩)
      omega
theorem b_pos {r : List Pc} (hr : RowOk r) (h : ∃ p ∈ r, p.1 = true) : 0 < (matR r).b := by
  induction r with
  | nil =>
    obtain ⟨p, hp, _⟩ := h
    cases hp
  | cons p r ih =>
    obtain ⟨_, a1, d1⟩ := tr_pos hr.tail
    obtain ⟨_, a2, d2⟩ := tr_pos (RowOk.head1 hr)
    obtain ⟨_, b1, _⟩ := matR_ok hr.tail
    obtain ⟨_, b2, _⟩ := matR_ok (RowOk.head1 hr)
    rw [show p :: r = [p] ++ r from rfl, mat_mul]
    show 0 < (matR [p]).a * (matR r).b + (matR [p]).b * (matR r).d
    have n1 := Int.mul_nonneg (Int.le_of_lt a2) b1
    have n2 := Int.mul_nonneg b2 (Int.le_of_lt d1)
    obtain ⟨q, hq, hf⟩ := h
    rcases List.mem_cons.mp hq with rfl | hq
    · have e : (matR [q]).b = q.2 := by
        show (stepM m1 q).b = q.2
        unfold stepM m1
        rw [if_pos hf]
        dsimp only
        omega
      have := hr.head.1
      have := Int.mul_pos (show 0 < (matR [q]).b by omega) d1
      omega
    · have := Int.mul_pos a2 (ih hr.tail ⟨q, hq, hf⟩)
      omega
/-! ### the two limits -/
end RL

namespace RL
/-! ### rows of pieces with fractions as ohms; stars and rings -/
abbrev FPc := Bool × (Int × Int)
def FOk (p : FPc) : Prop := 1 ≤ p.2.1 ∧ 1 ≤ p.2.2 ∧ low p.2 = p.2
def fM (p : FPc) : Mx := if p.1 = true then ⟨p.2.2, p.2.1, 0, p.2.2⟩ else ⟨p.2.1, 0, p.2.2, p.2.1⟩
def frU (p : FPc) (e : Int × Int) : Int × Int := if p.1 = true then (e.1 * p.2.2 + p.2.1 * e.2, e.2 * p.2.2) else if e.2 = 0 then (p.2.1, p.2.2) else (p.2.1 * e.1, p.2.1 * e.2 + p.2.2 * e.1)
def frF (p : FPc) (e : Int × Int) : Int × Int := low (frU p e)
def frFR (r : List FPc) (e : Int × Int) : Int × Int := r.foldr frF e
theorem mul_pos' {a b : Int} (h : 0 < a) (k : 0 < b) : 0 < a * b := Int.mul_pos h k
def uM (w : Bool) (p q : Int) : Mx := if w = true then ⟨q, p, 0, q⟩ else ⟨p, 0, q, p⟩
def opt (w : Bool) (p q : Int) : List FPc := if (w = true ∧ p = 0) ∨ (w = false ∧ q = 0) then [] else [(w, low (p, q))]
/-! ### the scale beneath a and d -/
theorem fold_ge {r : List Pc} : ∀ {m : Mx} {s : Int}, RowOk r → 0 < s → 0 ≤ m.b → 0 ≤ m.c → s ≤ m.a → s ≤ m.d → r.foldl stepS s ≤ (r.foldl stepM m).a ∧ r.foldl stepS s ≤ (r.foldl stepM m).d := by
  induction r with
  | nil => exact fun _ _ _ _ h1 h2 => ⟨h1, h2⟩
  | cons p r ih =>
    intro m s hr s0 b0 c0 h1 h2
    obtain ⟨p1, p2⟩ := hr.head
    have m0 := Int.mul_nonneg c0 (show 0 ≤ p.2 by omega)
    have m1 := Int.mul_le_mul_of_nonneg_right h1 (show 0 ≤ p.2 by omega)
    have m2 := Int.mul_le_mul_of_nonneg_right h2 (show 0 ≤ p.2 by omega)
    have m3 := Int.mul_nonneg b0 (show 0 ≤ p.2 by omega)
    have m4 := mul_pos' s0 (show 0 < p.2 by omega)
    have m5 := Int.mul_nonneg (show 0 ≤ m.a by omega) (show 0 ≤ p.2 by omega)
    show (r.foldl stepS (stepS s p)) ≤ (r.foldl stepM (stepM m p)).a ∧ _
    refine ih hr.tail ?_ ?_ ?_ ?_ ?_ <;> (try unfold stepM) <;> (try unfold stepS) <;> split <;> (try dsimp) <;> omega
theorem scl_le {r : List Pc} (hr : RowOk r) : sclR r ≤ (matR r).a ∧ sclR r ≤ (matR r).d := fold_ge hr (by decide) (by decide) (by decide) (by decide) (by decide)
/-! ### stars and rings of rows -/
def starR (r : List Pc) : List FPc := if (matR r).c = 0 then [(true, low ((matR r).b, sclR r))] else opt true ((matR r).a - sclR r) (matR r).c ++ (opt false (sclR r) (matR r).c ++ opt true ((matR r).d - sclR r) (matR r).c)
def ringR (r : List Pc) : List FPc := if (matR r).b = 0 then [(false, low (sclR r, (matR r).c))] else opt false (matR r).b ((matR r).d - sclR r) ++ (opt true (matR r).b (sclR r) ++ opt false (matR r).b ((matR r).a - sclR r))
theorem flat {a d s : Int} (s0 : 0 < s) (ha : s ≤ a) (hd : s ≤ d) (h : a * d = s * s) : a = s ∧ d = s := by
  have h1 := Int.mul_le_mul_of_nonneg_right ha (show 0 ≤ d by omega)
  have h2 := Int.mul_le_mul_of_nonneg_left hd (show 0 ≤ s by omega)
  have h3 : s * d = s * s := by omega
  have h4 : d = s := Int.eq_of_mul_eq_mul_left (by omega) h3
  subst h4
  exact ⟨Int.eq_of_mul_eq_mul_right (by omega) h, rfl⟩
end RL

/-! How fast ladders come near their limits. -/
namespace RL
theorem one_rail {q : Pc} (h : q.1 = true) : matR [q] = ⟨1, q.2, 0, 1⟩ ∧ sclR [q] = 1 := by
  refine ⟨?_, ?_⟩
  · show stepM m1 q = _
    unfold stepM m1
    rw [if_pos h]
    simp
  · show stepS 1 q = 1
    unfold stepS
    rw [if_pos h]
theorem one_rung {q : Pc} (h : q.1 = false) : matR [q] = ⟨q.2, 0, 1, q.2⟩ ∧ sclR [q] = q.2 := by
  refine ⟨?_, ?_⟩
  · show stepM m1 q = _
    unfold stepM m1
    rw [if_neg (by rw [h]; decide)]
    simp
  · show stepS 1 q = q.2
    unfold stepS
    rw [if_neg (by rw [h]; decide)]
    simp
theorem scl_pos' {r : List Pc} (hr : RowOk r) : 0 < sclR r := by
  induction r with
  | nil => decide
  | cons p r ih =>
    rw [show p :: r = [p] ++ r from rfl, scl_app]
    refine Int.mul_pos ?_ (ih hr.tail)
    cases hp : p.1
    · rw [(one_rung hp).2]
      have := hr.head.1
      omega
    · rw [(one_rail hp).2]
      decide
theorem b_ge {r : List Pc} (hr : RowOk r) (h : ∃ p ∈ r, p.1 = true) : sclR r ≤ (matR r).b := by
  induction r with
  | nil =>
    obtain ⟨p, hp, _⟩ := h
    cases hp
  | cons p r ih =>
    obtain ⟨_, b1, c1, _⟩ := matR_ok hr.tail
    obtain ⟨a2, d2⟩ := scl_le hr.tail
    have s2 := scl_pos' hr.tail
    have o1 := hr.head.1
    rw [show p :: r = [p] ++ r from rfl, scl_app, mat_mul]
    show sclR [p] * sclR r ≤ (matR [p]).a * (matR r).b + (matR [p]).b * (matR r).d
    cases hp : p.1
    · rw [(one_rung hp).1, (one_rung hp).2]
      obtain ⟨q, hq, hf⟩ := h
      rcases List.mem_cons.mp hq with rfl | hq
      · rw [hp] at hf
        cases hf
      · have := Int.mul_le_mul_of_nonneg_left (ih hr.tail ⟨q, hq, hf⟩) (show 0 ≤ p.2 by omega)
        dsimp only
        omega
    · rw [(one_rail hp).1, (one_rail hp).2]
      have := Int.mul_le_mul_of_nonneg_right o1 (show 0 ≤ (matR r).d by omega)
      dsimp only
      omega
theorem c_ge {r : List Pc} (hr : RowOk r) (h : ∃ p ∈ r, p.1 = false) : sclR r ≤ 12 * (matR r).c := by
  induction r with
  | nil =>
    obtain ⟨p, hp, _⟩ := h
    cases hp
  | cons p r ih =>
    obtain ⟨_, b1, c1, _⟩ := matR_ok hr.tail
    obtain ⟨a2, d2⟩ := scl_le hr.tail
    have s2 := scl_pos' hr.tail
    obtain ⟨o1, o2⟩ := hr.head
    rw [show p :: r = [p] ++ r from rfl, scl_app, mat_mul]
    show sclR [p] * sclR r ≤ 12 * ((matR [p]).c * (matR r).a + (matR [p]).d * (matR r).c)
    cases hp : p.1
    · rw [(one_rung hp).1, (one_rung hp).2]
      have h1 := Int.mul_le_mul_of_nonneg_right o2 (show 0 ≤ sclR r by omega)
      have h2 := Int.mul_nonneg (show 0 ≤ p.2 by omega) c1
      dsimp only
      omega
    · rw [(one_rail hp).1, (one_rail hp).2]
      obtain ⟨q, hq, hf⟩ := h
      rcases List.mem_cons.mp hq with rfl | hq
      · rw [hp] at hf
        cases hf
      · have := ih hr.tail ⟨q, hq, hf⟩
        dsimp only
        omega
theorem ent_le {r : List Pc} (hr : RowOk r) : ∃ N : Int, N = 13 ^ r.length ∧ (matR r).a ≤ N * sclR r ∧ (matR r).b ≤ N * sclR r ∧ (matR r).c ≤ N * sclR r ∧ (matR r).d ≤ N * sclR r := by
  induction r with
  | nil => exact ⟨1, rfl, by decide, by decide, by decide, by decide⟩
  | cons p r ih =>
    obtain ⟨N, eN, h1, h2, h3, h4⟩ := ih hr.tail
    obtain ⟨a1, b1, c1, d1, _⟩ := matR_ok hr.tail
    obtain ⟨o1, o2⟩ := hr.head
    refine ⟨13 * N, by rw [eN, List.length_cons]; exact (Int.mul_comm _ _).trans (by rw [Int.pow_succ]), ?_⟩
    rw [show p :: r = [p] ++ r from rfl, scl_app, mat_mul]
    have key : ∀ x y M : Int, 0 ≤ x → 0 ≤ y → x ≤ M → y ≤ M → x + p.2 * y ≤ 13 * M := fun x y M x0 y0 hx hy => by
      have k1 := Int.mul_le_mul_of_nonneg_right o2 y0
      omega
    have key2 : ∀ x y M : Int, 0 ≤ x → 0 ≤ y → x ≤ M → y ≤ M → x + p.2 * y ≤ 13 * (p.2 * M) := fun x y M x0 y0 hx hy => by
      have k1 := Int.mul_le_mul_of_nonneg_left hy (show 0 ≤ p.2 by omega)
      have k2 := Int.mul_le_mul_of_nonneg_right o1 (show 0 ≤ M by omega)
      omega
    have key3 : ∀ x M : Int, 0 ≤ x → x ≤ M → p.2 * x ≤ 13 * (p.2 * M) := fun x M x0 hx => by
      have k1 := Int.mul_le_mul_of_nonneg_left hx (show 0 ≤ p.2 by omega)
      have k2 := Int.mul_nonneg (show 0 ≤ p.2 by omega) (show 0 ≤ M by omega)
      omega
    generalize eM : N * sclR r = M at h1 h2 h3 h4
    cases hp : p.1
    · rw [(one_rung hp).1, (one_rung hp).2]
      have e : 13 * N * (p.2 * sclR r) = 13 * (p.2 * M) := by rw [← eM]; grind
      rw [e]
      unfold Mx.mul
      dsimp only
      have q1 := key3 _ _ a1 h1
      have q2 := key3 _ _ b1 h2
      have q3 := key2 _ _ _ a1 c1 h1 h3
      have q4 := key2 _ _ _ b1 d1 h2 h4
      refine ⟨?_, ?_, ?_, ?_⟩ <;> omega
    · rw [(one_rail hp).1, (one_rail hp).2]
      have e : 13 * N * (1 * sclR r) = 13 * M := by rw [← eM]; grind
      rw [e]
      unfold Mx.mul
      dsimp only
      have q1 := key _ _ _ a1 c1 h1 h3
      have q2 := key _ _ _ b1 d1 h2 h4
      refine ⟨?_, ?_, ?_, ?_⟩ <;> omega
theorem ent4 {r : List Pc} (hr : RowOk r) (l4 : r.length ≤ 4) : (matR r).a ≤ 28561 * sclR r ∧ (matR r).b ≤ 28561 * sclR r ∧ (matR r).c ≤ 28561 * sclR r := by
  obtain ⟨N, eN, h1, h2, h3, _⟩ := ent_le hr
  have hN : N ≤ 28561 := by
    rw [eN]
    have : r.length = 0 ∨ r.length = 1 ∨ r.length = 2 ∨ r.length = 3 ∨ r.length = 4 := by omega
    rcases this with z | z | z | z | z <;> rw [z] <;> decide
  have := Int.mul_le_mul_of_nonneg_right hN (Int.le_of_lt (scl_pos' hr))
  omega
theorem ratio {s p x y z N D : Int} (s0 : 0 ≤ s) (hp : 52 * s ≤ 25 * p) (y0 : 0 ≤ y) (N0 : 0 ≤ N) (e : z = p * y - s * s * x) (h : N * (s * x) ≤ D * y) : (52 * N - 25 * D) * (s * y) ≤ 25 * N * z := by
  have h1 := Int.mul_nonneg (Int.mul_nonneg N0 y0) (show 0 ≤ 25 * p - 52 * s by omega)
  have h2 := Int.mul_nonneg s0 (show 0 ≤ D * y - N * (s * x) by omega)
  have e2 : 25 * N * z - (52 * N - 25 * D) * (s * y) = N * y * (25 * p - 52 * s) + 25 * (s * (D * y - N * (s * x))) := by
    rw [e]
    grind
  omega
theorem tr_ge {a b c d s : Int} (s0 : 0 < s) (ha : s ≤ a) (hd : s ≤ d) (hb : s ≤ b) (hc : s ≤ 12 * c) (det : a * d - b * c = s * s) : 52 * s ≤ 25 * (a + d) := by
  rcases Int.lt_or_le (25 * (a + d)) (52 * s) with z | z
  · have h1 := Int.mul_le_mul hb hc (Int.le_of_lt s0) (by omega)
    have h2 : (25 * (a + d)) * (25 * (a + d)) < (52 * s) * (52 * s) := by
      have := Int.mul_lt_mul z (Int.le_of_lt z) (by omega) (by omega)
      exact this
    have h3 : 0 ≤ (a - d) * (a - d) := by
      rcases Int.le_total 0 (a - d) with q | q
      · exact Int.mul_nonneg q q
      · exact Int.mul_nonneg_of_nonpos_of_nonpos q q
    have h4 := Int.mul_pos s0 s0
    have e1 : (25 * (a + d)) * (25 * (a + d)) = 625 * ((a - d) * (a - d)) + 2500 * (a * d) := by grind
    have e2 : (52 * s) * (52 * s) = 2704 * (s * s) := by grind
    have e3 : b * (12 * c) = 12 * (b * c) := by grind
    omega
  · exact z
end RL

namespace RL
structure Quick (m : Mx) (s : Int) : Prop where
  s0 : 0 < s
  a1 : s ≤ m.a
  d1 : s ≤ m.d
  b1 : s ≤ m.b
  c1 : s ≤ 12 * m.c
  a2 : m.a ≤ 28561 * s
  b2 : m.b ≤ 28561 * s
  c2 : m.c ≤ 28561 * s
  det : m.a * m.d - m.b * m.c = s * s
  tr : 52 * s ≤ 25 * (m.a + m.d)
theorem quick {r : List Pc} (hr : RowOk r) (l4 : r.length ≤ 4) (h1 : ∃ p ∈ r, p.1 = true) (h2 : ∃ p ∈ r, p.1 = false) : Quick (matR r) (sclR r) := by
  have s0 := scl_pos' hr
  obtain ⟨a1, d1⟩ := scl_le hr
  have b1 := b_ge hr h1
  have c1 := c_ge hr h2
  obtain ⟨a2, b2, c2⟩ := ent4 hr l4
  exact ⟨s0, a1, d1, b1, c1, a2, b2, c2, matR_det r, tr_ge s0 a1 d1 b1 c1 (matR_det r)⟩
section
variable {m : Mx} {s : Int} {e : Int × Int}
theorem app_ge (q : Quick m s) (h : Pos2 e) : Pos2 (m.app e) ∧ s * e.2 ≤ (m.app e).2 ∧ 0 < (m.app e).2 := by
  obtain ⟨t0, u0, k⟩ := h
  have s0 := q.s0
  have a1 := q.a1; have b1 := q.b1; have c1 := q.c1; have d1 := q.d1
  have h1 := Int.mul_nonneg (show 0 ≤ m.a by omega) t0
  have h2 := Int.mul_nonneg (show 0 ≤ m.b by omega) u0
  have h3 := Int.mul_nonneg (show 0 ≤ m.c by omega) t0
  have h4 := Int.mul_le_mul_of_nonneg_right d1 u0
  have h5 := Int.mul_nonneg (show 0 ≤ s by omega) u0
  have p : 0 < m.c * e.1 + m.d * e.2 := by
    rcases k with k | k
    · have := Int.mul_pos (show 0 < m.c by omega) k
      omega
    · have := Int.mul_pos s0 k
      omega
  refine ⟨⟨?_, ?_, ?_⟩, ?_, ?_⟩ <;> unfold Mx.app <;> dsimp only <;> omega
theorem appN_ge (q : Quick m s) (h : Pos2 e) : ∀ n, Pos2 (appN m n e)
  | 0 => h
  | n + 1 => (app_ge q (appN_ge q h n)).1
theorem rec2 (q : Quick m s) (n : Nat) : (appN m (n + 2) e).2 = (m.a + m.d) * (appN m (n + 1) e).2 - s * s * (appN m n e).2 := by
  rw [appN_succ, appN_succ, ← q.det]
  unfold Mx.app
  dsimp only
  grind
theorem u5 (q : Quick m s) (h : Pos2 e) : 5 * (s * (appN m 4 e).2) ≤ 4 * (appN m 5 e).2 ∧ s * (appN m 1 e).2 ≤ (appN m 2 e).2 ∧ s * (appN m 2 e).2 ≤ (appN m 3 e).2 ∧ s * (appN m 3 e).2 ≤ (appN m 4 e).2 := by
  have s0 := Int.le_of_lt q.s0
  have y1 := (appN_ge q h 1).2.1
  have y2 := (appN_ge q h 2).2.1
  have y3 := (appN_ge q h 3).2.1
  have y4 := (appN_ge q h 4).2.1
  have r1 : 1 * (s * (appN m 0 e).2) ≤ 1 * (appN m 1 e).2 := by
    have := (app_ge q h).2.1
    rw [Int.one_mul, Int.one_mul]
    exact this
  have r2 := ratio s0 q.tr y1 (by decide) (show (appN m 2 e).2 = (m.a + m.d) * (appN m 1 e).2 - s * s * (appN m 0 e).2 from rec2 q 0) r1
  have r2' : 27 * (s * (appN m 1 e).2) ≤ 25 * (appN m 2 e).2 := by omega
  have r3 := ratio s0 q.tr y2 (by decide) (show (appN m 3 e).2 = (m.a + m.d) * (appN m 2 e).2 - s * s * (appN m 1 e).2 from rec2 q 1) r2'
  have r3' : 779 * (s * (appN m 2 e).2) ≤ 675 * (appN m 3 e).2 := by omega
  have r4 := ratio s0 q.tr y3 (by decide) (show (appN m 4 e).2 = (m.a + m.d) * (appN m 3 e).2 - s * s * (appN m 2 e).2 from rec2 q 2) r3'
  have r4' : 23633 * (s * (appN m 3 e).2) ≤ 19475 * (appN m 4 e).2 := by omega
  have r5 := ratio s0 q.tr y4 (by decide) (show (appN m 5 e).2 = (m.a + m.d) * (appN m 4 e).2 - s * s * (appN m 3 e).2 from rec2 q 3) r4'
  have z1 := Int.mul_nonneg s0 y1
  have z2 := Int.mul_nonneg s0 y2
  have z3 := Int.mul_nonneg s0 y3
  have z4 := Int.mul_nonneg s0 y4
  refine ⟨?_, ?_, ?_, ?_⟩ <;> omega
theorem u_step (q : Quick m s) (h : Pos2 e) : ∀ k : Nat, 5 * (s * (appN m (k + 4) e).2) ≤ 4 * (appN m (k + 5) e).2
  | 0 => (u5 q h).1
  | k + 1 => by
    have s0 := Int.le_of_lt q.s0
    have y := (appN_ge q h (k + 5)).2.1
    have r := ratio s0 q.tr y (by decide) (rec2 q (k + 4)) (u_step q h k)
    have z := Int.mul_nonneg s0 y
    show 5 * (s * (appN m (k + 5) e).2) ≤ 4 * (appN m (k + 6) e).2
    replace r : (52 * 5 - 25 * 4) * (s * (appN m (k + 5) e).2) ≤ 25 * 5 * (appN m (k + 6) e).2 := r
    omega
theorem u_far (q : Quick m s) (h : Pos2 e) : ∀ k : Nat, 5 ^ k * (s ^ (k + 3) * (appN m 1 e).2) ≤ 4 ^ k * (appN m (k + 4) e).2
  | 0 => by
    obtain ⟨_, h2, h3, h4⟩ := u5 q h
    have s0 := Int.le_of_lt q.s0
    have a := Int.mul_le_mul_of_nonneg_left h2 s0
    have a2 := Int.mul_le_mul_of_nonneg_left a s0
    have b := Int.mul_le_mul_of_nonneg_left h3 s0
    have e1 : s ^ (0 + 3) * (appN m 1 e).2 = s * (s * (s * (appN m 1 e).2)) := by
      rw [show s ^ (0 + 3) = s * s * s from by grind]
      grind
    rw [e1, Int.pow_zero, Int.pow_zero, Int.one_mul, Int.one_mul]
    show s * (s * (s * (appN m 1 e).2)) ≤ (appN m 4 e).2
    omega
  | k + 1 => by
    have s0 := Int.le_of_lt q.s0
    have i := u_far q h k
    have st := u_step q h k
    have i2 := Int.mul_le_mul_of_nonneg_left (Int.mul_le_mul_of_nonneg_left i s0) (show (0 : Int) ≤ 5 by decide)
    have p4 : (0 : Int) ≤ 4 ^ k := Int.le_of_lt (Int.pow_pos (by decide))
    have st2 := Int.mul_le_mul_of_nonneg_left st p4
    have e1 : (5 : Int) ^ (k + 1) * (s ^ (k + 1 + 3) * (appN m 1 e).2) = 5 * (s * (5 ^ k * (s ^ (k + 3) * (appN m 1 e).2))) := by
      rw [Int.pow_succ, show k + 1 + 3 = (k + 3) + 1 from by omega, Int.pow_succ s]
      grind
    have e2 : (4 : Int) ^ (k + 1) * (appN m (k + 1 + 4) e).2 = 4 ^ k * (4 * (appN m (k + 5) e).2) := by
      rw [Int.pow_succ, show k + 1 + 4 = k + 5 from by omega]
      grind
    have e3 : (4 : Int) ^ k * (5 * (s * (appN m (k + 4) e).2)) = 5 * (s * (4 ^ k * (appN m (k + 4) e).2)) := by grind
    rw [e1, e2]
    rw [e3] at st2
    exact Int.le_trans i2 st2
theorem go_far (q : Quick m s) : ∀ n : Nat, goV m (appN m n e) = s ^ n * s ^ n * goV m e
  | 0 => by rw [Int.pow_zero]; show goV m e = _; omega
  | n + 1 => by
    rw [appN_succ, goV_app, go_far q n, q.det, Int.pow_succ]
    grind
theorem go_first (q : Quick m s) (h : Pos2 e) : s * goV m e ≤ 342732 * ((m.app e).2 * (m.app e).2) ∧ -(s * goV m e) ≤ 12 * ((m.app e).2 * (m.app e).2) := by
  obtain ⟨t0, u0, _⟩ := h
  have s0 := Int.le_of_lt q.s0
  have a1 := q.a1; have b1 := q.b1; have c1 := q.c1; have d1 := q.d1; have a2 := q.a2; have b2 := q.b2
  have X0 := Int.mul_nonneg (show 0 ≤ m.c by omega) t0
  have Y0 := Int.mul_nonneg (show 0 ≤ m.d by omega) u0
  have st : s * e.1 ≤ 12 * (m.c * e.1) := by
    have := Int.mul_le_mul_of_nonneg_right c1 t0
    grind
  have su : s * e.2 ≤ m.d * e.2 := Int.mul_le_mul_of_nonneg_right d1 u0
  have st0 := Int.mul_nonneg s0 t0
  have su0 := Int.mul_nonneg s0 u0
  have p1 := Int.mul_le_mul st su su0 (by omega)
  have p2 := Int.mul_le_mul su su su0 (by omega)
  have p3 := Int.mul_le_mul_of_nonneg_right st X0
  have p4 := Int.mul_le_mul_of_nonneg_right st Y0
  -- a t u and b u u
  have tu0 := Int.mul_nonneg st0 u0
  have uu0 := Int.mul_nonneg su0 u0
  have p5 := Int.mul_le_mul_of_nonneg_right a2 tu0
  have p6 := Int.mul_le_mul_of_nonneg_right b2 uu0
  have n1 := Int.mul_nonneg (show 0 ≤ m.a by omega) tu0
  have n2 := Int.mul_nonneg (show 0 ≤ m.b by omega) uu0
  have XX := Int.mul_nonneg X0 X0
  have XY := Int.mul_nonneg X0 Y0
  have YY := Int.mul_nonneg Y0 Y0
  have n3 := Int.mul_nonneg st0 X0
  have n4 := Int.mul_nonneg st0 Y0
  have eg : s * goV m e = m.a * (s * e.1 * e.2) + m.b * (s * e.2 * e.2) - (s * e.1) * (m.c * e.1) - (s * e.1) * (m.d * e.2) := by
    unfold goV Mx.app
    dsimp only
    grind
  have eu : (m.app e).2 * (m.app e).2 = (m.c * e.1) * (m.c * e.1) + 2 * ((m.c * e.1) * (m.d * e.2)) + (m.d * e.2) * (m.d * e.2) := by
    unfold Mx.app
    dsimp only
    grind
  have e5 : 28561 * s * (s * e.1 * e.2) = 28561 * (s * e.1 * (s * e.2)) := by grind
  have e6 : 28561 * s * (s * e.2 * e.2) = 28561 * (s * e.2 * (s * e.2)) := by grind
  have e7 : 12 * (m.c * e.1) * (m.d * e.2) = 12 * ((m.c * e.1) * (m.d * e.2)) := by grind
  have e8 : 12 * (m.c * e.1) * (m.c * e.1) = 12 * ((m.c * e.1) * (m.c * e.1)) := by grind
  rw [eg, eu]
  rw [e5] at p5
  rw [e6] at p6
  rw [e7] at p1 p4
  rw [e8] at p3
  constructor <;> omega
end
end RL

set_option exponentiation.threshold 1000
namespace RL
section
variable {m : Mx} {s : Int} {e : Int × Int}
theorem near250 (q : Quick m s) (h : Pos2 e) : 0 < (appN m 250 e).2 ∧ goV m (10000000000000000000000000000000000000000 * (appN m 250 e).1 + (appN m 250 e).2, 10000000000000000000000000000000000000000 * (appN m 250 e).2) ≤ 0 ∧ 0 ≤ goV m (10000000000000000000000000000000000000000 * (appN m 250 e).1 - (appN m 250 e).2, 10000000000000000000000000000000000000000 * (appN m 250 e).2) := by
  have s0 := Int.le_of_lt q.s0
  have far := u_far q h 246
  have g1 : goV m (appN m 250 e) = s ^ 250 * s ^ 250 * goV m e := go_far q 250
  have U0 := (appN_ge q h 250).2.1
  have k249 := u_step q h 245
  have k250 := u_step q h 246
  have rr : (appN m 251 e).2 = (m.a + m.d) * (appN m 250 e).2 - s * s * (appN m 249 e).2 := rec2 q 249
  have ee : (appN m 251 e).2 = m.c * (appN m 250 e).1 + m.d * (appN m 250 e).2 := rfl
  obtain ⟨f1, f2⟩ := go_first q h
  have u1 := (app_ge q h).2.2
  replace far : 5 ^ 246 * (s ^ 249 * (m.app e).2) ≤ 4 ^ 246 * (appN m 250 e).2 := far
  replace k249 : 5 * (s * (appN m 249 e).2) ≤ 4 * (appN m 250 e).2 := k249
  replace k250 : 5 * (s * (appN m 250 e).2) ≤ 4 * (appN m 251 e).2 := k250
  have W0 : 0 < s ^ 249 := Int.pow_pos q.s0
  have e250 : s ^ 250 = s ^ 249 * s := Int.pow_succ ..
  rw [e250] at g1
  have c2 := q.c2
  have c0 : 0 ≤ m.c := by have := q.c1; have := q.s0; omega
  generalize s ^ 249 = W at *
  generalize (m.app e).2 = u at *
  generalize goV m e = g at *
  have eG : goV m (appN m 250 e) = (m.a * (appN m 250 e).1 + m.b * (appN m 250 e).2) * (appN m 250 e).2 - (appN m 250 e).1 * (m.c * (appN m 250 e).1 + m.d * (appN m 250 e).2) := rfl
  generalize (appN m 251 e).2 = V at *
  generalize (appN m 249 e).2 = Y at *
  have eA : goV m (10000000000000000000000000000000000000000 * (appN m 250 e).1 + (appN m 250 e).2, 10000000000000000000000000000000000000000 * (appN m 250 e).2) = 100000000000000000000000000000000000000000000000000000000000000000000000000000000 * goV m (appN m 250 e) - 10000000000000000000000000000000000000000 * ((appN m 250 e).2 * (2 * V - (m.a + m.d) * (appN m 250 e).2)) - m.c * ((appN m 250 e).2 * (appN m 250 e).2) := by
    rw [ee]
    unfold goV Mx.app
    dsimp only
    grind
  have eB : goV m (10000000000000000000000000000000000000000 * (appN m 250 e).1 - (appN m 250 e).2, 10000000000000000000000000000000000000000 * (appN m 250 e).2) = 100000000000000000000000000000000000000000000000000000000000000000000000000000000 * goV m (appN m 250 e) + 10000000000000000000000000000000000000000 * ((appN m 250 e).2 * (2 * V - (m.a + m.d) * (appN m 250 e).2)) - m.c * ((appN m 250 e).2 * (appN m 250 e).2) := by
    rw [ee]
    unfold goV Mx.app
    dsimp only
    grind
  rw [eA, eB, g1]
  clear eA eB eG g1 ee
  generalize (appN m 250 e).2 = U at *
  have Wu := Int.mul_pos W0 u1
  -- the slope
  have Z : 9 * (s * U) ≤ 20 * (2 * V - (m.a + m.d) * U) := by
    have := Int.mul_le_mul_of_nonneg_left k249 s0
    have e1 : s * (5 * (s * Y)) = 5 * (s * s * Y) := by grind
    have e2 : s * (4 * U) = 4 * (s * U) := by grind
    omega
  have ZU := Int.mul_le_mul_of_nonneg_left Z U0
  have eZ : U * (20 * (2 * V - (m.a + m.d) * U)) = 20 * (U * (2 * V - (m.a + m.d) * U)) := by grind
  have eS : U * (9 * (s * U)) = 9 * (s * (U * U)) := by grind
  rw [eZ, eS] at ZU
  generalize U * (2 * V - (m.a + m.d) * U) = ZZ at *
  have UU := Int.mul_nonneg U0 U0
  have cU := Int.mul_le_mul_of_nonneg_right c2 UU
  have cU0 := Int.mul_nonneg c0 UU
  have eC : 28561 * s * (U * U) = 28561 * (s * (U * U)) := by grind
  rw [eC] at cU
  -- the square of the denominator
  have p5 : (0 : Int) ≤ 5 ^ 246 * (W * u) := Int.mul_nonneg (by decide) (Int.le_of_lt Wu)
  have sq := Int.mul_le_mul far far p5 (Int.le_trans p5 far)
  have eL : 5 ^ 246 * (W * u) * (5 ^ 246 * (W * u)) = 5 ^ 492 * (W * W * (u * u)) := by grind
  have eR : 4 ^ 246 * U * (4 ^ 246 * U) = 4 ^ 492 * (U * U) := by grind
  rw [eL, eR] at sq
  have ssq := Int.mul_le_mul_of_nonneg_left sq s0
  have WW := Int.mul_nonneg (Int.le_of_lt W0) (Int.le_of_lt W0)
  have sWW := Int.mul_nonneg s0 WW
  have m1 := Int.mul_le_mul_of_nonneg_left f1 sWW
  have m2 := Int.mul_le_mul_of_nonneg_left f2 sWW
  have e3 : s * (W * W) * (s * g) = W * s * (W * s) * g := by grind
  have e4 : s * (W * W) * -(s * g) = - (W * s * (W * s) * g) := by grind
  have e5 : s * (W * W) * (342732 * (u * u)) = 342732 * (s * (W * W * (u * u))) := by grind
  have e6 : s * (W * W) * (12 * (u * u)) = 12 * (s * (W * W * (u * u))) := by grind
  have e7 : s * (5 ^ 492 * (W * W * (u * u))) = 5 ^ 492 * (s * (W * W * (u * u))) := by grind
  have e8 : s * (4 ^ 492 * (U * U)) = 4 ^ 492 * (s * (U * U)) := by grind
  rw [e3, e5] at m1
  rw [e4, e6] at m2
  rw [e7, e8] at ssq
  have n1 := Int.mul_nonneg s0 UU
  have n2 := Int.mul_nonneg s0 (Int.mul_nonneg WW (Int.mul_nonneg (Int.le_of_lt u1) (Int.le_of_lt u1)))
  have Up : 0 < U := by
    rcases Int.lt_or_le 0 U with z | z
    · exact z
    · have : U = 0 := by omega
      rw [this] at far
      have : (0 : Int) < 5 ^ 246 * (W * u) := Int.mul_pos (by decide) Wu
      omega
  generalize W * s * (W * s) * g = G at *
  generalize s * (W * W * (u * u)) = A at *
  generalize s * (U * U) = B at *
  generalize m.c * (U * U) = Cc at *
  clear e3 e4 e5 e6 e7 e8 eL eR eZ eS eC sq far p5 f1 f2 k249 k250 rr
  refine ⟨Up, ?_, ?_⟩ <;> omega

theorem pos_of {k x : Int} (hk : 0 < k) (h : 0 < k * x) : 0 < x := by
  rcases Int.lt_or_le 0 x with z | z
  · exact z
  · have := Int.mul_le_mul_of_nonneg_left z (Int.le_of_lt hk)
    omega
theorem neg_of {k x : Int} (hk : 0 < k) (h : k * x < 0) : x < 0 := by
  rcases Int.lt_or_le x 0 with z | z
  · exact z
  · have := Int.mul_nonneg (Int.le_of_lt hk) z
    omega
theorem go_order (m : Mx) (y z : Int × Int) : z.1 * z.2 * goV m y - y.1 * y.2 * goV m z = (y.2 * z.1 - y.1 * z.2) * (m.c * (y.1 * z.1) + m.b * (y.2 * z.2)) := by
  unfold goV Mx.app
  dsimp only
  grind
theorem go_down (q : Quick m s) {y z : Int × Int} (hy : Pos2 y) (hz : Pos2 z) (hy2 : 0 < y.2) (hz2 : 0 < z.2) (w : y.1 * z.2 ≤ z.1 * y.2) (g : 0 < goV m z) : 0 < goV m y := by
  have o := go_order m y z
  have b0 : 0 < m.b := by have := q.s0; have := q.b1; omega
  have c0 : 0 < m.c := by have := q.s0; have := q.c1; omega
  rcases Int.lt_or_le 0 y.1 with y1 | y1
  · have z1 : 0 < z.1 := by
      rcases Int.lt_or_le 0 z.1 with h | h
      · exact h
      · have e0 : z.1 = 0 := Int.le_antisymm h hz.1
        rw [e0, Int.zero_mul] at w
        have := Int.mul_pos y1 hz2
        omega
    have p1 := Int.mul_pos (Int.mul_pos y1 hy2) g
    have p2 : 0 ≤ (y.2 * z.1 - y.1 * z.2) * (m.c * (y.1 * z.1) + m.b * (y.2 * z.2)) := Int.mul_nonneg (by rw [Int.mul_comm y.2]; omega) (by
      have := Int.mul_nonneg (Int.le_of_lt c0) (Int.mul_nonneg (Int.le_of_lt y1) (Int.le_of_lt z1))
      have := Int.mul_nonneg (Int.le_of_lt b0) (Int.mul_nonneg (Int.le_of_lt hy2) (Int.le_of_lt hz2))
      omega)
    have p3 : 0 < z.1 * z.2 * goV m y := by omega
    have zz := Int.mul_pos z1 hz2
    exact pos_of zz p3
  · have e0 : y.1 = 0 := Int.le_antisymm y1 hy.1
    unfold goV Mx.app
    dsimp only
    rw [e0]
    have := Int.mul_pos (Int.mul_pos b0 hy2) hy2
    grind
theorem go_up (q : Quick m s) {y z : Int × Int} (hy : Pos2 y) (hz : Pos2 z) (hy2 : 0 < y.2) (hz2 : 0 < z.2) (w : y.1 * z.2 ≤ z.1 * y.2) (g : goV m y < 0) : goV m z < 0 := by
  rcases Int.lt_or_le (goV m z) 0 with h | h
  · exact h
  · have o := go_order m y z
    have b0 : 0 < m.b := by have := q.s0; have := q.b1; omega
    have c0 : 0 < m.c := by have := q.s0; have := q.c1; omega
    have y1 : 0 < y.1 := by
      rcases Int.lt_or_le 0 y.1 with h | h
      · exact h
      · have e0 : y.1 = 0 := Int.le_antisymm h hy.1
        unfold goV Mx.app at g
        dsimp only at g
        rw [e0] at g
        have := Int.mul_pos (Int.mul_pos b0 hy2) hy2
        grind
    have z1 : 0 < z.1 := by
      rcases Int.lt_or_le 0 z.1 with h | h
      · exact h
      · have e0 : z.1 = 0 := Int.le_antisymm h hz.1
        rw [e0, Int.zero_mul] at w
        have := Int.mul_pos y1 hz2
        omega
    have p2 : 0 ≤ (y.2 * z.1 - y.1 * z.2) * (m.c * (y.1 * z.1) + m.b * (y.2 * z.2)) := Int.mul_nonneg (by rw [Int.mul_comm y.2]; omega) (by
      have := Int.mul_nonneg (Int.le_of_lt c0) (Int.mul_nonneg (Int.le_of_lt y1) (Int.le_of_lt z1))
      have := Int.mul_nonneg (Int.le_of_lt b0) (Int.mul_nonneg (Int.le_of_lt hy2) (Int.le_of_lt hz2))
      omega)
    have p1 := Int.mul_nonneg (Int.le_of_lt (Int.mul_pos y1 hy2)) h
    have zz := Int.mul_pos (Int.mul_pos z1 hz2) (show 0 < - goV m y by omega)
    rw [Int.mul_neg] at zz
    omega
theorem go_beside {a b : Int} (hm : MxLe 815730721 m) (ha : 0 ≤ a) (ha2 : a ≤ 1000000000000) (hb : 1 ≤ b) (hb2 : b ≤ 1000000000000) : (0 < goV m (a, b) → 0 < goV m (10000000000000000000000000000000000000000 * a + b, 10000000000000000000000000000000000000000 * b)) ∧ (goV m (a, b) < 0 → goV m (10000000000000000000000000000000000000000 * a - b, 10000000000000000000000000000000000000000 * b) < 0) := by
  obtain ⟨a0, a1, b0, b1, c0, c1, d0, d1⟩ := hm
  have ab := Int.mul_nonneg ha (show 0 ≤ b by omega)
  have abL := Int.mul_le_mul ha2 hb2 (show 0 ≤ b by omega) (by decide)
  have bb := Int.mul_nonneg (show 0 ≤ b by omega) (show 0 ≤ b by omega)
  have bbL := Int.mul_le_mul hb2 hb2 (show 0 ≤ b by omega) (by decide)
  have h1 := Int.mul_nonneg c0 ab
  have h2 := Int.mul_le_mul c1 abL ab (by decide)
  have h3 := Int.mul_nonneg a0 bb
  have h4 := Int.mul_le_mul a1 bbL bb (by decide)
  have h5 := Int.mul_nonneg d0 bb
  have h6 := Int.mul_le_mul d1 bbL bb (by decide)
  have h7 := Int.mul_nonneg c0 bb
  have h8 := Int.mul_le_mul c1 bbL bb (by decide)
  have e1 : goV m (10000000000000000000000000000000000000000 * a + b, 10000000000000000000000000000000000000000 * b) = 100000000000000000000000000000000000000000000000000000000000000000000000000000000 * goV m (a, b) - 2 * 10000000000000000000000000000000000000000 * (m.c * (a * b)) + 10000000000000000000000000000000000000000 * (m.a * (b * b)) - 10000000000000000000000000000000000000000 * (m.d * (b * b)) - m.c * (b * b) := by
    unfold goV Mx.app
    dsimp only
    grind
  have e2 : goV m (10000000000000000000000000000000000000000 * a - b, 10000000000000000000000000000000000000000 * b) = 100000000000000000000000000000000000000000000000000000000000000000000000000000000 * goV m (a, b) + 2 * 10000000000000000000000000000000000000000 * (m.c * (a * b)) - 10000000000000000000000000000000000000000 * (m.a * (b * b)) + 10000000000000000000000000000000000000000 * (m.d * (b * b)) - m.c * (b * b) := by
    unfold goV Mx.app
    dsimp only
    grind
  rw [e1, e2]
  generalize goV m (a, b) = g at *
  generalize m.c * (a * b) = x1 at *
  generalize m.a * (b * b) = x2 at *
  generalize m.d * (b * b) = x3 at *
  generalize m.c * (b * b) = x4 at *
  constructor
  · intro h
    omega
  · intro h
    omega
theorem go_open (q : Quick m s) {z : Int × Int} (hz : Pos2 z) (h0 : z.2 = 0) : goV m z < 0 := by
  have c0 : 0 < m.c := by have := q.s0; have := q.c1; omega
  have z1 : 0 < z.1 := by
    obtain ⟨_, _, h⟩ := hz
    omega
  unfold goV Mx.app
  dsimp only
  rw [h0]
  have := Int.mul_pos (Int.mul_pos c0 z1) z1
  grind
theorem go_down' (q : Quick m s) {y z : Int × Int} (hy : Pos2 y) (hz : Pos2 z) (w : y.1 * z.2 ≤ z.1 * y.2) (g : 0 < goV m z) : 0 < goV m y := by
  have hz2 : 0 < z.2 := by
    rcases Int.lt_or_le 0 z.2 with h | h
    · exact h
    · have := go_open q hz (Int.le_antisymm h hz.2.1)
      omega
  have hy2 : 0 < y.2 := by
    rcases Int.lt_or_le 0 y.2 with h | h
    · exact h
    · have e0 : y.2 = 0 := Int.le_antisymm h hy.2.1
      have y1 : 0 < y.1 := by
        obtain ⟨_, _, h⟩ := hy
        omega
      rw [e0, Int.mul_zero] at w
      have := Int.mul_pos y1 hz2
      omega
  exact go_down q hy hz hy2 hz2 w g
theorem go_up' (q : Quick m s) {y z : Int × Int} (hy : Pos2 y) (hz : Pos2 z) (w : y.1 * z.2 ≤ z.1 * y.2) (g : goV m y < 0) : goV m z < 0 := by
  rcases Int.lt_or_le 0 z.2 with hz2 | h
  · have hy2 : 0 < y.2 := by
      rcases Int.lt_or_le 0 y.2 with h | h
      · exact h
      · have e0 : y.2 = 0 := Int.le_antisymm h hy.2.1
        have y1 : 0 < y.1 := by
          obtain ⟨_, _, h⟩ := hy
          omega
        rw [e0, Int.mul_zero] at w
        have := Int.mul_pos y1 hz2
        omega
    exact go_up q hy hz hy2 hz2 w g
  · exact go_open q hz (Int.le_antisymm h hz.2.1)
theorem reach_up (q : Quick m s) (hm : MxLe 815730721 m) (h : Pos2 e) {a b : Int} (ha : 0 ≤ a) (ha2 : a ≤ 1000000000000) (hb : 1 ≤ b) (hb2 : b ≤ 1000000000000) (g : 0 < goV m (a, b)) : a * (appN m 250 e).2 < (appN m 250 e).1 * b := by
  obtain ⟨U0, n1, _⟩ := near250 q h
  have hp := appN_ge q h 250
  rcases Int.lt_or_le (a * (appN m 250 e).2) ((appN m 250 e).1 * b) with z | z
  · exact z
  · exfalso
    have g2 := (go_beside hm ha ha2 hb hb2).1 g
    have := go_down' q (y := (10000000000000000000000000000000000000000 * (appN m 250 e).1 + (appN m 250 e).2, 10000000000000000000000000000000000000000 * (appN m 250 e).2)) (z := (10000000000000000000000000000000000000000 * a + b, 10000000000000000000000000000000000000000 * b)) (by have := hp.1; unfold Pos2; dsimp only; omega) (by unfold Pos2; dsimp only; omega) (by
      dsimp only
      generalize (appN m 250 e).1 = T at *
      generalize (appN m 250 e).2 = U at *
      have e1 : (10000000000000000000000000000000000000000 * T + U) * (10000000000000000000000000000000000000000 * b) = 100000000000000000000000000000000000000000000000000000000000000000000000000000000 * (T * b) + 10000000000000000000000000000000000000000 * (U * b) := by grind
      have e2 : (10000000000000000000000000000000000000000 * a + b) * (10000000000000000000000000000000000000000 * U) = 100000000000000000000000000000000000000000000000000000000000000000000000000000000 * (a * U) + 10000000000000000000000000000000000000000 * (U * b) := by grind
      rw [e1, e2]
      omega) g2
    omega
theorem reach_down (q : Quick m s) (hm : MxLe 815730721 m) (h : Pos2 e) {a b : Int} (ha : 0 ≤ a) (ha2 : a ≤ 1000000000000) (hb : 1 ≤ b) (hb2 : b ≤ 1000000000000) (g : goV m (a, b) < 0) : (appN m 250 e).1 * b < a * (appN m 250 e).2 := by
  obtain ⟨U0, _, n1⟩ := near250 q h
  have hp := appN_ge q h 250
  rcases Int.lt_or_le ((appN m 250 e).1 * b) (a * (appN m 250 e).2) with z | z
  · exact z
  · exfalso
    have b0 : 0 < m.b := by have := q.s0; have := q.b1; omega
    have a1 : 1 ≤ a := by
      rcases Int.lt_or_le 0 a with z | z
      · omega
      · have e0 : a = 0 := Int.le_antisymm z ha
        unfold goV Mx.app at g
        dsimp only at g
        rw [e0] at g
        have := Int.mul_pos (Int.mul_pos b0 (show 0 < b by omega)) (show 0 < b by omega)
        grind
    have g2 := (go_beside hm ha ha2 hb hb2).2 g
    have T0 := hp.1
    have big : 0 ≤ 10000000000000000000000000000000000000000 * (appN m 250 e).1 - (appN m 250 e).2 := by
      generalize (appN m 250 e).1 = T at *
      generalize (appN m 250 e).2 = U at *
      have k1 : U * 1 ≤ U * a := Int.mul_le_mul_of_nonneg_left a1 (Int.le_of_lt U0)
      have k2 : T * b ≤ T * 1000000000000 := Int.mul_le_mul_of_nonneg_left hb2 T0
      rw [Int.mul_comm a U] at z
      omega
    have := go_up' q (y := (10000000000000000000000000000000000000000 * a - b, 10000000000000000000000000000000000000000 * b)) (z := (10000000000000000000000000000000000000000 * (appN m 250 e).1 - (appN m 250 e).2, 10000000000000000000000000000000000000000 * (appN m 250 e).2)) (by unfold Pos2; dsimp only; omega) (by unfold Pos2; dsimp only; omega) (by
      dsimp only
      generalize (appN m 250 e).1 = T at *
      generalize (appN m 250 e).2 = U at *
      have e1 : (10000000000000000000000000000000000000000 * a - b) * (10000000000000000000000000000000000000000 * U) = 100000000000000000000000000000000000000000000000000000000000000000000000000000000 * (a * U) - 10000000000000000000000000000000000000000 * (U * b) := by grind
      have e2 : (10000000000000000000000000000000000000000 * T - U) * (10000000000000000000000000000000000000000 * b) = 100000000000000000000000000000000000000000000000000000000000000000000000000000000 * (T * b) - 10000000000000000000000000000000000000000 * (U * b) := by grind
      rw [e1, e2]
      omega) g2
    omega
end
end RL

namespace RL
/-! ### stars and rings: their form, and those of short rows -/
def asF (r : List Pc) : List FPc := r.map fun p => (p.1, (p.2, 1))
end RL

/-! Repetitions of rows: the functions that the program computes. -/
namespace RL
def ch (t b : Int) : Nat → Int × Int → Int × Int
  | 0, e => e
  | n + 1, e => ((ch t b n e).2, t * (ch t b n e).2 - b * b * (ch t b n e).1)
def bis (P : Int → Bool) : Nat → Int → Int → Int
  | 0, lo, _ => lo
  | n + 1, lo, hi => if lo < hi then (if P ((lo + hi) / 2) = true then bis P n ((lo + hi) / 2 + 1) hi else bis P n lo ((lo + hi) / 2)) else lo
def bisR (P : Int → Bool) (lo hi : Int) : Int := bis P (hi - lo).toNat lo hi
def rootX (number : Int) (n : Nat) : Int := bisR (fun m => decide (m ^ n < number)) 1 number
def rootR (number : Int) (n : Nat) : Option Int := if rootX number n ^ n = number then some (rootX number n) else none
def sumX (n : Nat) (total b : Int) : Int := bisR (fun m => decide ((ch m b (n - 1) (2, m)).2 < total)) (2 * b) total
def sumR (n : Nat) (total b : Int) : Option Int := if (ch (sumX n total b) b (n - 1) (2, sumX n total b)).2 = total then some (sumX n total b) else none
def lostR (s top b : Int) (n : Nat) : Int := ((ch top b (n - 1) (0, 1)).2 - (ch top b (n - 1) (0, 1)).1 * b) * s
def rowT (m : Mx) (s b top : Int) (n : Nat) : Option (List FPc) :=
  if m.a * b ^ (n - 1) - lostR s top b n < 0 ∨ m.d * b ^ (n - 1) - lostR s top b n < 0 then none
  else some (opt true (m.a * b ^ (n - 1) - lostR s top b n) (m.c * b ^ (n - 1)) ++ (opt false ((ch top b (n - 1) (0, 1)).2 * s) (m.c * b ^ (n - 1)) ++ opt true (m.d * b ^ (n - 1) - lostR s top b n) (m.c * b ^ (n - 1))))
def rowR (m : Mx) (s total b : Int) (n : Nat) : Option (List FPc) := match sumR n total b with
  | none => none
  | some top => rowT m s b top n
def tryR (m : Mx) (s total bottom : Int) (n : Nat) : Option (List FPc) := match rootR bottom n with
  | none => none
  | some b => rowR m s total b n
def repL (m : Mx) (s total bottom : Int) : Nat → Option (Nat × List FPc)
  | 0 => none
  | n + 1 => match tryR m s total bottom (n + 1) with
    | some r => some (n + 1, r)
    | none => repL m s total bottom n

def repR (bitsN : Int → Nat) (r : List Pc) : Option (Nat × List FPc) :=
  if (matR r).b = 0 ∨ (matR r).c = 0 then none
  else repL (matR r) (sclR r) (low ((matR r).a + (matR r).d, sclR r)).1 (low ((matR r).a + (matR r).d, sclR r)).2 (bitsN (low ((matR r).a + (matR r).d, sclR r)).1)
/-! ### from behind -/
/-! ### bounds -/
end RL

namespace RL
theorem low_frt {r : List Pc} {e : Int × Int} (hr : RowOk r) (h : Pos2 e) : low (frtR r e) = low ((matR r).app e) := by
  obtain ⟨k, hk, ek⟩ := frtR_act hr h
  rw [mat_app, ek, low_sc hk]
end RL

/-! Stars and rings tell patterns apart; stars of patterns joined. -/
namespace RL
end RL

/-! Patterns that never show more than others: the sign of a parabola from 0 on. -/
namespace RL
def sgn (n : Int) : Int := if n > 0 then 1 else if n < 0 then -1 else 0
theorem sgn_lt {n : Int} : sgn n < 0 ↔ n < 0 := by
  unfold sgn
  split
  · omega
  · split <;> omega
theorem sgn_gt {n : Int} : sgn n > 0 ↔ n > 0 := by
  unfold sgn
  split
  · omega
  · split <;> omega
def qS (m n : Mx) : Int := m.a * n.c - n.a * m.c
def qL (m n : Mx) : Int := m.a * n.d + m.b * n.c - n.a * m.d - n.b * m.c
def qW (m n : Mx) : Int := m.b * n.d - n.b * m.d
def qv (S L W : Int) (e : Int × Int) : Int := S * e.1 * e.1 + L * e.1 * e.2 + W * e.2 * e.2
def farS (S L W : Int) : Int := if (sgn S != 0) = true then sgn S else if (sgn L != 0) = true then sgn L else sgn W
def nbB (S L W : Int) : Bool := decide (¬ (W < 0 ∨ farS S L W < 0) ∧ (S ≤ 0 ∨ L ≥ 0 ∨ L * L ≤ 4 * S * W))
def endsE (S L W : Int) : List (Int × Int) := [(0, 1), (1, 0)] ++ (if S ≠ 0 ∧ L ≠ 0 then [low ((L.natAbs : Int), 2 * (S.natAbs : Int))] else []) ++ (if L ≠ 0 then [low ((W.natAbs : Int) + 1, (L.natAbs : Int))] else [])
def lowE (S L W : Int) : Int × Int := if W < 0 then (0, 1) else if S < 0 then (1, 0) else if S = 0 then (W - L, -L) else (-L, 2 * S)
end RL

/-! Two patterns with proportional equations: one sign tells which shows more, on each side of the limit, and which comes near faster. -/
namespace RL
structure Alike (m n : Mx) (p q : Int) : Prop where
  p0 : 0 < p
  q0 : 0 < q
  ec : q * n.c = p * m.c
  eb : q * n.b = p * m.b
  ed : q * (n.d - n.a) = p * (m.d - m.a)
def sigma (m n : Mx) (p q : Int) : Int := p * m.a - q * n.a
section
variable {m n : Mx} {p q : Int}
end
end RL

/-! Two patterns that leave one fraction t / u as it is: how ladders of them go on beside one another. -/
namespace RL
def dl (t u : Int) (x : Int × Int) : Int := x.1 * u - t * x.2
def vF (m : Mx) (t u : Int) : Int := m.a * u - m.c * t
def wF (m : Mx) (t u : Int) : Int := m.c * t + m.d * u
def crs (x y : Int × Int) : Int := x.1 * y.2 - y.1 * x.2
section
variable {m n : Mx} {t u : Int}
theorem fix_eq (f : goV m (t, u) = 0) : u * (m.b * u - m.d * t) = - (t * vF m t u) := by
  unfold goV Mx.app at f
  unfold vF
  dsimp only at f
  grind
theorem fix_dl (u0 : u ≠ 0) (f : goV m (t, u) = 0) (x : Int × Int) : u * dl t u (m.app x) = vF m t u * dl t u x := by
  have h := fix_eq f
  unfold dl Mx.app
  dsimp only
  have : u * ((m.a * x.1 + m.b * x.2) * u - t * (m.c * x.1 + m.d * x.2)) = u * x.1 * vF m t u + x.2 * (u * (m.b * u - m.d * t)) := by
    unfold vF
    grind
  rw [this, h]
  grind
theorem fix_bt (x : Int × Int) : u * (m.app x).2 = m.c * dl t u x + wF m t u * x.2 := by
  unfold dl wF Mx.app
  dsimp only
  grind
theorem crs_dl (x y : Int × Int) : u * crs x y = dl t u x * y.2 - dl t u y * x.2 := by
  unfold crs dl
  grind
theorem crs_step (u0 : u ≠ 0) (f : goV m (t, u) = 0) (g : goV n (t, u) = 0) (x y : Int × Int) : u * u * (u * crs (m.app x) (n.app y)) = vF m t u * wF n t u * (dl t u x * y.2) - vF n t u * wF m t u * (dl t u y * x.2) + dl t u x * dl t u y * (vF m t u * n.c - vF n t u * m.c) := by
  rw [crs_dl (t := t)]
  have a1 := fix_dl u0 f x
  have a2 := fix_dl u0 g y
  have b1 := fix_bt (m := m) (t := t) (u := u) x
  have b2 := fix_bt (m := n) (t := t) (u := u) y
  have e : u * u * (dl t u (m.app x) * (n.app y).2 - dl t u (n.app y) * (m.app x).2) = (u * dl t u (m.app x)) * (u * (n.app y).2) - (u * dl t u (n.app y)) * (u * (m.app x).2) := by grind
  rw [e, a1, a2, b1, b2]
  grind
def pullE (m n : Mx) (t u : Int) : Int := n.c * (wF m t u - vF m t u) - m.c * (wF n t u - vF n t u)
def pullP (m n : Mx) (t u : Int) (x y : Int × Int) : Int := (wF m t u - vF m t u) * (wF n t u - vF n t u) * (u * crs x y) + dl t u x * dl t u y * pullE m n t u
theorem one_rate_step (u0 : u ≠ 0) (f : goV m (t, u) = 0) (g : goV n (t, u) = 0) (r : wF m t u * vF n t u = wF n t u * vF m t u) (x y : Int × Int) :
    (wF n t u - vF n t u) * (u * u * (u * crs (m.app x) (n.app y))) = (wF n t u - vF n t u) * (vF m t u * vF n t u) * (u * crs x y) + vF n t u * pullP m n t u x y := by
  rw [crs_step u0 f g]
  have e1 : vF m t u * wF n t u * (dl t u x * y.2) - vF n t u * wF m t u * (dl t u y * x.2) = vF m t u * wF n t u * (u * crs x y) := by
    rw [crs_dl (t := t), show vF n t u * wF m t u = vF m t u * wF n t u by grind]
    grind
  rw [e1]
  unfold pullP pullE
  generalize u * crs x y = c at *
  generalize dl t u x * dl t u y = d at *
  generalize vF m t u = v1 at *
  generalize wF m t u = w1 at *
  generalize vF n t u = v2 at *
  generalize wF n t u = w2 at *
  have k : v1 * w2 = w1 * v2 := by grind
  have e2 : (w2 - v2) * (v1 * n.c - v2 * m.c) = v2 * (n.c * (w1 - v1) - m.c * (w2 - v2)) := by
    have : (w2 - v2) * (v1 * n.c) = v2 * (n.c * (w1 - v1)) := by
      have : (w2 - v2) * (v1 * n.c) = n.c * (v1 * w2) - n.c * (v1 * v2) := by grind
      rw [this, k]
      grind
    grind
  have e3 : (w2 - v2) * (v1 * w2) = (w2 - v2) * (v1 * v2) + v2 * ((w1 - v1) * (w2 - v2)) := by
    rw [k]
    grind
  have e4 : (w2 - v2) * (v1 * w2 * c + d * (v1 * n.c - v2 * m.c)) = ((w2 - v2) * (v1 * w2)) * c + d * ((w2 - v2) * (v1 * n.c - v2 * m.c)) := by grind
  rw [e4, e2, e3]
  grind
theorem pull_step (u0 : u ≠ 0) (f : goV m (t, u) = 0) (g : goV n (t, u) = 0) (r : wF m t u * vF n t u = wF n t u * vF m t u) (x y : Int × Int) :
    (wF n t u - vF n t u) * (u * u * pullP m n t u (m.app x) (n.app y)) = (wF n t u - vF n t u) * (vF n t u * wF m t u) * pullP m n t u x y := by
  have s := one_rate_step u0 f g r x y
  have a1 := fix_dl u0 f x
  have a2 := fix_dl u0 g y
  have e1 : u * u * (dl t u (m.app x) * dl t u (n.app y)) = vF m t u * vF n t u * (dl t u x * dl t u y) := by
    have : u * u * (dl t u (m.app x) * dl t u (n.app y)) = (u * dl t u (m.app x)) * (u * dl t u (n.app y)) := by grind
    rw [this, a1, a2]
    grind
  have e2 : (wF n t u - vF n t u) * (u * u * pullP m n t u (m.app x) (n.app y)) = (wF m t u - vF m t u) * (wF n t u - vF n t u) * ((wF n t u - vF n t u) * (u * u * (u * crs (m.app x) (n.app y)))) + (wF n t u - vF n t u) * (u * u * (dl t u (m.app x) * dl t u (n.app y))) * pullE m n t u := by
    unfold pullP
    grind
  rw [e2, s, e1]
  have e3 : dl t u x * dl t u y * pullE m n t u = pullP m n t u x y - (wF m t u - vF m t u) * (wF n t u - vF n t u) * (u * crs x y) := by
    unfold pullP
    grind
  have e4 : (wF n t u - vF n t u) * (vF m t u * vF n t u * (dl t u x * dl t u y)) * pullE m n t u = (wF n t u - vF n t u) * (vF m t u * vF n t u) * (dl t u x * dl t u y * pullE m n t u) := by grind
  rw [e4, e3]
  generalize pullP m n t u x y = P
  generalize u * crs x y = c
  grind
theorem one_rate_stays (u0 : 0 < u) (f : goV m (t, u) = 0) (g : goV n (t, u) = 0) (r : wF m t u * vF n t u = wF n t u * vF m t u) (v1 : 0 < vF m t u) (v2 : 0 < vF n t u) (w2 : vF n t u < wF n t u) (w1 : 0 < wF m t u) {x y : Int × Int} {k : Int} (hk : k = 1 ∨ k = -1) (hc : 0 < k * crs x y) (hp : 0 ≤ k * pullP m n t u x y) :
    0 < k * crs (m.app x) (n.app y) ∧ 0 ≤ k * pullP m n t u (m.app x) (n.app y) := by
  have s := one_rate_step (Int.ne_of_gt u0) f g r x y
  have p := pull_step (Int.ne_of_gt u0) f g r x y
  have B : 0 < wF n t u - vF n t u := by omega
  have uu := Int.mul_pos u0 u0
  constructor
  · have h1 := Int.mul_pos (Int.mul_pos B (Int.mul_pos v1 v2)) (Int.mul_pos u0 hc)
    have h2 := Int.mul_nonneg (Int.le_of_lt v2) hp
    have e : (wF n t u - vF n t u) * (u * u * u) * (k * crs (m.app x) (n.app y)) = (wF n t u - vF n t u) * (vF m t u * vF n t u) * (u * (k * crs x y)) + vF n t u * (k * pullP m n t u x y) := by
      have e1 : (wF n t u - vF n t u) * (u * u * u) * (k * crs (m.app x) (n.app y)) = k * ((wF n t u - vF n t u) * (u * u * (u * crs (m.app x) (n.app y)))) := by grind
      rw [e1, s]
      grind
    refine pos_of (Int.mul_pos B (Int.mul_pos uu u0)) ?_
    rw [e]
    omega
  · have h1 := Int.mul_nonneg (Int.le_of_lt (Int.mul_pos B (Int.mul_pos v2 w1))) hp
    have e : (wF n t u - vF n t u) * (u * u) * (k * pullP m n t u (m.app x) (n.app y)) = (wF n t u - vF n t u) * (vF n t u * wF m t u) * (k * pullP m n t u x y) := by
      have e1 : (wF n t u - vF n t u) * (u * u) * (k * pullP m n t u (m.app x) (n.app y)) = k * ((wF n t u - vF n t u) * (u * u * pullP m n t u (m.app x) (n.app y))) := by grind
      rw [e1, p]
      grind
    rcases Int.lt_or_le (k * pullP m n t u (m.app x) (n.app y)) 0 with z | z
    · have := Int.mul_pos (Int.mul_pos B uu) (show 0 < -(k * pullP m n t u (m.app x) (n.app y)) by omega)
      rw [Int.mul_neg, e] at this
      omega
    · exact z
end
end RL

/-! Patterns ordered by what they show; the limits of their ladders. -/
namespace RL
structure TinyB (a b c : Int) : Prop where
  good : Good a b c
  ha : a ≤ 816000000
  hb : -816000001 ≤ b ∧ b ≤ 816000001
  hc : c ≤ 816000000
theorem TinyB.nn {a b c : Int} (h : TinyB a b c) : 0 ≤ a ∧ 0 ≤ c := by
  rcases h.good with g | g <;> omega
def eqP (r : List Pc) : Int × Int × Int := if (matR r).b = 0 then (0, 1, 0) else ((matR r).c, (matR r).d - (matR r).a, (matR r).b)
theorem goV_fv (m : Mx) (x y : Int) : goV m (x, y) = Fv m.c (m.d - m.a) m.b x y := by
  unfold goV Mx.app Fv
  dsimp
  grind
theorem rungs_ad {r : List Pc} (hr : RowOk r) (hb : (matR r).b = 0) : (matR r).a = (matR r).d := by
  have det := matR_det r
  obtain ⟨ga, gd⟩ := scl_le hr
  have s0 := sclR_pos hr
  rw [hb, Int.zero_mul] at det
  have h1 := Int.mul_le_mul_of_nonneg_left gd (show 0 ≤ (matR r).a by omega)
  have h2 := Int.mul_le_mul_of_nonneg_right ga (Int.le_of_lt s0)
  have h3 := Int.mul_le_mul_of_nonneg_right ga (show 0 ≤ (matR r).d by omega)
  have h4 := Int.mul_le_mul_of_nonneg_left gd (Int.le_of_lt s0)
  have e1 : (matR r).a * sclR r = sclR r * sclR r := by omega
  have e2 : sclR r * (matR r).d = sclR r * sclR r := by omega
  have a1 : (matR r).a = sclR r := Int.eq_of_mul_eq_mul_right (by omega) e1
  have d1 : (matR r).d = sclR r := Int.eq_of_mul_eq_mul_left (by omega) e2
  omega
/-! ### an order of patterns -/
def nmR (r r' : List Pc) : Bool := nbB (qS (matR r') (matR r)) (qL (matR r') (matR r)) (qW (matR r') (matR r))
def leP (e f : Int × Int) : Prop := e.1 * f.2 ≤ f.1 * e.2
theorem leP_trans {e f g : Int × Int} (he : Pos2 e) (hf : Pos2 f) (hg : Pos2 g) (h : leP e f) (k : leP f g) : leP e g := by
  unfold leP at *
  obtain ⟨e1, e2, e3⟩ := he
  obtain ⟨f1, f2, f3⟩ := hf
  obtain ⟨g1, g2, g3⟩ := hg
  rcases Int.lt_or_le 0 f.2 with z | z
  · have a := Int.mul_le_mul_of_nonneg_right h g2
    have b := Int.mul_le_mul_of_nonneg_right k e2
    have c1 : e.1 * f.2 * g.2 = f.2 * (e.1 * g.2) := by grind
    have c2 : f.1 * e.2 * g.2 = f.1 * g.2 * e.2 := by grind
    have c3 : g.1 * f.2 * e.2 = f.2 * (g.1 * e.2) := by grind
    exact Int.le_of_mul_le_mul_left (show f.2 * (e.1 * g.2) ≤ f.2 * (g.1 * e.2) by omega) z
  · have f0 : f.2 = 0 := by omega
    have p : 0 < f.1 := by omega
    rw [f0, Int.mul_zero] at k
    have g0 : g.2 = 0 := by
      rcases Int.lt_or_le 0 g.2 with y | y
      · have := Int.mul_pos p y
        omega
      · omega
    rw [g0, Int.mul_zero]
    exact Int.mul_nonneg g1 e2
end RL

/-! Any pattern: the sign of its way along the line; two runs with unlike limits. -/
namespace RL
structure Way (m : Mx) : Prop where
  a0 : 0 < m.a
  d0 : 0 < m.d
  b0 : 0 ≤ m.b
  c0 : 0 ≤ m.c
  ne : 0 < m.b ∨ 0 < m.c
  ad : m.b = 0 ∨ m.c = 0 → m.a = m.d
  det : 0 < m.a * m.d - m.b * m.c
theorem rails_ad {r : List Pc} (hr : RowOk r) (hc : (matR r).c = 0) : (matR r).a = (matR r).d := by
  have det := matR_det r
  obtain ⟨ga, gd⟩ := scl_le hr
  have s0 := sclR_pos hr
  rw [hc, Int.mul_zero] at det
  have h1 := Int.mul_le_mul_of_nonneg_left gd (show 0 ≤ (matR r).a by omega)
  have h2 := Int.mul_le_mul_of_nonneg_right ga (Int.le_of_lt s0)
  have h3 := Int.mul_le_mul_of_nonneg_right ga (show 0 ≤ (matR r).d by omega)
  have h4 := Int.mul_le_mul_of_nonneg_left gd (Int.le_of_lt s0)
  have e1 : (matR r).a * sclR r = sclR r * sclR r := by omega
  have e2 : sclR r * (matR r).d = sclR r * sclR r := by omega
  have a1 : (matR r).a = sclR r := Int.eq_of_mul_eq_mul_right (by omega) e1
  have d1 : (matR r).d = sclR r := Int.eq_of_mul_eq_mul_left (by omega) e2
  omega
theorem way_of {r : List Pc} (hr : RowOk r) (ne : 1 ≤ r.length) : Way (matR r) := by
  obtain ⟨a0, b0, c0, d0, _⟩ := matR_ok hr
  obtain ⟨_, a1, d1⟩ := tr_pos hr
  refine ⟨a1, d1, b0, c0, ?_, ?_, ?_⟩
  · match r, ne with
    | p :: t, _ =>
      cases hp : p.1 with
      | true => exact .inl (b_pos hr ⟨p, List.mem_cons_self, hp⟩)
      | false => exact .inr (c_pos hr ⟨p, List.mem_cons_self, hp⟩)
  · rintro (h | h)
    · exact rungs_ad hr h
    · exact rails_ad hr h
  · rw [matR_det]
    exact Int.mul_pos (sclR_pos hr) (sclR_pos hr)
section
variable {m n : Mx}
theorem Way.goV_c (h : Way m) (c : m.c = 0) (e : Int × Int) : goV m e = m.b * (e.2 * e.2) := by
  have ad := h.ad (.inr c)
  unfold goV Mx.app
  dsimp only
  rw [c, ad]
  grind
theorem Way.goV_b (h : Way m) (b : m.b = 0) (e : Int × Int) : goV m e = - (m.c * (e.1 * e.1)) := by
  have ad := h.ad (.inl b)
  unfold goV Mx.app
  dsimp only
  rw [b, ad]
  grind
theorem Way.bot (h : Way m) {y z : Int × Int} (hy : Pos2 y) (w : y.1 * z.2 ≤ z.1 * y.2) (hz2 : 0 < z.2) : 0 < y.2 := by
  rcases Int.lt_or_le 0 y.2 with k | k
  · exact k
  · have e0 : y.2 = 0 := Int.le_antisymm k hy.2.1
    have y1 : 0 < y.1 := by
      obtain ⟨_, _, k⟩ := hy
      omega
    rw [e0, Int.mul_zero] at w
    have := Int.mul_pos y1 hz2
    omega
theorem Way.top (h : Way m) {y z : Int × Int} (hz : Pos2 z) (w : y.1 * z.2 ≤ z.1 * y.2) (hy1 : 0 < y.1) : 0 < z.1 := by
  rcases Int.lt_or_le 0 z.1 with k | k
  · exact k
  · have e0 : z.1 = 0 := Int.le_antisymm k hz.1
    have z2 : 0 < z.2 := by
      obtain ⟨_, _, k⟩ := hz
      omega
    rw [e0, Int.zero_mul] at w
    have := Int.mul_pos hy1 z2
    omega
theorem Way.nonneg_go (h : Way m) {y z : Int × Int} (hy : Pos2 y) (hz : Pos2 z) (w : y.1 * z.2 ≤ z.1 * y.2) : y.1 * y.2 * goV m z ≤ z.1 * z.2 * goV m y := by
  have o := go_order m y z
  have p2 : 0 ≤ (y.2 * z.1 - y.1 * z.2) * (m.c * (y.1 * z.1) + m.b * (y.2 * z.2)) := Int.mul_nonneg (by rw [Int.mul_comm y.2]; omega) (by
    have := Int.mul_nonneg h.c0 (Int.mul_nonneg hy.1 hz.1)
    have := Int.mul_nonneg h.b0 (Int.mul_nonneg hy.2.1 hz.2.1)
    omega)
  omega
theorem Way.down (h : Way m) {y z : Int × Int} (hy : Pos2 y) (hz : Pos2 z) (w : y.1 * z.2 ≤ z.1 * y.2) (g : 0 < goV m z) : 0 < goV m y := by
  have z2 : 0 < z.2 := by
    rcases Int.lt_or_le 0 z.2 with k | k
    · exact k
    · have e0 : z.2 = 0 := Int.le_antisymm k hz.2.1
      unfold goV Mx.app at g
      dsimp only at g
      rw [e0] at g
      have := Int.mul_nonneg h.c0 (Int.mul_nonneg hz.1 hz.1)
      grind
  have y2 := h.bot hy w z2
  rcases Int.lt_or_le 0 m.b with b | b
  · rcases Int.lt_or_le 0 y.1 with y1 | y1
    · have z1 := h.top hz w y1
      have := h.nonneg_go hy hz w
      have p := Int.mul_pos (Int.mul_pos y1 y2) g
      exact pos_of (Int.mul_pos z1 z2) (by omega)
    · have e0 : y.1 = 0 := Int.le_antisymm y1 hy.1
      unfold goV Mx.app
      dsimp only
      rw [e0]
      have := Int.mul_pos (Int.mul_pos b y2) y2
      grind
  · have b0 : m.b = 0 := Int.le_antisymm b h.b0
    rw [h.goV_b b0] at g
    have := Int.mul_nonneg h.c0 (Int.mul_nonneg hz.1 hz.1)
    omega
theorem Way.up (h : Way m) {y z : Int × Int} (hy : Pos2 y) (hz : Pos2 z) (w : y.1 * z.2 ≤ z.1 * y.2) (g : goV m y < 0) : goV m z < 0 := by
  have y1 : 0 < y.1 := by
    rcases Int.lt_or_le 0 y.1 with k | k
    · exact k
    · have e0 : y.1 = 0 := Int.le_antisymm k hy.1
      unfold goV Mx.app at g
      dsimp only at g
      rw [e0] at g
      have := Int.mul_nonneg h.b0 (Int.mul_nonneg hy.2.1 hy.2.1)
      grind
  have z1 := h.top hz w y1
  rcases Int.lt_or_le 0 m.c with c | c
  · rcases Int.lt_or_le 0 z.2 with z2 | z2
    · have y2 := h.bot hy w z2
      have k := h.nonneg_go hy hz w
      have p := Int.mul_pos (Int.mul_pos z1 z2) (show 0 < - goV m y by omega)
      rw [Int.mul_neg] at p
      exact neg_of (Int.mul_pos y1 y2) (by omega)
    · have e0 : z.2 = 0 := Int.le_antisymm z2 hz.2.1
      unfold goV Mx.app
      dsimp only
      rw [e0]
      have := Int.mul_pos (Int.mul_pos c z1) z1
      grind
  · have c0 : m.c = 0 := Int.le_antisymm c h.c0
    rw [h.goV_c c0] at g
    have := Int.mul_nonneg h.b0 (Int.mul_nonneg hy.2.1 hy.2.1)
    omega
theorem Way.pos (h : Way m) {x : Int × Int} (hx : Pos2 x) : Pos2 (m.app x) := by
  obtain ⟨x1, x2, k⟩ := hx
  have h1 := Int.mul_nonneg (Int.le_of_lt h.a0) x1
  have h2 := Int.mul_nonneg h.b0 x2
  have h3 := Int.mul_nonneg h.c0 x1
  have h4 := Int.mul_nonneg (Int.le_of_lt h.d0) x2
  refine ⟨?_, ?_, ?_⟩ <;> unfold Mx.app <;> dsimp only
  · omega
  · omega
  · rcases k with k | k
    · have := Int.mul_pos h.a0 k
      omega
    · have := Int.mul_pos h.d0 k
      omega
theorem Way.go_app (h : Way m) (x : Int × Int) : (0 < goV m (m.app x) ↔ 0 < goV m x) ∧ (goV m (m.app x) < 0 ↔ goV m x < 0) := by
  rw [goV_app]
  constructor
  · exact ⟨pos_of h.det, fun k => Int.mul_pos h.det k⟩
  · exact ⟨neg_of h.det, fun k => by
      have := Int.mul_pos h.det (show 0 < - goV m x by omega)
      rw [Int.mul_neg] at this
      omega⟩
def LimLt (n m : Mx) : Prop := ∀ z, Pos2 z → goV m z ≤ 0 → goV n z < 0
end
end RL

/-! Two runs with one limit: what is settled stays so, where the own pattern shows as much on the whole way. -/
namespace RL
section
variable {m n : Mx}
theorem crs_app (m : Mx) (x y : Int × Int) : crs (m.app x) (m.app y) = (m.a * m.d - m.b * m.c) * crs x y := by
  unfold crs Mx.app
  dsimp only
  grind
theorem crs_gap (m n : Mx) (x : Int × Int) : crs (m.app x) (n.app x) = qv (qS m n) (qL m n) (qW m n) x := by
  unfold crs qv qS qL qW Mx.app
  dsimp only
  grind
theorem crs_trans {x y z : Int × Int} (hx : Pos2 x) (hy : Pos2 y) (hz : Pos2 z) (h : 0 ≤ crs x y) (k : 0 < crs y z) : 0 < crs x z := by
  rcases Int.lt_or_le 0 (crs x z) with w | w
  · exact w
  · have l1 : leP x z := by unfold leP; unfold crs at w; omega
    have l2 : leP y x := by unfold leP; unfold crs at h; omega
    have := leP_trans hy hx hz l2 l1
    unfold leP at this
    unfold crs at k
    omega
theorem crs_anti (x y : Int × Int) : crs y x = - crs x y := by
  unfold crs
  omega
theorem same_step (hm : Way m) (hn : Way n) {x y : Int × Int} (hx : Pos2 x) (hy : Pos2 y) {f : Int} (hf : f = 1 ∨ f = -1) (c : 0 < f * crs x y) (g : 0 ≤ f * qv (qS m n) (qL m n) (qW m n) x) : 0 < f * crs (m.app x) (n.app y) := by
  have hX := hm.pos hx
  have hN := hn.pos hx
  have hY := hn.pos hy
  have d := hn.det
  rw [← crs_gap] at g
  rcases hf with rfl | rfl
  · rw [Int.one_mul] at *
    exact crs_trans hX hN hY g (by rw [crs_app]; exact Int.mul_pos d c)
  · have e1 : -1 * crs (m.app x) (n.app y) = crs (n.app y) (m.app x) := by rw [crs_anti (m.app x)]; omega
    rw [e1]
    have k1 : 0 < crs (n.app y) (n.app x) := by
      rw [crs_app]
      exact Int.mul_pos d (by rw [crs_anti x y]; omega)
    have k2 : 0 ≤ crs (n.app x) (m.app x) := by
      rw [crs_anti (m.app x)]
      omega
    rcases Int.lt_or_le 0 (crs (n.app y) (m.app x)) with w | w
    · exact w
    · have l1 : leP (n.app y) (m.app x) := by unfold leP; unfold crs at w; omega
      have l2 : leP (m.app x) (n.app x) := by unfold leP; unfold crs at k2; omega
      have := leP_trans hY hX hN l1 l2
      unfold leP at this
      unfold crs at k1
      omega
theorem ahead_up (hm : Way m) {x z : Int × Int} (hx : Pos2 x) (hz : Pos2 z) (g : 0 ≤ goV m x) (h : leP (m.app x) z) : leP x z := by
  have e : goV m x = (m.app x).1 * x.2 - x.1 * (m.app x).2 := rfl
  exact leP_trans hx (hm.pos hx) hz (by unfold leP; omega) h
theorem ahead_down (hm : Way m) {x z : Int × Int} (hx : Pos2 x) (hz : Pos2 z) (g : goV m x ≤ 0) (h : leP z (m.app x)) : leP z x := by
  have e : goV m x = (m.app x).1 * x.2 - x.1 * (m.app x).2 := rfl
  exact leP_trans hz (hm.pos hx) hx h (by unfold leP; omega)
end
end RL

/-! A parabola is at least 0 on a stretch up to the limit of a pattern. -/
namespace RL
def SalN (m : Mx) (sl h : Int) : Prop := (sl = 0 → h ≤ 0) ∧ (0 < sl → h ≤ 0 ∨ 0 ≤ goV m (h, sl)) ∧ (sl < 0 → h ≤ 0 ∧ goV m (-h, -sl) ≤ 0)
def slF (m : Mx) (S L : Int) : Int := L * m.c - S * (m.d - m.a)
def htF (m : Mx) (S W : Int) : Int := - (W * m.c) - S * m.b
section
variable {m : Mx} {S L W : Int}
theorem q_line (w : Int × Int) : m.c * qv S L W w = w.2 * (slF m S L * w.1 - htF m S W * w.2) - S * goV m w := by
  unfold qv slF htF goV Mx.app
  dsimp only
  grind
theorem q_three' (x z w : Int × Int) : qv S L W z * crs w x * (w.2 * x.2) = crs w z * qv S L W x * (w.2 * z.2) + crs z x * qv S L W w * (z.2 * x.2) - S * (crs w z * crs z x * crs w x) := by
  unfold qv crs
  grind
theorem q_two' (z w : Int × Int) : qv S L W w * (z.2 * z.2) - qv S L W z * (w.2 * w.2) = crs w z * (S * (w.1 * z.2 + z.1 * w.2) + L * (w.2 * z.2)) := by
  unfold qv crs
  grind
theorem q_disc (w : Int × Int) : 4 * S * qv S L W w = (2 * S * w.1 + L * w.2) * (2 * S * w.1 + L * w.2) + (4 * S * W - L * L) * (w.2 * w.2) := by
  unfold qv
  grind
theorem nn_of {k x : Int} (hk : 0 < k) (h : 0 ≤ k * x) : 0 ≤ x := by
  rcases Int.lt_or_le x 0 with z | z
  · have := Int.mul_pos hk (show 0 < -x by omega)
    rw [Int.mul_neg] at this
    omega
  · exact z
theorem q_at {x z : Int × Int} (hx : 0 < x.2) (hz : 0 < z.2) (e : crs z x = 0) (h : 0 ≤ qv S L W x) : 0 ≤ qv S L W z := by
  have t := q_two' (S := S) (L := L) (W := W) x z
  rw [e, Int.zero_mul] at t
  have := Int.mul_nonneg h (Int.mul_nonneg (Int.le_of_lt hz) (Int.le_of_lt hz))
  refine nn_of (Int.mul_pos hx hx) ?_
  rw [Int.mul_comm]
  omega
theorem q_hill (s : S ≤ 0) {x z w : Int × Int} (hx : 0 < x.2) (hz : 0 < z.2) (hw : 0 < w.2) (a : 0 ≤ crs z x) (b : 0 ≤ crs w z) (q1 : 0 ≤ qv S L W x) (q2 : 0 ≤ qv S L W w) : 0 ≤ qv S L W z := by
  rcases Int.lt_or_le 0 (crs z x) with a' | a'
  · have e : z.2 * crs w x = x.2 * crs w z + w.2 * crs z x := by unfold crs; grind
    have wx : 0 < crs w x := by
      have h1 := Int.mul_nonneg (Int.le_of_lt hx) b
      have h2 := Int.mul_pos hw a'
      exact pos_of hz (by omega)
    have t := q_three' (S := S) (L := L) (W := W) x z w
    have h1 := Int.mul_nonneg (Int.mul_nonneg b q1) (Int.mul_nonneg (Int.le_of_lt hw) (Int.le_of_lt hz))
    have h2 := Int.mul_nonneg (Int.mul_nonneg a q2) (Int.mul_nonneg (Int.le_of_lt hz) (Int.le_of_lt hx))
    have h3 := Int.mul_nonneg (show 0 ≤ -S by omega) (Int.mul_nonneg (Int.mul_nonneg b a) (Int.le_of_lt wx))
    rw [Int.neg_mul] at h3
    refine nn_of (Int.mul_pos wx (Int.mul_pos hw hx)) ?_
    have e2 : crs w x * (w.2 * x.2) * qv S L W z = qv S L W z * crs w x * (w.2 * x.2) := by grind
    rw [e2]
    omega
  · exact q_at hx hz (by omega) q1
theorem q_rise (s : 0 ≤ S) {z w : Int × Int} (hz : 0 < z.2) (hw : 0 < w.2) (a : 0 ≤ crs w z) (vz : 0 ≤ 2 * S * z.1 + L * z.2) : qv S L W z * (w.2 * w.2) ≤ qv S L W w * (z.2 * z.2) := by
  have t := q_two' (S := S) (L := L) (W := W) z w
  have k : 0 ≤ S * (w.1 * z.2 + z.1 * w.2) + L * (w.2 * z.2) := by
    have h1 := Int.mul_nonneg vz (Int.le_of_lt hw)
    have h2 := Int.mul_nonneg s a
    have e : S * (w.1 * z.2 + z.1 * w.2) + L * (w.2 * z.2) = (2 * S * z.1 + L * z.2) * w.2 + S * crs w z := by
      unfold crs
      grind
    omega
  have := Int.mul_nonneg a k
  omega
theorem q_fall (s : 0 ≤ S) {z w : Int × Int} (hz : 0 < z.2) (hw : 0 < w.2) (a : 0 ≤ crs w z) (vw : 2 * S * w.1 + L * w.2 ≤ 0) : qv S L W w * (z.2 * z.2) ≤ qv S L W z * (w.2 * w.2) := by
  have t := q_two' (S := S) (L := L) (W := W) z w
  have k : S * (w.1 * z.2 + z.1 * w.2) + L * (w.2 * z.2) ≤ 0 := by
    have h1 := Int.mul_nonneg (show 0 ≤ -(2 * S * w.1 + L * w.2) by omega) (Int.le_of_lt hz)
    have h2 := Int.mul_nonneg s a
    have e : S * (w.1 * z.2 + z.1 * w.2) + L * (w.2 * z.2) = -(-(2 * S * w.1 + L * w.2) * z.2) - S * crs w z := by
      unfold crs
      grind
    omega
  have := Int.mul_nonneg a (show 0 ≤ -(S * (w.1 * z.2 + z.1 * w.2) + L * (w.2 * z.2)) by omega)
  rw [Int.mul_neg] at this
  omega
theorem q_le_nn {z w : Int × Int} (hz : 0 < z.2) (hw : 0 < w.2) (h : qv S L W z * (w.2 * w.2) ≤ qv S L W w * (z.2 * z.2)) (q : 0 ≤ qv S L W z) : 0 ≤ qv S L W w := by
  have := Int.mul_nonneg q (Int.mul_nonneg (Int.le_of_lt hw) (Int.le_of_lt hw))
  refine nn_of (Int.mul_pos hz hz) ?_
  rw [Int.mul_comm]
  omega
theorem Way.down_s (h : Way m) (c : 0 < m.c) {y z : Int × Int} (hy : Pos2 y) (hz : Pos2 z) (w : 0 < crs z y) (g : 0 ≤ goV m z) : 0 < goV m y := by
  have z2 : 0 < z.2 := by
    rcases Int.lt_or_le 0 z.2 with k | k
    · exact k
    · have e0 : z.2 = 0 := Int.le_antisymm k hz.2.1
      have z1 : 0 < z.1 := by
        obtain ⟨_, _, k⟩ := hz
        omega
      unfold goV Mx.app at g
      dsimp only at g
      rw [e0] at g
      have := Int.mul_pos (Int.mul_pos c z1) z1
      grind
  have w' : y.1 * z.2 ≤ z.1 * y.2 := by unfold crs at w; omega
  have y2 := h.bot hy w' z2
  have z1 : 0 < z.1 := by
    rcases Int.lt_or_le 0 z.1 with k | k
    · exact k
    · have e0 : z.1 = 0 := Int.le_antisymm k hz.1
      unfold crs at w
      rw [e0, Int.zero_mul] at w
      have := Int.mul_nonneg hy.1 (Int.le_of_lt z2)
      omega
  have b : 0 < m.b := by
    rcases Int.lt_or_le 0 m.b with k | k
    · exact k
    · rw [h.goV_b (Int.le_antisymm k h.b0)] at g
      have := Int.mul_pos c (Int.mul_pos z1 z1)
      omega
  have o := go_order m y z
  have p := Int.mul_pos (show 0 < y.2 * z.1 - y.1 * z.2 by unfold crs at w; rw [Int.mul_comm y.2]; omega) (show 0 < m.c * (y.1 * z.1) + m.b * (y.2 * z.2) by
    have := Int.mul_nonneg h.c0 (Int.mul_nonneg hy.1 hz.1)
    have := Int.mul_pos b (Int.mul_pos y2 z2)
    omega)
  have n := Int.mul_nonneg (Int.mul_nonneg hy.1 hy.2.1) g
  exact pos_of (Int.mul_pos z1 z2) (by omega)
end
end RL

/-! never_below on the stretch from a place to a limit. -/
namespace RL
section
variable {m : Mx} {S L W : Int}
theorem nn_fall {z w : Int × Int} (hz : 0 < z.2) (hw : 0 < w.2) (h : qv S L W w * (z.2 * z.2) ≤ qv S L W z * (w.2 * w.2)) (q : 0 ≤ qv S L W w) : 0 ≤ qv S L W z := q_le_nn hw hz h q
theorem q_w0 (c : 0 < m.c) {k : Int} (hk : k = 1 ∨ k = -1) (g : S * goV m (k * htF m S W, k * slF m S L) ≤ 0) : 0 ≤ qv S L W (k * htF m S W, k * slF m S L) := by
  have l := q_line (m := m) (S := S) (L := L) (W := W) (k * htF m S W, k * slF m S L)
  have e : slF m S L * (k * htF m S W) - htF m S W * (k * slF m S L) = 0 := by grind
  dsimp only at l
  rw [e, Int.mul_zero] at l
  exact nn_of c (by omega)
theorem stretch (hm : Way m) (c : 0 < m.c) {x z : Int × Int} (hx : Pos2 x) (hx2 : 0 < x.2) (hz : Pos2 z) (hz2 : 0 < z.2) (qx : 0 ≤ qv S L W x) (sal : SalN m (slF m S L) (htF m S W))
    (cond : S ≤ 0 ∨ 0 ≤ L ∨ L * L ≤ 4 * S * W ∨ (0 < 2 * S * x.1 + L * x.2 ∧ 0 < goV m (-L, 2 * S)) ∨ (2 * S * x.1 + L * x.2 < 0 ∧ goV m (-L, 2 * S) < 0))
    (btw : (0 ≤ crs z x ∧ 0 ≤ goV m z) ∨ (0 ≤ crs x z ∧ goV m z ≤ 0)) : 0 ≤ qv S L W z := by
  rcases Int.lt_or_le (qv S L W z) 0 with hq | hq
  · exfalso
    obtain ⟨s1, s2, s3⟩ := sal
    have cq : m.c * qv S L W z < 0 := by
      have := Int.mul_pos c (show 0 < - qv S L W z by omega)
      rw [Int.mul_neg] at this
      omega
    have lz := q_line (m := m) (S := S) (L := L) (W := W) z
    have w1 := q_w0 (m := m) (S := S) (L := L) (W := W) c (.inl rfl)
    have w2 := q_w0 (m := m) (S := S) (L := L) (W := W) c (.inr rfl)
    simp only [Int.one_mul, Int.neg_mul] at w1 w2
    rcases Int.lt_or_le 0 S with s0 | s0
    · -- a valley
      rcases Int.lt_or_le (4 * S * W) (L * L) with dd | dd
      · have cond' : 0 ≤ L ∨ (L < 0 ∧ 0 < 2 * S * x.1 + L * x.2 ∧ 0 < goV m (-L, 2 * S)) ∨ (L < 0 ∧ 2 * S * x.1 + L * x.2 < 0 ∧ goV m (-L, 2 * S) < 0) := by omega
        have rise : (0 ≤ L ∨ (L < 0 ∧ 0 < 2 * S * x.1 + L * x.2 ∧ 0 < goV m (-L, 2 * S))) → False := fun R => by
          rcases btw with ⟨b1, b2⟩ | ⟨b1, b2⟩
          · have vx : 0 ≤ 2 * S * x.1 + L * x.2 := by
              rcases R with h | h
              · have := Int.mul_nonneg (show 0 ≤ 2 * S by omega) hx.1
                have := Int.mul_nonneg h hx.2.1
                omega
              · omega
            have := q_le_nn hx2 hz2 (q_rise (W := W) (Int.le_of_lt s0) hx2 hz2 b1 vx) qx
            omega
          · have sg : S * goV m z ≤ 0 := by
              have := Int.mul_nonneg (Int.le_of_lt s0) (show 0 ≤ - goV m z by omega)
              rw [Int.mul_neg] at this
              omega
            have gz : slF m S L * z.1 - htF m S W * z.2 < 0 := neg_of hz2 (by omega)
            generalize slF m S L = sl at *
            generalize htF m S W = ht at *
            rcases Int.lt_trichotomy sl 0 with k | k | k
            · obtain ⟨h1, h2⟩ := s3 k
              have p0 : Pos2 (-ht, -sl) := ⟨by dsimp only; omega, by dsimp only; omega, .inr (by dsimp only; omega)⟩
              have cz : 0 < crs z (-ht, -sl) := by
                unfold crs
                dsimp only
                have e1 : z.1 * -sl = -(sl * z.1) := by grind
                have e2 : -ht * z.2 = -(ht * z.2) := by grind
                omega
              have q0 := w2 (by
                have := Int.mul_nonneg (Int.le_of_lt s0) (show 0 ≤ - goV m (-ht, -sl) by omega)
                rw [Int.mul_neg] at this
                omega)
              have vw : 0 ≤ 2 * S * (-ht) + L * (-sl) := by
                rcases R with h | ⟨hL, _, hv⟩
                · have := Int.mul_nonneg (show 0 ≤ 2 * S by omega) (show 0 ≤ -ht by omega)
                  have := Int.mul_nonneg h (show 0 ≤ -sl by omega)
                  omega
                · have pv : Pos2 (-L, 2 * S) := ⟨by dsimp only; omega, by dsimp only; omega, .inr (by dsimp only; omega)⟩
                  rcases Int.lt_or_le 0 (crs (-L, 2 * S) (-ht, -sl)) with y | y
                  · have := hm.down p0 pv (by unfold crs at y; omega) hv
                    omega
                  · unfold crs at y
                    dsimp only at y
                    have e1 : -L * -sl = L * sl := by grind
                    have e2 : L * -sl = -(L * sl) := by grind
                    have e3 : -ht * (2 * S) = 2 * S * -ht := by grind
                    omega
              have := q_le_nn (z := (-ht, -sl)) (by dsimp only; omega) hz2 (q_rise (W := W) (Int.le_of_lt s0) (z := (-ht, -sl)) (by dsimp only; omega) hz2 (Int.le_of_lt cz) vw) q0
              omega
            · have := s1 k
              rw [k, Int.zero_mul] at gz
              have := Int.mul_nonneg (show 0 ≤ -ht by omega) (Int.le_of_lt hz2)
              rw [Int.neg_mul] at this
              omega
            · rcases s2 k with h | h
              · have := Int.mul_nonneg (Int.le_of_lt k) hz.1
                have := Int.mul_nonneg (show 0 ≤ -ht by omega) (Int.le_of_lt hz2)
                rw [Int.neg_mul] at this
                omega
              · rcases Int.lt_or_le 0 ht with t | t
                · have := hm.down_s c (y := z) (z := (ht, sl)) hz ⟨by dsimp only; omega, by dsimp only; omega, .inl t⟩ (by
                    unfold crs
                    dsimp only
                    rw [Int.mul_comm z.1]
                    omega) h
                  omega
                · have := Int.mul_nonneg (Int.le_of_lt k) hz.1
                  have := Int.mul_nonneg (show 0 ≤ -ht by omega) (Int.le_of_lt hz2)
                  rw [Int.neg_mul] at this
                  omega
        rcases cond' with h | h | ⟨hL, vx, hv⟩
        · exact rise (.inl h)
        · exact rise (.inr h)
        · rcases btw with ⟨b1, b2⟩ | ⟨b1, b2⟩
          · -- rising, falling values
            have pv : Pos2 (-L, 2 * S) := ⟨by dsimp only; omega, by dsimp only; omega, .inr (by dsimp only; omega)⟩
            have zv : 0 < crs (-L, 2 * S) z := by
              rcases Int.lt_or_le 0 (crs (-L, 2 * S) z) with y | y
              · exact y
              · have := hm.up pv hz (by unfold crs at y; omega) hv
                omega
            have fv := q_fall (W := W) (S := S) (L := L) (Int.le_of_lt s0) hz2 (w := (-L, 2 * S)) (by dsimp only; omega) (Int.le_of_lt zv) (by
              dsimp only
              have : L * (2 * S) = 2 * S * L := by grind
              have : 2 * S * -L = -(2 * S * L) := by grind
              omega)
            have qv0 : qv S L W (-L, 2 * S) < 0 := by
              rcases Int.lt_or_le (qv S L W (-L, 2 * S)) 0 with y | y
              · exact y
              · have := nn_fall hz2 (by dsimp only; omega) fv y
                omega
            have lv := q_line (m := m) (S := S) (L := L) (W := W) (-L, 2 * S)
            have cqv : m.c * qv S L W (-L, 2 * S) < 0 := by
              have := Int.mul_pos c (show 0 < - qv S L W (-L, 2 * S) by omega)
              rw [Int.mul_neg] at this
              omega
            have sgv : S * goV m (-L, 2 * S) < 0 := by
              have := Int.mul_pos s0 (show 0 < - goV m (-L, 2 * S) by omega)
              rw [Int.mul_neg] at this
              omega
            have gv : slF m S L * (-L) - htF m S W * (2 * S) < 0 := neg_of (show 0 < 2 * S by omega) (by dsimp only at lv; omega)
            generalize slF m S L = sl at *
            generalize htF m S W = ht at *
            rcases Int.lt_trichotomy sl 0 with k | k | k
            · obtain ⟨h1, h2⟩ := s3 k
              have p0 : Pos2 (-ht, -sl) := ⟨by dsimp only; omega, by dsimp only; omega, .inr (by dsimp only; omega)⟩
              have q0 := w2 (by
                have := Int.mul_nonneg (Int.le_of_lt s0) (show 0 ≤ - goV m (-ht, -sl) by omega)
                rw [Int.mul_neg] at this
                omega)
              have zw : 0 ≤ crs (-ht, -sl) z := by
                rcases Int.lt_or_le (crs (-ht, -sl) z) 0 with y | y
                · have := hm.down_s c p0 hz (by rw [crs_anti (-ht, -sl)]; omega) b2
                  omega
                · exact y
              have vw : 2 * S * (-ht) + L * (-sl) ≤ 0 := by
                have e1 : sl * -L = L * -sl := by grind
                have e2 : ht * (2 * S) = -(2 * S * -ht) := by grind
                omega
              have := nn_fall hz2 (w := (-ht, -sl)) (by dsimp only; omega) (q_fall (W := W) (Int.le_of_lt s0) hz2 (w := (-ht, -sl)) (by dsimp only; omega) zw vw) q0
              omega
            · have := s1 k
              rw [k, Int.zero_mul] at gv
              have := Int.mul_nonneg (show 0 ≤ -ht by omega) (show 0 ≤ 2 * S by omega)
              rw [Int.neg_mul] at this
              omega
            · have up0 : ¬ ht ≤ 0 := fun h => by
                have := Int.mul_nonneg (Int.le_of_lt k) (show 0 ≤ -L by omega)
                have := Int.mul_nonneg (show 0 ≤ -ht by omega) (show 0 ≤ 2 * S by omega)
                rw [Int.neg_mul] at this
                omega
              rcases s2 k with h | h
              · exact up0 h
              · have := hm.down_s c (y := (-L, 2 * S)) (z := (ht, sl)) pv ⟨by dsimp only; omega, by dsimp only; omega, .inr k⟩ (by
                  unfold crs
                  dsimp only
                  rw [Int.mul_comm (-L)]
                  omega) h
                omega
          · have := nn_fall hz2 hx2 (q_fall (W := W) (Int.le_of_lt s0) hz2 hx2 b1 (Int.le_of_lt vx)) qx
            omega
      · have e := q_disc (S := S) (L := L) (W := W) z
        have h1 : 0 ≤ (2 * S * z.1 + L * z.2) * (2 * S * z.1 + L * z.2) := by
          rcases Int.le_total 0 (2 * S * z.1 + L * z.2) with y | y
          · exact Int.mul_nonneg y y
          · have := Int.mul_nonneg (show 0 ≤ -(2 * S * z.1 + L * z.2) by omega) (show 0 ≤ -(2 * S * z.1 + L * z.2) by omega)
            rw [Int.neg_mul_neg] at this
            exact this
        have h2 := Int.mul_nonneg (show 0 ≤ 4 * S * W - L * L by omega) (Int.mul_nonneg (Int.le_of_lt hz2) (Int.le_of_lt hz2))
        have := nn_of (show 0 < 4 * S by omega) (x := qv S L W z) (by omega)
        omega
    · -- a hill
      have nS : ∀ {g : Int}, 0 ≤ g → S * g ≤ 0 := fun {g} h => by
        have := Int.mul_nonneg (show 0 ≤ -S by omega) h
        rw [Int.neg_mul] at this
        omega
      rcases btw with ⟨b1, b2⟩ | ⟨b1, b2⟩
      · have gz : slF m S L * z.1 - htF m S W * z.2 < 0 := neg_of hz2 (by have := nS b2; omega)
        have hill := fun {w : Int × Int} (hw : 0 < w.2) (b : 0 ≤ crs w z) (q2 : 0 ≤ qv S L W w) => q_hill s0 hx2 hz2 hw b1 b qx q2
        generalize slF m S L = sl at *
        generalize htF m S W = ht at *
        rcases Int.lt_trichotomy sl 0 with k | k | k
        · obtain ⟨h1, h2⟩ := s3 k
          have := hm.down_s c (y := (-ht, -sl)) (z := z) ⟨by dsimp only; omega, by dsimp only; omega, .inr (by dsimp only; omega)⟩ hz (by
            unfold crs
            dsimp only
            have e1 : z.1 * -sl = -(sl * z.1) := by grind
            have e2 : -ht * z.2 = -(ht * z.2) := by grind
            omega) b2
          omega
        · have := s1 k
          rw [k, Int.zero_mul] at gz
          have := Int.mul_nonneg (show 0 ≤ -ht by omega) (Int.le_of_lt hz2)
          rw [Int.neg_mul] at this
          omega
        · have up0 : ¬ ht ≤ 0 := fun h => by
            have := Int.mul_nonneg (Int.le_of_lt k) hz.1
            have := Int.mul_nonneg (show 0 ≤ -ht by omega) (Int.le_of_lt hz2)
            rw [Int.neg_mul] at this
            omega
          rcases s2 k with h | h
          · exact up0 h
          · have := hill (w := (ht, sl)) k (by
              unfold crs
              dsimp only
              rw [Int.mul_comm z.1]
              omega) (w1 (nS h))
            omega
      · have low : ∀ {w : Int × Int}, 0 < w.2 → 0 ≤ crs z w → qv S L W w < 0 := fun {w} hw b => by
          rcases Int.lt_or_le (qv S L W w) 0 with y | y
          · exact y
          · have := q_hill s0 hw hz2 hx2 b b1 y qx
            omega
        have z0 := low (w := (0, 1)) (by decide) (by unfold crs; dsimp only; have := hz.1; omega)
        have l0 := q_line (m := m) (S := S) (L := L) (W := W) (0, 1)
        have g0 : 0 ≤ goV m (0, 1) := by
          unfold goV Mx.app
          dsimp only
          have := hm.b0
          omega
        have c0 : m.c * qv S L W (0, 1) < 0 := by
          have := Int.mul_pos c (show 0 < - qv S L W (0, 1) by omega)
          rw [Int.mul_neg] at this
          omega
        have hp : 0 < htF m S W := by
          have := nS g0
          dsimp only at l0
          omega
        generalize slF m S L = sl at *
        generalize htF m S W = ht at *
        rcases Int.lt_trichotomy sl 0 with k | k | k
        · have := (s3 k).1
          omega
        · have := s1 k
          omega
        · rcases s2 k with h | h
          · omega
          · rcases Int.lt_or_le (crs z (ht, sl)) 0 with y | y
            · have := hm.down_s c (y := z) (z := (ht, sl)) hz ⟨by dsimp only; omega, by dsimp only; omega, .inr k⟩ (by rw [crs_anti z]; omega) h
              omega
            · have := low (w := (ht, sl)) k y
              have := w1 (nS h)
              omega
  · exact hq
end
end RL

/-! The order of two limits, as an order of the ways: LimLt. -/
namespace RL
end RL

/-! Two patterns with one limit: the same sign of the way; the same equation, where the limit is no fraction. -/
namespace RL
end RL

/-! OneLimit: what is settled stays settled; the cases. -/
namespace RL
section
variable {m n : Mx}
def OnWay (m : Mx) (x z : Int × Int) : Prop := (0 < goV m x ∧ leP x z ∧ 0 ≤ goV m z) ∨ (goV m x < 0 ∧ leP z x ∧ goV m z ≤ 0)
theorem onWay_next (hm : Way m) {x z : Int × Int} (hx : Pos2 x) (hz : Pos2 z) (h : OnWay m (m.app x) z) : OnWay m x z := by
  rcases h with ⟨g, l, k⟩ | ⟨g, l, k⟩
  · have g' := (hm.go_app x).1.mp g
    exact .inl ⟨g', ahead_up hm hx hz (Int.le_of_lt g') l, k⟩
  · have g' := (hm.go_app x).2.mp g
    exact .inr ⟨g', ahead_down hm hx hz (Int.le_of_lt g') l, k⟩
theorem onWay_self (m : Mx) {x : Int × Int} (g : goV m x ≠ 0) : OnWay m x x := by
  rcases Int.lt_or_le 0 (goV m x) with k | k
  · exact .inl ⟨k, Int.le_refl _, Int.le_of_lt k⟩
  · exact .inr ⟨by omega, Int.le_refl _, k⟩
def GapOk (m n : Mx) (f : Int) (x : Int × Int) : Prop := ∀ z, Pos2 z → OnWay m x z → 0 ≤ f * qv (qS m n) (qL m n) (qW m n) z
theorem gap_stays (hm : Way m) (hn : Way n) {x y : Int × Int} (hx : Pos2 x) (hy : Pos2 y) {f : Int} (hf : f = 1 ∨ f = -1) (mv : goV m x ≠ 0) (c : 0 < f * crs x y) (g : GapOk m n f x) : 0 < f * crs (m.app x) (n.app y) ∧ GapOk m n f (m.app x) ∧ goV m (m.app x) ≠ 0 := by
  refine ⟨same_step hm hn hx hy hf c (g x hx (onWay_self m mv)), fun z hz w => g z hz (onWay_next hm hx hz w), ?_⟩
  have a := hm.go_app x
  rcases Int.lt_or_le 0 (goV m x) with k | k
  · have := a.1.mpr k
    omega
  · have := a.2.mpr (by omega)
    omega
theorem apart_ways (hn : Way n) (cn : 0 < n.c) {x y : Int × Int} (hx : Pos2 x) (hy : Pos2 y) (h : (0 < goV n x ∧ goV n y ≤ 0) ∨ (0 ≤ goV n x ∧ goV n y < 0)) : crs x y < 0 := by
  rcases Int.lt_or_le (crs x y) 0 with k | k
  · exact k
  · exfalso
    have l : y.1 * x.2 ≤ x.1 * y.2 := by unfold crs at k; omega
    rcases h with ⟨a, b⟩ | ⟨a, b⟩
    · have := hn.down hy hx l a
      omega
    · have := hn.up hy hx l b
      omega
theorem both_stay (hn : Way n) (cn : 0 < n.c) {x y : Int × Int} (hx : Pos2 x) (hy : Pos2 y) (a : goV n x = 0) (b : goV n y = 0) : crs x y = 0 := by
  rcases Int.lt_trichotomy (crs x y) 0 with k | k | k
  · have := hn.down_s cn hx hy (by rw [crs_anti x]; omega) (by omega)
    omega
  · exact k
  · have := hn.down_s cn hy hx k (by omega)
    omega
end
end RL

/-! OneLimit at one rate. -/
namespace RL
section
variable {m n : Mx} {t u : Int}
theorem one_rate_zero (u0 : 0 < u) (f : goV m (t, u) = 0) (g : goV n (t, u) = 0) (r : wF m t u * vF n t u = wF n t u * vF m t u) (w2 : vF n t u < wF n t u) {x y : Int × Int} (hc : crs x y = 0) (hp : pullP m n t u x y = 0) :
    crs (m.app x) (n.app y) = 0 ∧ pullP m n t u (m.app x) (n.app y) = 0 := by
  have s := one_rate_step (Int.ne_of_gt u0) f g r x y
  have p := pull_step (Int.ne_of_gt u0) f g r x y
  have B : wF n t u - vF n t u ≠ 0 := by omega
  have un : u ≠ 0 := Int.ne_of_gt u0
  rw [hc, hp, Int.mul_zero, Int.mul_zero, Int.mul_zero, Int.add_zero] at s
  rw [hp, Int.mul_zero] at p
  constructor
  · rcases Int.mul_eq_zero.mp s with k | k
    · exact absurd k B
    · rcases Int.mul_eq_zero.mp k with k | k
      · rcases Int.mul_eq_zero.mp k with k | k <;> exact absurd k un
      · rcases Int.mul_eq_zero.mp k with k | k
        · exact absurd k un
        · exact k
  · rcases Int.mul_eq_zero.mp p with k | k
    · exact absurd k B
    · rcases Int.mul_eq_zero.mp k with k | k
      · rcases Int.mul_eq_zero.mp k with k | k <;> exact absurd k un
      · exact k
end
section
variable {m n : Mx} {p q : Int}
end
end RL

/-! What sign_towards says. -/
namespace RL
def towS (r : List Pc) (S L W : Int) : Int := if (eqL r).1 = 0 then sg (qv S L W ((eqL r).2.2, (eqL r).2.1)) else sal (eqL r).1 (eqL r).2.1 (eqL r).2.2 (L * (eqL r).1 - S * (eqL r).2.1) (-W * (eqL r).1 - S * (eqL r).2.2)
end RL

/-! never_below from an open end; UnlikeLimits. -/
namespace RL
section
variable {m : Mx} {S L W : Int}
end
section
variable {m n : Mx}
def setU (m n : Mx) (fin : Int) (x y : Int × Int) : Prop := sg (crs x y) = fin ∧ - fin ≠ -(sg (goV n x)) ∧ - fin ≠ sg (goV m y)
theorem sg_one {x : Int} : sg x = 1 ↔ 0 < x := by
  unfold sg
  split
  · constructor <;> intro <;> omega
  · split <;> constructor <;> intro <;> omega
theorem sg_m1' {x : Int} : sg x = -1 ↔ x < 0 := by
  unfold sg
  split
  · constructor <;> intro <;> omega
  · split <;> constructor <;> intro <;> omega
end
end RL

/-! OneLimit: the final order holds from where it is settled. -/
namespace RL
def OneRoot (m n : Mx) : Prop := ∀ z, Pos2 z → (0 < goV m z ↔ 0 < goV n z) ∧ (goV m z = 0 ↔ goV n z = 0)
inductive One (m n : Mx) (fin : Int) (x y : Int × Int) : Prop
  | below (e : fin = -1) (h : (0 < goV n x ∧ goV n y ≤ 0) ∨ (0 ≤ goV n x ∧ goV n y < 0)) : One m n fin x y
  | above (e : fin = 1) (h : (0 < goV n y ∧ goV n x ≤ 0) ∨ (0 ≤ goV n y ∧ goV n x < 0)) : One m n fin x y
  | stay (e : fin = 0) (a : goV n x = 0) (b : goV n y = 0) : One m n fin x y
  | gap (e : fin = 1 ∨ fin = -1) (mv : goV m x ≠ 0) (c : 0 < fin * crs x y) (g : GapOk m n fin x) : One m n fin x y
  | rate (t u : Int) (u0 : 0 < u) (f : goV m (t, u) = 0) (g : goV n (t, u) = 0) (r : wF m t u * vF n t u = wF n t u * vF m t u) (v1 : 0 < vF m t u) (v2 : 0 < vF n t u) (w2 : vF n t u < wF n t u) (w1 : 0 < wF m t u) (c : (fin = 0 ∧ crs x y = 0 ∧ pullP m n t u x y = 0) ∨ ((fin = 1 ∨ fin = -1) ∧ 0 < fin * crs x y ∧ 0 ≤ fin * pullP m n t u x y)) : One m n fin x y
  | map (p q : Int) (p0 : 0 < p) (q0 : 0 < q) (h : ∀ x y : Int × Int, q * crs (m.app x) (n.app y) = p * crs x y) (c : sg (crs x y) = fin) : One m n fin x y
section
variable {m n : Mx}
theorem sg_zero_iff {x : Int} : sg x = 0 ↔ x = 0 := by
  unfold sg
  split
  · constructor <;> intro <;> omega
  · split <;> constructor <;> intro <;> omega
theorem sg_fin {fin x : Int} (h : fin = 1 ∨ fin = -1) (c : 0 < fin * x) : sg x = fin := by
  rcases h with rfl | rfl
  · exact sg_one.mpr (by omega)
  · exact sg_m1'.mpr (by omega)
theorem One.ord {fin : Int} (hn : Way n) (cn : 0 < n.c) {x y : Int × Int} (hx : Pos2 x) (hy : Pos2 y) (h : One m n fin x y) : sg (crs x y) = fin := by
  cases h with
  | below e h =>
    rw [e]
    exact sg_m1'.mpr (apart_ways hn cn hx hy h)
  | above e h =>
    rw [e]
    have := apart_ways hn cn hy hx h
    rw [crs_anti x] at this
    exact sg_one.mpr (by omega)
  | stay e a b =>
    rw [e]
    exact sg_zero_iff.mpr (both_stay hn cn hx hy a b)
  | gap e mv c g => exact sg_fin e c
  | rate t u u0 f g r v1 v2 w2 w1 c =>
    rcases c with ⟨e, c, _⟩ | ⟨e, c, _⟩
    · rw [e]
      exact sg_zero_iff.mpr c
    · exact sg_fin e c
  | map p q p0 q0 h c => exact c
theorem Way.go_zero (h : Way m) (x : Int × Int) : goV m (m.app x) = 0 ↔ goV m x = 0 := by
  rw [goV_app]
  have := h.det
  constructor
  · intro k
    rcases Int.mul_eq_zero.mp k with k | k
    · omega
    · exact k
  · intro k
    rw [k, Int.mul_zero]
theorem One.step {fin : Int} (hm : Way m) (hn : Way n) (cn : 0 < n.c) (s : OneRoot m n) {x y : Int × Int} (hx : Pos2 x) (hy : Pos2 y) (h : One m n fin x y) : One m n fin (m.app x) (n.app y) := by
  have hX := hm.pos hx
  have px : (0 < goV n (m.app x) ↔ 0 < goV n x) ∧ (goV n (m.app x) = 0 ↔ goV n x = 0) :=
    ⟨(s _ hX).1.symm.trans ((hm.go_app x).1.trans (s _ hx).1), (s _ hX).2.symm.trans ((hm.go_zero x).trans (s _ hx).2)⟩
  have py : (0 < goV n (n.app y) ↔ 0 < goV n y) ∧ (goV n (n.app y) = 0 ↔ goV n y = 0) := ⟨(hn.go_app y).1, hn.go_zero y⟩
  obtain ⟨a1, a2⟩ := px
  obtain ⟨b1, b2⟩ := py
  have tri : ∀ {A B : Int}, (0 < A ↔ 0 < B) → (A = 0 ↔ B = 0) → (0 ≤ A ↔ 0 ≤ B) ∧ (A ≤ 0 ↔ B ≤ 0) ∧ (A < 0 ↔ B < 0) := fun {A B} h k => by
    rcases Int.lt_trichotomy B 0 with z | z | z
    · have n1 : ¬ 0 < A := fun q => by have := h.mp q; omega
      have n2 : ¬ A = 0 := fun q => by have := k.mp q; omega
      refine ⟨⟨fun _ => by omega, fun _ => by omega⟩, ⟨fun _ => by omega, fun _ => by omega⟩, fun _ => by omega, fun _ => by omega⟩
    · have := k.mpr z
      refine ⟨⟨fun _ => by omega, fun _ => by omega⟩, ⟨fun _ => by omega, fun _ => by omega⟩, fun _ => by omega, fun _ => by omega⟩
    · have := h.mpr z
      refine ⟨⟨fun _ => by omega, fun _ => by omega⟩, ⟨fun _ => by omega, fun _ => by omega⟩, fun _ => by omega, fun _ => by omega⟩
  obtain ⟨a3, a4, a5⟩ := tri a1 a2
  obtain ⟨b3, b4, b5⟩ := tri b1 b2
  cases h with
  | below e h =>
    refine .below e ?_
    rcases h with ⟨p, q⟩ | ⟨p, q⟩
    · exact .inl ⟨a1.mpr p, b4.mpr q⟩
    · exact .inr ⟨a3.mpr p, b5.mpr q⟩
  | above e h =>
    refine .above e ?_
    rcases h with ⟨p, q⟩ | ⟨p, q⟩
    · exact .inl ⟨b1.mpr p, a4.mpr q⟩
    · exact .inr ⟨b3.mpr p, a5.mpr q⟩
  | stay e a b => exact .stay e (a2.mpr a) (b2.mpr b)
  | gap e mv c g =>
    obtain ⟨k1, k2, k3⟩ := gap_stays hm hn hx hy e mv c g
    exact .gap e k3 k1 k2
  | rate t u u0 f g r v1 v2 w2 w1 c =>
    refine .rate t u u0 f g r v1 v2 w2 w1 ?_
    rcases c with ⟨e, c, p⟩ | ⟨e, c, p⟩
    · obtain ⟨k1, k2⟩ := one_rate_zero u0 f g r w2 c p
      exact .inl ⟨e, k1, k2⟩
    · obtain ⟨k1, k2⟩ := one_rate_stays u0 f g r v1 v2 w2 w1 e c p
      exact .inr ⟨e, k1, k2⟩
  | map p q p0 q0 h c =>
    refine .map p q p0 q0 h ?_
    rw [← c]
    have k := h x y
    have z1 : 0 < crs (m.app x) (n.app y) ↔ 0 < crs x y := by
      constructor
      · intro g
        have := Int.mul_pos q0 g
        rw [k] at this
        exact pos_of p0 this
      · intro g
        have := Int.mul_pos p0 g
        rw [← k] at this
        exact pos_of q0 this
    have z2 : crs (m.app x) (n.app y) = 0 ↔ crs x y = 0 := by
      constructor
      · intro g
        rw [g, Int.mul_zero] at k
        rcases Int.mul_eq_zero.mp k.symm with j | j
        · omega
        · exact j
      · intro g
        rw [g, Int.mul_zero] at k
        rcases Int.mul_eq_zero.mp k with j | j
        · omega
        · exact j
    obtain ⟨_, _, z3⟩ := tri z1 z2
    unfold sg
    by_cases j : 0 < crs x y
    · rw [if_pos j, if_pos (z1.mpr j)]
    · by_cases i : crs x y < 0
      · rw [if_neg j, if_pos i, if_neg (fun q => j (z1.mp q)), if_pos (z3.mpr i)]
      · rw [if_neg j, if_neg i, if_neg (fun q => j (z1.mp q)), if_neg (fun q => i (z3.mp q))]
end
end RL

/-! OneLimit: the cases, from what the program computes. -/
namespace RL
structure RateF (m n : Mx) (t u : Int) : Prop where
  u0 : 0 < u
  f : goV m (t, u) = 0
  g : goV n (t, u) = 0
  r : wF m t u * vF n t u = wF n t u * vF m t u
  v1 : 0 < vF m t u
  v2 : 0 < vF n t u
  w2 : vF n t u < wF n t u
  w1 : 0 < wF m t u
end RL

/-! OneLimit for rungs alone, and for rails alone (the limit is open). -/
namespace RL
structure Rails (m n : Mx) (fin : Int) (x y : Int × Int) : Prop where
  c : sg (crs x y) = fin
  w : (x.2 = 0 ∨ y.2 = 0) ∨ (0 < x.2 ∧ 0 < y.2 ∧ (0 < fin → n.b * m.a ≤ m.b * n.a) ∧ (fin < 0 → m.b * n.a ≤ n.b * m.a) ∧ (fin = 0 → m.b * n.a = n.b * m.a))
end RL

/-! OneLimit as the program computes it. -/
namespace RL
def goR (r : List Pc) (e : Int × Int) : Int := sg (goV (matR r) e)
def rateM (r : List Pc) : Int := if (matR r).c = 0 then (matR r).b else if (matR r).b = 0 then (matR r).c else (matR r).a + (matR r).d
def ratesO (r r' : List Pc) : Int := sg (rateM r * sclR r' - rateM r' * sclR r)
def pullS (r r' : List Pc) (e f : Int × Int) : Int := sg (pullP (matR r) (matR r') (eqL r).2.2 (eqL r).2.1 e f)
def finO (r r' : List Pc) (e f : Int × Int) : Int :=
  if sg (goR r' f - goR r e) ≠ 0 ∨ goR r e = 0 then sg (goR r' f - goR r e)
  else if ratesO r r' ≠ 0 then goR r e * ratesO r r'
  else if fourOf r = fourOf r' then sg (crs e f)
  else if pullS r r' e f ≠ 0 then pullS r r' e f else sg (crs e f)
theorem goR_later {r : List Pc} (hr : RowOk r) (e : Int × Int) (k : Nat) : goR r (appN (matR r) k e) = goR r e := goV_appN hr e k
end RL

/-! never_below as the program computes it gives GapOk; what is settled holds for ever. -/
namespace RL
def nbO (r : List Pc) (S L W : Int) (x : Int × Int) : Bool :=
  decide (¬ ((if x.2 = 0 then farS S L W else sg (qv S L W x)) < 0 ∨ towS r S L W < 0)) && (decide (S ≤ 0 ∨ L ≥ 0 ∨ L * L ≤ 4 * S * W) || decide (sg (x.1 * (2 * S) - (-L) * x.2) = sg (goV (matR r) (-L, 2 * S))))
end RL

/-! OneLimit settled: rungs beside rungs, rails beside rails. -/
namespace RL
theorem sg_pm {x : Int} (h : sg x ≠ 0) : sg x = 1 ∨ sg x = -1 := by
  unfold sg at h ⊢
  split
  · exact .inl rfl
  · rename_i n0
    rw [if_neg n0] at h
    split
    · exact .inr rfl
    · rename_i n2
      rw [if_neg n2] at h
      exact absurd rfl h
end RL

/-! settles, whole: what is settled at one number holds at all later ones. -/
namespace RL
def limO (r r' : List Pc) : Int := if (matR r').c = 0 then (if (matR r).c = 0 then 0 else -1) else if (matR r).c = 0 then 1 else ordP (eqL r) (eqL r')
def finJ (r r' : List Pc) (e f : Int × Int) : Int := if limO r r' = 0 then finO r r' e f else limO r r'
def setJ (r r' : List Pc) (e f : Int × Int) (k : Nat) : Prop :=
  if limO r r' = 0 then sg (crs (appN (matR r) k e) (appN (matR r') k f)) = finO r r' e f ∧ ((matR r).c ≠ 0 → goR r e = goR r' f → goR r e ≠ 0 → ratesO r r' ≠ 0 → nbO r (finO r r' e f * qS (matR r) (matR r')) (finO r r' e f * qL (matR r) (matR r')) (finO r r' e f * qW (matR r) (matR r')) (appN (matR r) k e) = true)
  else setU (matR r) (matR r') (limO r r') (appN (matR r) k e) (appN (matR r') k f)
end RL

/-! The two runs the other way round: the final order changes its sign. -/
namespace RL
end RL

namespace RL
/-! ### rows of stretches -/
abbrev Sh := Int × Option Int
def inS (s : Sh) (n : Int) : Prop := s.1 ≤ n ∧ ∀ l, s.2 = some l → n ≤ l
def held (r : List Sh) (n : Int) : Prop := ∃ s ∈ r, inS s n
def Form : Int → List Sh → Prop
  | _, [] => True
  | b, (f, none) :: r => b ≤ f ∧ r = []
  | b, (f, some l) :: r => b ≤ f ∧ f ≤ l ∧ Form (l + 2) r
def gapsF : Int → List Sh → List Sh
  | b, [] => [(b, none)]
  | b, (f, l) :: r => (if b < f then [(b, some (f - 1))] else []) ++ (match l with | none => [] | some l => gapsF (l + 1) r)
theorem held_nil (n : Int) : ¬ held [] n := fun ⟨s, h, _⟩ => by cases h
theorem held_cons (s : Sh) (r : List Sh) (n : Int) : held (s :: r) n ↔ inS s n ∨ held r n := by
  constructor
  · rintro ⟨t, h, q⟩
    rcases List.mem_cons.mp h with rfl | h
    · exact .inl q
    · exact .inr ⟨t, h, q⟩
  · rintro (q | ⟨t, h, q⟩)
    · exact ⟨s, List.mem_cons_self, q⟩
    · exact ⟨t, List.mem_cons_of_mem _ h, q⟩
theorem inS_none (f n : Int) : inS (f, none) n ↔ f ≤ n := ⟨fun h => h.1, fun h => ⟨h, fun l e => by cases e⟩⟩
theorem inS_some (f l n : Int) : inS (f, some l) n ↔ f ≤ n ∧ n ≤ l := ⟨fun h => ⟨h.1, h.2 l rfl⟩, fun h => ⟨h.1, fun k e => by cases e; exact h.2⟩⟩
theorem Form.ge : ∀ {r : List Sh} {b n : Int}, Form b r → held r n → b ≤ n
  | [], _, n, _, h => absurd h (held_nil n)
  | (f, none) :: r, b, n, h, q => by
    obtain ⟨h1, rfl⟩ := h
    rcases (held_cons _ _ _).mp q with q | q
    · have := (inS_none _ _).mp q
      omega
    · exact absurd q (held_nil n)
  | (f, some l) :: r, b, n, h, q => by
    obtain ⟨h1, h2, h3⟩ := h
    rcases (held_cons _ _ _).mp q with q | q
    · have := (inS_some _ _ _).mp q
      omega
    · have := Form.ge h3 q
      omega
end RL

namespace RL
/-! ### what two rows of stretches have in common -/
def minO : Option Int → Option Int → Option Int
  | none, o => o
  | some l, none => some l
  | some l, some m => some (if l ≤ m then l else m)
def maxI (f g : Int) : Int := if f ≤ g then g else f
def endOk (b : Int) : Option Int → Bool
  | none => true
  | some e => decide (b ≤ e)
def cut2 (s t : Sh) : List Sh := if endOk (maxI s.1 t.1) (minO s.2 t.2) = true then [(maxI s.1 t.1, minO s.2 t.2)] else []
def commonR (r r' : List Sh) : List Sh := r.flatMap fun s => r'.flatMap fun t => cut2 s t
def endsBy (x : List Sh) (l : Int) : Prop := ∀ s ∈ x, ∃ e, s.2 = some e ∧ e ≤ l
end RL

namespace RL
/-! ### sets of numbers by their rows -/
def inb (s : Sh) (n : Int) : Bool := decide (s.1 ≤ n) && endOk n s.2
def heldb (r : List Sh) (n : Int) : Bool := r.any fun s => inb s n
def orR (r r' : List Sh) : List Sh := gapsF 0 (commonR (gapsF 0 r) (gapsF 0 r'))
def lowEnd (b : Option Int) (r : List Sh) : Prop := match b with | none => r = [] | some b => Form b r
theorem Form.step {b f : Int} {l : Option Int} {r : List Sh} (h : Form b ((f, l) :: r)) : b ≤ f ∧ (∀ k, l = some k → f ≤ k) ∧ lowEnd (l.map (· + 2)) r := by
  cases l with
  | none =>
    unfold Form at h
    refine ⟨h.1, fun k e => ?_, h.2⟩
    cases e
  | some l =>
    unfold Form at h
    refine ⟨h.1, fun k e => ?_, h.2.2⟩
    cases e
    exact h.2.1
end RL

/-! numbers_with: the stretches of a row of orders, the last of which holds for ever. -/
namespace RL
def nwR (w : Int) : Int → Option Int → List Int → List Sh
  | _, none, [] => []
  | _, some k, [] => [(k, none)]
  | n, none, o :: t => if o = w then nwR w (n + 1) (some n) t else nwR w (n + 1) none t
  | n, some k, o :: t => if o = w then nwR w (n + 1) (some k) t else (k, some (n - 1)) :: nwR w (n + 1) none t
def ev (w : Int) (d : Bool) : List Int → Nat → Bool
  | [], _ => d
  | o :: _, 0 => decide (o = w)
  | o :: t, i + 1 => ev w (decide (o = w)) t i
def nwF (w : Int) : Int → Option Int → List Sh → List Int → List Sh
  | _, none, found, [] => found
  | _, some k, found, [] => found ++ [(k, none)]
  | n, none, found, o :: t => if o = w then nwF w (n + 1) (some n) found t else nwF w (n + 1) none found t
  | n, some k, found, o :: t => if o = w then nwF w (n + 1) (some k) found t else nwF w (n + 1) none (found ++ [(k, some (n - 1))]) t
def nwS (w : Int) (t : List Int) : List Sh := nwF w 0 none [] t
end RL

set_option maxHeartbeats 2000000
/-! An own exception class called with arguments by position and by keyword, its __init__ a def. -/
namespace PySem
namespace RLX
open PySem.W PySem.Calls PyProof.Rows PySem.HandSPX
section
variable {prog : Program} {w : World} {M : Model} {A : Around} {E : Value → Shared → Prop} {R : Result → Shared → Prop} {h : Heap} {g : Array GenState} {d : Drawn} {t : Nat} {os : OsState}
variable {nm q : Str} {C N : Addr} {bs bm bmB : List Value} {hdct : Bool} {sn : List Str} {sub : List Value} {ab : Bool} {col : Option Bool} {dd : Option Addr} {k0 k1 k2 k3 k5 : Option Value} {B newId initId : String}
abbrev laid2 (C : Addr) (rest : List Value) (h : Heap) : Heap := (h.push (W.kdv_tup rest)).push (excO C h.objs.size)
end
end RLX
end PySem

set_option maxHeartbeats 2000000
/-! Own exceptions held as values: made (by position, by keyword), stored into, read, asked for their class. -/
namespace RL
open PySem L2 PySem.Spec PyProof.Rows Builtin Builtin.ObjectAttr
def xcB (K : PySem.W.Frag) (C : Addr) (bmB : List Value) (nid : String) : Bool :=
  PySem.W.excInitIn K C bmB nid && PySem.W.excOver K C bmB && PySem.W.hasDictIn K C && PySem.W.keepIn K (.ref C) && (PySem.W.clsIn K C).isSome &&
  decide (PySem.W.findIn K (.ref C) "__setattr__" = some (some (.builtin "object.__setattr__"))) &&
  decide (PySem.W.findIn K (.ref C) "__getattribute__" = some (some (.builtin "BaseException.__getattribute__"))) &&
  decide (PySem.W.findIn K (.ref C) "__getattr__" = some none) &&
  decide (PySem.W.findIn K (.ref C) "__class__" = some (some (.builtin "object.__class__"))) &&
  decide (PySem.W.subIn K (.ref C) (.type "BaseException") = some true) && decide (PySem.W.mroIn K C (.type "object") = some true) &&
  decide (PySem.W.findIn K (.ref C) "given" = some none) && decide (PySem.W.findIn K (.ref C) "index" = some none) && decide (PySem.W.findIn K (.ref C) "most" = some none)
structure XC (K : PySem.W.Frag) (C : Addr) : Prop where
  base : ∃ (B nid iid : String) (bmB : List Value), ExcBaseFacts B nid iid bmB ∧ StoreFacts B bmB "object.__setattr__" "object" ∧ PySem.W.excInitIn K C bmB nid = true ∧ PySem.W.excOver K C bmB = true
  hd : PySem.W.hasDictIn K C = true
  kp : PySem.W.keepIn K (.ref C) = true
  cl : (PySem.W.clsIn K C).isSome = true
  sa : PySem.W.findIn K (.ref C) "__setattr__" = some (some (.builtin "object.__setattr__"))
  ga : PySem.W.findIn K (.ref C) "__getattribute__" = some (some (.builtin "BaseException.__getattribute__"))
  gg : PySem.W.findIn K (.ref C) "__getattr__" = some none
  ca : PySem.W.findIn K (.ref C) "__class__" = some (some (.builtin "object.__class__"))
  sub : PySem.W.subIn K (.ref C) (.type "BaseException") = some true
  mo : PySem.W.mroIn K C (.type "object") = some true
  n1 : PySem.W.findIn K (.ref C) "given" = some none
  n2 : PySem.W.findIn K (.ref C) "index" = some none
  n3 : PySem.W.findIn K (.ref C) "most" = some none
structure XK0 (K : PySem.W.Frag) : Prop where
  cn : PySem.W.specialIn K (.builtin "object.__class__") "__get__" = some (some (.builtin "getset_descriptor.__get__"))
  ct : PySem.W.takesIn K (.builtin "object.__class__") = some true
section
variable {prog : Program} {w : World} {A : Around} {R : Result → Shared → Prop} {hp : Heap} {g : Array GenState} {d : Drawn} {t : Nat} {os : OsState} {B : String} {bmB : List Value} {C : Addr}
end
section
variable {X : Cx} {pins : List (Addr × Obj)} {σ : L2.St} {H : Hp} {s : Shared} {a C dx : Addr} {f : Str} {y : V} {u : Value} {Q : Unit → Shared → Prop} {E : Value → Shared → Prop} {A : Around}
end
def tXst (K : PySem.W.Frag) (f : Str) (to te : TE) : TS := fun D σ H => te σ H fun y H1 => to σ H1 fun x H2 => ∃ a C : Addr, x = .ref a ∧ XC K C ∧ PySem.W.findIn K (.ref C) f = some none ∧ H2 a = some (exo a C none) ∧
  ∀ dx, H2 dx = none → dx ≠ a → D.nx σ (upd (upd H2 dx (exd dx [(f, y)])) a (exo a C (some dx)))
section
variable {X : Cx} {o e : Expr} {es : List Expr} {to te : TE} {ta tk : TA} {f : Str} {p p' p1 p2 pos : Pos}
def tXmk (C : Addr) (n m : Nat) (sp : Sp) (gV : List V → List V → List V) (t tk : TA) : TE := fun σ H Q => t σ H fun vs H1 => tk σ H1 fun zs H2 => vs.length = n ∧ zs.length = m ∧
  ∀ a, H2 a = none → sp (gV (.ref a :: vs) zs) (upd H2 a (exo a C none)) (fun v H3 => v = .non ∧ Q (.ref a) H3) E0
structure XM (P : Program) (w : World) (K : PySem.W.Frag) (mg : Str → Option Value) (base : Heap) (k : Nat) (C : Addr) (ps : List Str) (sp : Sp) : Prop where
  xc : XC K C
  ex : ∃ (g : Addr) (fd : FuncData), PySem.W.findIn K (.ref C) "__init__" = some (some (.ref g)) ∧ PySem.W.isFn K (.ref g) = true ∧ FnOk P w K mg base CX0 k g fd ps sp ∧ Binds K fd ps [] ∧
    ∀ y z, ps = [y, z] → KBn K fd ps 1 [z] (fun us ws => us ++ ws) (fun vs zs => vs ++ zs)
/-! ### asked and read -/
def Exo (H : Hp) (a C : Addr) : Prop := H a = some (exo a C none) ∨ ∃ (dx : Addr) (fs : List (Str × V)), H a = some (exo a C (some dx)) ∧ H dx = some (exd dx fs)
def rIsX (K : PySem.W.Frag) : List V → Hp → VK → Prop := fun xs H Q => ∃ (a C : Addr) (c : V) (u : Value) (b : Bool), xs = [.ref a, c] ∧ ClsV c u ∧ XC K C ∧ Exo H a C ∧ PySem.W.kitOne K (.ref C) u = some b ∧ Q (.bl b) H
def tXfd (K : PySem.W.Frag) (f : Str) (te : TE) : TE := fun σ H Q => te σ H fun x H1 => ∃ (a C dx : Addr) (fs : List (Str × V)) (v : V), x = .ref a ∧ XC K C ∧ PySem.W.findIn K (.ref C) f = some none ∧ H1 a = some (exo a C (some dx)) ∧ H1 dx = some (exd dx fs) ∧ fs.lookup f = some v ∧ Q v H1
end
end RL

set_option maxHeartbeats 1000000
/-! repr of plain things: None, bools, ints, texts, lists, tuples, flat dicts. -/
namespace RL
open PySem L2 PySem.Spec PyProof.Rows
def keyD : Key → PyData
  | .inl i => .int i
  | .inr x => .str x
inductive Dq (K : PySem.W.Frag) (H : Hp) : V → PyData → Prop
  | dp {v : V} {d : PyData} : Dp K H v d → d.hasDict = false → Dq K H v d
  | dk {a : Addr} {kvs : List (Key × Int)} : H a = some (.dK (kvs.map fun p => (p.1, V.int p.2))) → Dq K H (.ref a) (.dict (kvs.map fun p => (keyD p.1, .int p.2)))
section
variable {X : Cx}
def rRp (K : PySem.W.Frag) : List V → Hp → VK → Prop := fun vs H Q => ∃ (v : V) (d : PyData), vs = [v] ∧ Dq K H v d ∧ d.showable = true ∧ d.depth ≤ 40 ∧ d.shown.length ≤ sizeLine ∧ Q (.str d.shown) H
end
theorem sqT_same {K : PySem.W.Frag} {H H' : Hp} {a : Addr} {xs : List V} (e : ∀ b o, H b = some o → H' b = some o) (h : SqT K H a xs) : SqT K H' a xs := by
  rcases h with (h | ⟨o, h⟩) | h
  · exact .inl (.inl (e _ _ h))
  · exact .inl (.inr ⟨o, e _ _ h⟩)
  · exact .inr h
mutual
theorem dp_same {K : PySem.W.Frag} {H H' : Hp} (s : ∀ b o, H b = some o → H' b = some o) : ∀ (d : PyData) (v : V), Dp K H v d → Dp K H' v d
  | .none, _, h => by
    cases h
    exact .non
  | .bool b, _, h => by
    cases h
    exact .bl b
  | .int i, _, h => by
    cases h
    exact .int i
  | .str x, _, h => by
    cases h
    exact .str x
  | .list ds, _, h => by
    cases h with
    | lst a b => exact .lst (Same.seq s a) (dpAll_same s ds _ b)
  | .tuple ds, _, h => by
    cases h with
    | tup a b => exact .tup (sqT_same s a) (dpAll_same s ds _ b)
  | .dict _, _, h => by cases h
theorem dpAll_same {K : PySem.W.Frag} {H H' : Hp} (s : ∀ b o, H b = some o → H' b = some o) : ∀ (ds : List PyData) (vs : List V), DpAll K H vs ds → DpAll K H' vs ds
  | [], _, h => by
    cases h
    exact .nil
  | d :: ds, _, h => by
    cases h with
    | cons a b => exact .cons (dp_same s d _ a) (dpAll_same s ds _ b)
end
theorem Dq.same {K : PySem.W.Frag} {H H' : Hp} {v : V} {d : PyData} (h : Dq K H v d) (s : Same H H') : Dq K H' v d := by
  cases h with
  | dp a b => exact .dp (dp_same s _ _ a) b
  | dk a => exact .dk (s _ _ a)
end RL

set_option maxHeartbeats 1000000
/-! Pairs of exceptions, made by position and by name. -/
namespace RL
open PySem L2
def spI (K : PySem.W.Frag) (f : Str) : Sp := fun vs H Q _ => ∃ (a C : Addr) (y : V), vs = [.ref a, y] ∧ XC K C ∧ PySem.W.findIn K (.ref C) f = some none ∧ H a = some (exo a C none) ∧
  ∀ dx, H dx = none → dx ≠ a → Q .non (upd (upd H dx (exd dx [(f, y)])) a (exo a C (some dx)))
def spN : Sp := fun vs H Q _ => ∃ v : V, vs = [v] ∧ Q .non H
def Xv (H : Hp) (a C : Addr) (f : Str) (y : V) : Prop := ∃ dx : Addr, H a = some (exo a C (some dx)) ∧ H dx = some (exd dx [(f, y)])
theorem Xv.same {H H' : Hp} {a C : Addr} {f : Str} {y : V} (h : Xv H a C f y) (s : Same H H') : Xv H' a C f y := by
  obtain ⟨dx, h1, h2⟩ := h
  exact ⟨dx, s _ _ h1, s _ _ h2⟩
def Pr (H : Hp) (v : V) (C : Addr) (f : Str) (y : V) : Prop := ∃ l a b : Addr, v = .ref l ∧ H l = some (.lst [.ref a, .ref b]) ∧ Xv H a C f y ∧ Xv H b C f y
theorem Pr.same {H H' : Hp} {v : V} {C : Addr} {f : Str} {y : V} (h : Pr H v C f y) (s : Same H H') : Pr H' v C f y := by
  obtain ⟨l, a, b, e, h1, h2, h3⟩ := h
  exact ⟨l, a, b, e, s _ _ h1, h2.same s, h3.same s⟩
def tPair (C : Addr) (f : Str) (i : Nat) : TE := fun σ H Q => ∃ y, σ[i]? = some (some y) ∧ ∀ v H', Same H H' → Pr H' v C f y → (∀ l, v = .ref l → H l = none) → Q v H'
section
variable {X : Cx} {e1 e2 : Expr} {x : Str} {p1 p2 p3 p4 p5 pos : Pos} {nm : Option Str} {kpos : Pos} {i : Nat}
def tMk0 (C : Addr) : TE := fun _ H Q => ∀ a, H a = none → Q (.ref a) (upd H a (exo a C none))
end
section
variable {X : Cx} {K : PySem.W.Frag} {e : Expr} {te : TE} {pos : Pos} {n : Str}
end
end RL

set_option maxHeartbeats 2000000
/-! try: .. except (A, B, C) as e: .. where the suite calls defs that ask e and make lists. -/
namespace RL
open PySem L2 PySem.Spec PyProof.Rows
/-! ### the clause -/
def wAs3 (K : PySem.W.Frag) (cs : List Value) (i : Nat) (ts : Addr → Value → Option Addr → TS) (D : Ends) : WX := fun cls d σ H => PySem.W.exmAny K cls cs = some true ∧
  ∀ a, H a = none → ts a cls d { nx := fun σ' H' => D.nx (σ'.set i none) H', rt := D.rt, bk := fun σ' H' => D.bk (σ'.set i none) H', ct := fun σ' H' => D.ct (σ'.set i none) H' } (σ.set i (some (.ref a))) H
section
variable {X : Cx} {x1 x2 x3 n : Str} {c1 c2 c3 : Value} {i kk : Nat} {body suite : List Stmt} {b₀ : Stmt} {p1 p2 p3 tpos pos pos' : Pos} {tb : WX → TS} {ts : Addr → Value → Option Addr → TS}
end
/-! ### defs called in the suite -/
structure FnE (P : Program) (w : World) (K : PySem.W.Frag) (mg : Str → Option Value) (base : Heap) (k : Nat) (f : Addr) (fd : FuncData) (ps : List Str) (sp : Addr × Obj → Sp) : Prop where
  len : ∀ p vs H Q E, sp p vs H Q E → vs.length = ps.length
  run : ∀ (A : Around) (outer : List Env) (s : Shared) (H : Hp) (args : Args) (us : List Value) (vs : List V) (Q : VK) (p : Addr × Obj), L2H.RoomH k A → L2H.Hot1 A p → L2H.PinOk outer H s p → Env0 P w K mg base A outer s H → BindsTo s fd args (ps.zip us) → Vals vs us → sp p vs H Q E0 →
    codeAny (model P w) A (.call (.ref f) args) (CR CX0 outer P w H s Q E0) s
section
variable {P : Program} {w : World} {K : PySem.W.Frag} {mg : Str → Option Value} {base : Heap}
end
structure DfE (P : Program) (w : World) (K : PySem.W.Frag) (mg : Str → Option Value) (base : Heap) (k : Nat) (x : Str) (ps : List Str) (sp : Addr × Obj → Sp) : Prop where
  ex : ∃ (f : Addr) (fd : FuncData), FnE P w K mg base k f fd ps sp ∧ mg x = some (.ref f) ∧ PySem.W.keepIn K (.ref f) = true ∧ Binds K fd ps []
section
variable {X : Cx} {k : Nat} {ps : List Str} {sp : Addr × Obj → Sp} {x : Str} {q pos : Pos} {e : Expr} {es : List Expr} {t : TA} {p : Addr × Obj}
end
/-! ### the exception asked -/
def Px (p : Addr × Obj) (C : Addr) (H : Hp) : Prop := p.2.cls = .ref C ∧ (∃ vs, p.2.data = .fields vs) ∧ (p.2.dict = none ∨ ∃ (d : Addr) (fs : List (Str × V)), p.2.dict = some d ∧ H d = some (.xd fs))
theorem Px.same {p : Addr × Obj} {C : Addr} {H H' : Hp} (h : Px p C H) (s : Same H H') : Px p C H' := ⟨h.1, h.2.1, h.2.2.imp id fun ⟨d, fs, a, b⟩ => ⟨d, fs, a, s _ _ b⟩⟩
def rIsP (K : PySem.W.Frag) (p : Addr × Obj) : List V → Hp → VK → Prop := fun xs H Q => ∃ (C : Addr) (c : V) (u : Value) (b : Bool), xs = [.ref p.1, c] ∧ ClsV c u ∧ XC K C ∧ Px p C H ∧ PySem.W.kitOne K (.ref C) u = some b ∧ Q (.bl b) H
def tPfd (K : PySem.W.Frag) (p : Addr × Obj) (f : Str) (te : TE) : TE := fun σ H Q => te σ H fun x H1 => ∃ (C dx : Addr) (fs : List (Str × V)) (v : V), x = .ref p.1 ∧ XC K C ∧ PySem.W.findIn K (.ref C) f = some none ∧ p.2.cls = .ref C ∧ (∃ vs, p.2.data = .fields vs) ∧ p.2.dict = some dx ∧ H1 dx = some (.xd fs) ∧ fs.lookup f = some v ∧ Q v H1
end RL

set_option maxHeartbeats 2000000
/-! [.. for x in range(..) if ..] where an exception is handled. -/
namespace RL
open PySem L2 PySem.Spec PyProof.Rows
abbrev blkP (X : Cx) (p : Addr × Obj) (s : Shared) (H : Hp) (scope : Scope) (cenv : Env) (fp : List Addr) : Cx := (X.blk s H scope cenv fp).tr [p] fun _ _ => False
section
variable {X : Cx}
end
end RL

set_option maxHeartbeats 2000000
/-! raise X(e) for the package's classes; defs that raise; a lambda that may raise, handed to a def. -/
namespace RL
open PySem L2 PySem.Spec PyProof.Rows
/-! ### raise -/
def tMkX (C : Addr) (f : Str) (te : TE) : L2.St → Hp → XK → Prop := fun σ H Q => te σ H fun y H1 => ∀ d, H1 d = none → Q (.ref C) (some d) (upd H1 d (.xd [(f, y)]))
def oneV (R : V → Hp → Prop) : List V → Hp → Prop
  | [y], H => R y H
  | _, _ => False
/-! ### defs that raise -/
section
variable {P : Program} {w : World} {K : PySem.W.Frag} {mg : Str → Option Value} {base : Heap}
end
structure DfN (P : Program) (w : World) (K : PySem.W.Frag) (mg : Str → Option Value) (base : Heap) (k : Nat) (x : Str) (ps : List Str) (sp : Sp) : Prop where
  ex : ∃ (f : Addr) (fd : FuncData), FnOk P w K mg base (L2N.CX P w) k f fd ps sp ∧ mg x = some (.ref f) ∧ PySem.W.keepIn K (.ref f) = true ∧ Binds K fd ps []
section
variable {X : Cx} {k : Nat} {ps : List Str} {sp : Sp} {x : Str} {p pos : Pos} {e : Expr} {es : List Expr} {t : TA} {E : XK}
end
/-! ### the lambda -/
section
variable {X : Cx} {pins : List (Addr × Obj)} {σ : L2.St} {H HZ : Hp} {s s1 : Shared}
abbrev lamXe (X : Cx) (A : Around) (outer : List Env) (s : Shared) (H : Hp) (E : XK) (scope : Scope) (f c' : Addr) : Value → Shared → Prop := fun e s' =>
  wpAny (model X.prog X.w) (A.deeper (LamX.lamEnv X scope s.heap.objs.size f c')) (leaving (LamX.lamEnv X scope s.heap.objs.size f c') e) (fun _ s'' => L2N.CX X.prog X.w outer H s E e s'') (fun e' s'' => L2N.CX X.prog X.w outer H s E e' s'') s'
abbrev lamN (X : Cx) (A : Around) (outer : List Env) (s : Shared) (H : Hp) (E : XK) (scope : Scope) (f c' : Addr) : Cx := (LamX.lamCx X A outer s H E scope f c').tr [] (lamXe X A outer s H E scope f c')
end
def GivesN (X : Cx) (k : Nat) (Ng : List Str) (x : Str) (sg : Scope) (g : Addr) (cdg : Value) (bg : List Stmt) (a : Str) (q : Str) (TT : (XK → Hp → VK → Prop) → Hp → VK → Prop) : Prop :=
  ∀ (f c' : Addr) (s : Shared) (H : Hp) (Q : VK) (tl : XK → Hp → VK → Prop), Room (k + 1) (X.A.deeper (envOfC x sg s.heap.objs.size g cdg)) →
    (∀ (W : WX) (pn : List (Addr × Obj)) (xe : Value → Shared → Prop) (E : XK) (p1 p2 : Pos), L2N.Takes ((cxOf CX0 X.prog X.w X.K X.mg X.base Ng x sg g cdg X.A X.stack s H E0).tr pn xe) W →
      PE ((cxOf CX0 X.prog X.w X.K X.mg X.base Ng x sg g cdg X.A X.stack s H E0).tr pn xe) (.Call (.Name a p1) [] [] p2) (fun σZ HZ Q => σZ[0]? = some (some (.ref f)) ∧ HZ c' = some (LamX.CodeO c' q) ∧ (∀ cls d H', E cls d H' → W cls d σZ H') ∧ tl E HZ Q)) →
    H c' = some (LamX.CodeO c' q) → TT tl H Q →
    ∃ t, PSs (cxOf CX0 X.prog X.w X.K X.mg X.base Ng x sg g cdg X.A X.stack s H E0).nox bg t ∧ t { nx := fun _ H' => Q .non H', rt := Q } (L2.start Ng [.ref f]) H
section
variable {X : Cx}
end
end RL

set_option maxHeartbeats 2000000
/-! Values of many kinds: what isinstance says of them; what they show. -/
namespace RL
open PySem L2 PySem.Spec PyProof.Rows
def tyN : PyData → String
  | .none => "NoneType"
  | .bool _ => "bool"
  | .int _ => "int"
  | .str _ => "str"
  | .list _ => "list"
  | .tuple _ => "tuple"
  | .dict _ => "dict"
theorem ty_dp {K : PySem.W.Frag} {H : Hp} {v : V} {d : PyData} (h : Dp K H v d) : TyX K H v (.type (tyN d)) := by
  cases h with
  | non => exact .base .non
  | bl b => exact .base (.bl b)
  | int i => exact .base (.int i)
  | str x => exact .base (.str x)
  | lst a b =>
    rcases a with (a | ⟨o, a⟩) | ⟨o, its, n, e, c, r⟩
    · exact .base (.lst a)
    · exact .base (.frz a)
    · exact .kList e c
  | tup a b =>
    rcases a with (a | ⟨o, a⟩) | ⟨o, its, n, e, c, r⟩
    · exact .base (.tup a)
    · exact .fTuple a
    · exact .kTuple e c
def isIntD : PyData → Bool
  | .int _ => true
  | _ => false
def isTupD : PyData → Bool
  | .tuple _ => true
  | _ => false
def isStrD : PyData → Bool
  | .str _ => true
  | _ => false
def intOrBool : PyData → Bool
  | .int _ => true
  | .bool _ => true
  | _ => false
def isBoolD : PyData → Bool
  | .bool _ => true
  | _ => false
def withinD (d : PyData) (lo hi : Int) : Bool := match d with
  | .int i => decide (lo ≤ i) && decide (i ≤ hi)
  | _ => false
def pairD : PyData → Bool
  | .tuple [a, b] => isIntD a && isIntD b
  | _ => false
def resD : PyData → Bool
  | .int i => decide (0 ≤ i) && decide (i ≤ 1000000000000)
  | .tuple [.int a, .int b] => decide (a = 1 ∧ b = 0) || (decide (0 ≤ a) && decide (a ≤ 1000000000000) && (decide (1 ≤ b) && decide (b ≤ 1000000000000)))
  | _ => false
end RL

set_option maxHeartbeats 2000000
namespace RL
open PySem L2 PySem.Spec PyProof.Rows
theorem op_or2 {X : Cx} {f : Value → Value → Sem Value} {r1 r2 : R2} (h1 : OpR X f r1) (h2 : OpR X f r2) : OpR X f (fun x y H Q => r1 x y H Q ∨ r2 x y H Q) := by
  intro pins s σ H x y v u Q I rx ry h
  rcases h with h | h
  · exact h1 pins s σ H x y v u Q I rx ry h
  · exact h2 pins s σ H x y v u Q I rx ry h
abbrev oP (x y : Int × Int) : Int := sg (x.1 * y.2 - y.1 * x.2)
/-! ### the limit beside a pair -/
theorem beside_go {r : List Pc} (hr : RowOk r) (hc : (matR r).c ≠ 0) {x y : Int} (hx : 0 ≤ x) (hy : 1 ≤ y) : beside (eqL r).1 (eqL r).2.1 (eqL r).2.2 x y = sg (goV (matR r) (x, y)) := by
  obtain ⟨a0, b0, c0, d0, _⟩ := matR_ok hr
  rw [goV_fv]
  unfold eqL
  split
  · rename_i hb
    have ad := rungs_ad hr hb
    rw [hb, show (matR r).d - (matR r).a = 0 by omega]
    unfold beside
    have e1 : (0 : Int) * y * y - 1 * x * y - 0 * x * x = -(x * y) := by grind
    have e2 : Fv (matR r).c 0 0 x y = -((matR r).c * (x * x)) := by unfold Fv; grind
    dsimp only
    rw [e1, e2]
    rcases Int.lt_or_eq_of_le hx with z | z
    · have n1 := Int.mul_pos z (show 0 < y by omega)
      have n2 := Int.mul_pos (show 0 < (matR r).c by omega) (Int.mul_pos z z)
      unfold sg
      rw [if_neg (by omega), if_pos (by omega), if_neg (by omega), if_pos (by omega)]
    · rw [← z]
      simp
  · rename_i hb
    have n := (parts_nrm (a := (matR r).c) (b := (matR r).d - (matR r).a) (c := (matR r).b) (.inr ⟨by omega, by omega⟩)).side hx hy
    rw [n]
    unfold side Fv
    rw [if_neg (by omega)]
    refine congrArg sg ?_
    grind
theorem open_go {r : List Pc} (hr : RowOk r) (l1 : 1 ≤ r.length) (hc : (matR r).c = 0) {e : Int × Int} (he : Pos2 e) : oP (1, 0) e = sg (goV (matR r) e) := by
  have ad := rails_ad hr hc
  have hb : 0 < (matR r).b := by
    match r, l1, hr, hc with
    | p :: r, _, hr, hc =>
      refine b_pos hr ⟨p, List.mem_cons_self, ?_⟩
      cases hp : p.1 with
      | true => rfl
      | false =>
        have := c_pos hr ⟨p, List.mem_cons_self, hp⟩
        omega
  obtain ⟨t, u⟩ := e
  obtain ⟨t0, u0, p⟩ := he
  rw [goV_fv, hc, show (matR r).d - (matR r).a = 0 by omega]
  have e1 : Fv 0 0 (matR r).b t u = (matR r).b * (u * u) := by unfold Fv; grind
  have e2 : (1 : Int) * u - t * 0 = u := by grind
  rw [e1]
  unfold oP
  dsimp only
  rw [e2]
  rcases Int.lt_or_eq_of_le u0 with z | z
  · have z : 0 < u := z
    have := Int.mul_pos hb (Int.mul_pos z z)
    unfold sg
    rw [if_pos z, if_pos this]
  · have z : 0 = u := z
    rw [← z]
    simp
theorem end_go {r : List Pc} (hr : RowOk r) (hc : (matR r).c ≠ 0) {t : Int} (ht : 0 < t) : sg (goV (matR r) (t, 0)) = -1 := by
  obtain ⟨a0, b0, c0, d0, _⟩ := matR_ok hr
  rw [goV_fv]
  have e1 : Fv (matR r).c ((matR r).d - (matR r).a) (matR r).b t 0 = -((matR r).c * (t * t)) := by unfold Fv; grind
  rw [e1]
  have := Int.mul_pos (show 0 < (matR r).c by omega) (Int.mul_pos ht ht)
  unfold sg
  rw [if_neg (by omega), if_pos (by omega)]
theorem parts_sm31 {a b c : Int} (h : Good a b c) (ha : Sm 31 a) (hb : Sm 31 b) (hc : Sm 31 c) : Sm 80 (parts a b c).1 ∧ Sm 80 (parts a b c).2.1 ∧ Sm 80 (parts a b c).2.2 := by
  unfold parts
  rcases h with ⟨rfl, h2, h3⟩ | h
  · rw [if_pos rfl]
    have g0 : 0 < gc c b := gc_pos (.inr (by omega))
    exact ⟨show Sm 80 0 by unfold Sm; decide, (hb.div g0).mono (by decide), (hc.div g0).mono (by decide)⟩
  · rw [if_neg (by omega)]
    have k := inside_pos (b := b) h
    have hd : Sm 80 (b * b + 4 * a * c) := by
      have h4 : Sm 3 4 := by unfold Sm; decide
      have e1 : Sm (31 + 31) (b * b) := hb.mul hb
      have e2 : Sm (3 + 31 + 31) (4 * a * c) := (h4.mul ha).mul hc
      exact (Sm.add (n := 79) (e1.mono (by decide)) (e2.mono (by decide)))
    have hr : Sm 40 (rt (b * b + 4 * a * c)) := rt_sm (n := 40) k.2 hd
    have h2 : Sm 2 2 := by unfold Sm; decide
    split
    · have g0 : 0 < gc (rt (b * b + 4 * a * c) - b) (2 * a) := gc_pos (.inr (by omega))
      refine ⟨show Sm 80 0 by unfold Sm; decide, ?_, ?_⟩
      · exact ((h2.mul ha).div g0).mono (by decide)
      · exact ((hr.sub (hb.mono (by decide))).div g0).mono (by decide)
    · have g0 : 0 < gc (gc a b) c := gc_pos (.inr (by omega))
      exact ⟨(ha.div g0).mono (by decide), (hb.div g0).mono (by decide), (hc.div g0).mono (by decide)⟩
theorem eqL_sm {r : List Pc} (ok : RowOk r) (l8 : r.length ≤ 8) (hc : (matR r).c ≠ 0) : Sm 80 (eqL r).1 ∧ Sm 80 (eqL r).2.1 ∧ Sm 80 (eqL r).2.2 := by
  obtain ⟨za, zb, zc, zd⟩ := matR_sm30 ok l8
  obtain ⟨a0, _, b0, _, cc0, _, d0, _⟩ := matR_le ok l8
  unfold eqL
  split
  · exact ⟨by unfold Sm; decide, by unfold Sm; decide, by unfold Sm; decide⟩
  · exact parts_sm31 (.inr ⟨by omega, by omega⟩) (zc.mono (by decide)) (zd.sub za) (zb.mono (by decide))
def ParAt (H : Hp) (z : Addr) (S L W : Int) : Prop := H z = some (.tup [.int S, .int L, .int W])
abbrev PrT (K : PySem.W.Frag) (H : Hp) (p : Addr) (e : Int × Int) : Prop := SqT K H p [.int e.1, .int e.2]
def spPOK (K : PySem.W.Frag) : Sp := fun vs H Q _ => ∃ (p q : Addr) (e f : Int × Int), vs = [.ref p, .ref q] ∧ PrT K H p e ∧ PrT K H q f ∧ Sm 50000 e.1 ∧ Sm 50000 e.2 ∧ Sm 50000 f.1 ∧ Sm 50000 f.2 ∧ Q (.int (sgn (e.1 * f.2 - f.1 * e.2))) H
def spDiff : Sp := fun vs H Q _ => ∃ (p q : Addr) (m n : Mx), vs = [.ref p, .ref q] ∧ H p = some (.tup (MatT m)) ∧ H q = some (.tup (MatT n)) ∧ MxSm 30 m ∧ MxSm 30 n ∧ ∀ H' z, Same H H' → ParAt H' z (qS m n) (qL m n) (qW m n) → Q (.ref z) H'
def spSAt (K : PySem.W.Frag) : Sp := fun vs H Q _ => ∃ (z p : Addr) (S L W : Int) (e : Int × Int), vs = [.ref z, .ref p] ∧ ParAt H z S L W ∧ PrT K H p e ∧ Sm 200 S ∧ Sm 200 L ∧ Sm 200 W ∧ Sm 50000 e.1 ∧ Sm 50000 e.2 ∧ Q (.int (sgn (qv S L W e))) H
def spTimes : Sp := fun vs H Q _ => ∃ (z : Addr) (S L W k : Int), vs = [.ref z, .int k] ∧ ParAt H z S L W ∧ Sm 200 S ∧ Sm 200 L ∧ Sm 200 W ∧ Sm 200 k ∧ ∀ H' z', Same H H' → ParAt H' z' (S * k) (L * k) (W * k) → Q (.ref z') H'
def spFar : Sp := fun vs H Q _ => ∃ (z : Addr) (S L W : Int), vs = [.ref z] ∧ ParAt H z S L W ∧ Q (.int (farS S L W)) H
def spBeside : Sp := fun vs H Q _ => ∃ (p : Addr) (s l w x y : Int), vs = [.ref p, .int x, .int y] ∧ H p = some (.tup [.int s, .int l, .int w]) ∧ Sm 90000 s ∧ Sm 90000 l ∧ Sm 90000 w ∧ Sm 90000 x ∧ Sm 90000 y ∧ Q (.int (beside s l w x y)) H
def spSal0 : Sp := fun vs H Q _ => ∃ (p : Addr) (s l w sl h : Int), vs = [.ref p, .int sl, .int h] ∧ H p = some (.tup [.int s, .int l, .int w]) ∧ 0 ≤ sl ∧ Sm 90000 s ∧ Sm 90000 l ∧ Sm 90000 w ∧ Sm 90000 sl ∧ Sm 90000 h ∧ Q (.int (sal0 s l w sl h)) H
def spSal : Sp := fun vs H Q _ => ∃ (p : Addr) (s l w sl h : Int), vs = [.ref p, .int sl, .int h] ∧ H p = some (.tup [.int s, .int l, .int w]) ∧ Sm 90000 s ∧ Sm 90000 l ∧ Sm 90000 w ∧ Sm 90000 sl ∧ Sm 90000 h ∧ Q (.int (sal s l w sl h)) H
def spOrder (C : Addr) : Sp := fun vs H Q _ => ∃ (x y : Addr) (s l w s' l' w' : Int), vs = [.ref x, .ref y] ∧ ExAt C H x s l w ∧ ExAt C H y s' l' w' ∧ Sm 200 s ∧ Sm 200 l ∧ Sm 200 w ∧ Sm 200 s' ∧ Sm 200 l' ∧ Sm 200 w' ∧ Q (.int (ord s l w s' l' w')) H
def D4 (r : List Pc) : PyData := .tuple [.tuple [.int (fourOf r).1.1, .int (fourOf r).1.2], .tuple [.int (fourOf r).2.1.1, .int (fourOf r).2.1.2], .tuple [.int (fourOf r).2.2.1.1, .int (fourOf r).2.2.1.2], .tuple [.int (fourOf r).2.2.2.1, .int (fourOf r).2.2.2.2]]
def spEqP (C : Addr) : Sp := fun vs H Q _ => ∃ (x y : Addr) (r r' : List Pc), vs = [.ref x, .ref y] ∧ PatAt C H x r ∧ PatAt C H y r' ∧ Q (.bl (decide (fourOf r = fourOf r'))) H
structure OwE (P : Program) (w : World) (K : PySem.W.Frag) (mg : Str → Option Value) (base : Heap) (C g : Addr) (fd : FuncData) : Prop where
  e_at : PySem.W.findIn K (.ref C) "__eq__" = some (some (.ref g))
  e_fn : PySem.W.isFn K (.ref g) = true
  ok : FnOk P w K mg base CX0 1 g fd ["self", "other"] (spEqP C)
  b : Binds K fd ["self", "other"] []
  n_at : PySem.W.findIn K (.ref C) "__ne__" = some (some (.builtin "object.__ne__"))
  n_sub : PySem.W.subIn K (.ref C) (.type "object") = some true
def spEqO (Ce aO : Addr) : Sp := fun vs H Q _ => ∃ (x dx : Addr) (fs : List (Str × V)), vs = [.ref x, .ref aO] ∧ H x = some (.ins Ce dx fs) ∧ Q (.bl false) H
structure OwX (P : Program) (w : World) (K : PySem.W.Frag) (mg : Str → Option Value) (base : Heap) (C aO g : Addr) (fd : FuncData) : Prop where
  e_at : PySem.W.findIn K (.ref C) "__eq__" = some (some (.ref g))
  e_fn : PySem.W.isFn K (.ref g) = true
  ok : FnOk P w K mg base CX0 1 g fd ["self", "other"] (spEqO C aO)
  b : Binds K fd ["self", "other"] []
  nf : PySem.W.notFirst K C (.type "tuple") = true
section
variable {P : Program} {w : World} {K : PySem.W.Frag} {mg : Str → Option Value} {base : Heap} {tG t1 t2 t3 tP tC : Tok} {aO aW J C Ce Cl fP fJ : Addr} {fdJ fx fe : FuncData} {gx ge : Addr}
theorem sc_beside_fraction : FnScope ["parts", "top", "bottom", "square", "line", "whole"] ["parts", "top", "bottom"] (defScope s_beside_fraction) := ⟨rfl, rfl, rfl, by decide +kernel, rfl, by decide +kernel, by decide +kernel⟩

theorem ok_beside {f : Addr} {fd : FuncData} (F : Fun K "beside_fraction" "beside_fraction" s_beside_fraction f fd) (D_sign : Df P w K mg base 1 "sign" ["number"] spSign) : FnOk P w K mg base CX0 2 f fd ["parts", "top", "bottom"] spBeside := by
  refine F.ok sc_beside_fraction (fun vs H Q E h => ?_) (fun cdv A outer s H vs Q E hr h => ?_)
  · obtain ⟨p, s, l, w, x, y, rfl, _⟩ := h
    rfl
  · obtain ⟨p, sq, l, w, x, y, rfl, hp, hs, hl, hw, hx, hy, k⟩ := h
    refine ⟨_, (pss_cons (ps_asg (pv 0) (pg_tup rfl (pgs_cons (pg_name (i := 3) sc_beside_fraction.nd rfl (.inl rfl)) (pgs_cons (pg_name (i := 4) sc_beside_fraction.nd rfl (.inl rfl)) (pgs_cons (pg_name (i := 5) sc_beside_fraction.nd rfl (.inl rfl)) pgs_nil)))))
      (pss_one (ps_ret (pe_df D_sign (hr.mono (by decide)) (by rfl) (pa_cons (pe_op op_sub (pe_op op_sub (pe_op op_mulX (pe_op op_mulX (pv 5) (pv 2)) (pv 2)) (pe_op op_mulX (pe_op op_mulX (pv 4) (pv 1)) (pv 2))) (pe_op op_mulX (pe_op op_mulX (pv 3) (pv 1)) (pv 1))) pa_nil))))), ?_⟩
    refine ⟨_, rfl, p, _, rfl, SqT.of hp, rfl, _, _, rfl, _, _, rfl, _, _, rfl, rfl, ?_⟩
    refine ⟨_, rfl, _, rfl, _, _, rfl, rfl, mx hw hy, _, rfl, _, _, rfl, rfl, mx (hw.mul hy) hy, _, rfl, _, rfl, _, _, rfl, rfl, mx hl hx, _, rfl, _, _, rfl, rfl, mx (hl.mul hx) hy, _, _, rfl, rfl, _, rfl, _, rfl, _, _, rfl, rfl, mx hs hx, _, rfl, _, _, rfl, rfl, mx (hs.mul hx) hx, _, _, rfl, rfl, _, rfl, ?_⟩
    exact k
abbrev s_sign_along_line : Stmt := top 54
abbrev s_Exact_order : Stmt := inClass (top 49) 5
theorem ok_poK {f : Addr} {fd : FuncData} (F : Fun K "pair_order" "pair_order" s_pair_order f fd) (D_sign : Df P w K mg base 1 "sign" ["number"] spSign) : FnOk P w K mg base CX0 2 f fd ["first", "second"] (spPOK K) := by
  refine F.ok sc_pair_order (fun vs H Q E h => ?_) (fun cdv A outer s H vs Q E hr h => ?_)
  · obtain ⟨p, q, e, f, rfl, _⟩ := h
    rfl
  · obtain ⟨p, q, e, f, rfl, hp, hq, e1, e2, f1, f2, k⟩ := h
    refine ⟨_, (pss_one (ps_ret (pe_df D_sign (hr.mono (by decide)) (by rfl) (pa_cons (pe_op op_sub (pe_op op_mulX (pe_ix ix_tup (pv 0) pe_int (fun _ _ => rfl)) (pe_ix ix_tup (pv 1) pe_int (fun _ _ => rfl))) (pe_op op_mulX (pe_ix ix_tup (pv 1) pe_int (fun _ _ => rfl)) (pe_ix ix_tup (pv 0) pe_int (fun _ _ => rfl)))) pa_nil)))), ?_⟩
    exact ⟨_, rfl, p, _, _, _, rfl, rfl, hp, atI_nat (j := 0) rfl, _, rfl, q, _, _, _, rfl, rfl, hq, atI_nat (j := 1) rfl, _, _, rfl, rfl, mx e1 f2, _, rfl, q, _, _, _, rfl, rfl, hq, atI_nat (j := 0) rfl, _, rfl, p, _, _, _, rfl, rfl, hp, atI_nat (j := 1) rfl, _, _, rfl, rfl, mx f1 e2, _, _, rfl, rfl, _, rfl, k⟩
abbrev s_difference : Stmt := top 62
abbrev s_sign_at : Stmt := top 64
abbrev s_sign_far_out : Stmt := top 65
abbrev s_Pattern_eq : Stmt := inClass (top 35) 6
theorem sc_Exact_eq : FnScope ["self", "other"] ["self", "other"] (defScope s_Exact_eq) := ⟨rfl, rfl, rfl, by decide +kernel, rfl, by decide +kernel, by decide +kernel⟩

theorem ok_eqo {f : Addr} {fd : FuncData} (F : Fun K "__eq__" "Exact.__eq__" s_Exact_eq f fd) (T : Txt4 K mg tG t1 t2 t3 tP tC aO aW J C Ce Cl) (kt : PySem.W.kitOne K (.type "tuple") (.ref Ce) = some false) : FnOk P w K mg base CX0 1 f fd ["self", "other"] (spEqO Ce aO) := by
  refine F.ok sc_Exact_eq (fun vs H Q E h => ?_) (fun cdv A outer s H vs Q E hr h => ?_)
  · obtain ⟨x, dx, fs, rfl, _⟩ := h
    rfl
  · obtain ⟨x, dx, fs, rfl, hx, k⟩ := h
    refine ⟨_, (pss_one (ps_ret (pe_and (pe_callB call_isi (by rfl) T.isinstance (by decide +kernel) (pa_cons (pv 1) (pa_cons (pe_glob (v := .ref Ce) rfl T.mgE rfl) pa_nil))) (pe_one (pe_cmpR op_eq (pe_fld (pv 0) rfl) (pe_fld (pv 1) rfl) (nomark _)))))), ?_⟩
    exact ⟨_, rfl, _, _, _, _, false, rfl, .own Ce, ty_dp (d := .tuple [.int 1, .int 0]) (.tup (.inr T.opn) (.cons (.int _) (.cons (.int _) .nil))), kt, false, rfl, iteF k⟩
abbrev s_times : Stmt := top 63
end
end RL

/-! never_more for ladders: no number shows more, and the order at a number is the final one. -/
namespace RL
theorem go_crs (m : Mx) (e : Int × Int) : goV m e = crs (m.app e) e := rfl
def Nm (m n : Mx) : Prop := ∀ e, Pos2 e → crs (m.app e) (n.app e) ≤ 0
theorem crs_lt_le {a b c : Int × Int} (ha : Pos2 a) (hb : Pos2 b) (hc : Pos2 c) (h : crs a b < 0) (k : crs b c ≤ 0) : crs a c < 0 := by
  obtain ⟨a1, a2⟩ := a
  obtain ⟨b1, b2⟩ := b
  obtain ⟨c1, c2⟩ := c
  obtain ⟨p1, p2, p3⟩ := ha
  obtain ⟨q1, q2, q3⟩ := hb
  obtain ⟨r1, r2, r3⟩ := hc
  unfold crs at h k ⊢
  dsimp only at p1 p2 p3 q1 q2 q3 r1 r2 r3 h k ⊢
  have a2p : 0 < a2 := by
    rcases Int.lt_or_le 0 a2 with z | z
    · exact z
    · have : a2 = 0 := by omega
      subst this
      have := Int.mul_nonneg p1 q2
      omega
  rcases Int.lt_or_le 0 b2 with bp | bp
  · have key : b2 * (a1 * c2 - c1 * a2) < 0 := by
      have e : b2 * (a1 * c2 - c1 * a2) = c2 * (a1 * b2 - b1 * a2) + a2 * (b1 * c2 - c1 * b2) := by grind
      rw [e]
      rcases Int.lt_or_le 0 c2 with cp | cp
      · have x1 := Int.mul_pos cp (show 0 < -(a1 * b2 - b1 * a2) by omega)
        have x2 := Int.mul_nonneg p2 (show 0 ≤ -(b1 * c2 - c1 * b2) by omega)
        have e1 : c2 * -(a1 * b2 - b1 * a2) = -(c2 * (a1 * b2 - b1 * a2)) := by grind
        have e2 : a2 * -(b1 * c2 - c1 * b2) = -(a2 * (b1 * c2 - c1 * b2)) := by grind
        omega
      · have : c2 = 0 := by omega
        subst this
        have x := Int.mul_pos a2p (Int.mul_pos (show 0 < c1 by omega) bp)
        have e1 : a2 * (b1 * 0 - c1 * b2) = -(a2 * (c1 * b2)) := by grind
        omega
    rcases Int.lt_or_le (a1 * c2 - c1 * a2) 0 with z | z
    · exact z
    · have := Int.mul_nonneg (show 0 ≤ b2 by omega) z
      omega
  · have b0 : b2 = 0 := by omega
    subst b0
    have bp' : 0 < b1 := by omega
    have c0 : c2 = 0 := by
      rcases Int.lt_or_le 0 c2 with z | z
      · have := Int.mul_pos bp' z
        omega
      · omega
    subst c0
    have := Int.mul_pos (show 0 < c1 by omega) a2p
    omega
section
variable {m n : Mx}
end
section
variable {r r' : List Pc} {e : Int × Int}
/-! ### the final order is that way too -/
end
end RL

/-! never_more for ladders, on: the final order. -/
namespace RL
section
variable {r r' : List Pc} {e : Int × Int}
end
end RL

/-! k19: a place between two runs for ever. -/
namespace RL
section
variable {r r' : List Pc} {e f : Int × Int}
structure Parts (r r' : List Pc) (e f : Int × Int) (k : Nat) (m : Int × Int) : Prop where
  pm : Pos2 m
  m2 : 0 < m.2
  a : crs (appN (matR r) k e) m < 0
  b : crs m (appN (matR r') k f) < 0
  ga : goV (matR r) m ≤ 0
  gb : 0 ≤ goV (matR r') m
end
end RL

/-! k20: one pattern in front of two loads. -/
namespace RL
section
variable {r : List Pc} {e f : Int × Int}
theorem sg_three (x : Int) : sg x = 1 ∨ sg x = 0 ∨ sg x = -1 := by
  by_cases q : sg x = 0
  · exact .inr (.inl q)
  · rcases sg_pm q with p | p
    · exact .inl p
    · exact .inr (.inr p)
end
end RL

/-! k20: a pattern two and three times over. -/
namespace RL
section
variable {r : List Pc} {e : Int × Int}
theorem rise_lt (hr : RowOk r) (n1 : 1 ≤ r.length) (he : Pos2 e) (g : goR r e = 1) (i : Nat) : ∀ k, crs (appN (matR r) i e) (appN (matR r) (i + (k + 1)) e) < 0
  | 0 => by
    have h : 0 < goV (matR r) (appN (matR r) i e) := by
      have := goR_later hr e i
      rw [g] at this
      exact sg_one.mp this
    show crs (appN (matR r) i e) ((matR r).app (appN (matR r) i e)) < 0
    have e1 : goV (matR r) (appN (matR r) i e) = crs ((matR r).app (appN (matR r) i e)) (appN (matR r) i e) := rfl
    rw [crs_anti]
    omega
  | k + 1 => by
    have ih := rise_lt hr n1 he g i k
    have st := rise_lt hr n1 he g (i + (k + 1)) 0
    exact crs_lt_le (appN_pos hr he i) (appN_pos hr he _) (appN_pos hr he _) ih (Int.le_of_lt st)
theorem fall_lt (hr : RowOk r) (n1 : 1 ≤ r.length) (he : Pos2 e) (g : goR r e = -1) (i : Nat) : ∀ k, crs (appN (matR r) (i + (k + 1)) e) (appN (matR r) i e) < 0
  | 0 => by
    have h : goV (matR r) (appN (matR r) i e) < 0 := by
      have := goR_later hr e i
      rw [g] at this
      exact sg_m1'.mp this
    exact h
  | k + 1 => by
    have ih := fall_lt hr n1 he g i k
    have st := fall_lt hr n1 he g (i + (k + 1)) 0
    exact crs_lt_le (appN_pos hr he _) (appN_pos hr he _) (appN_pos hr he i) st (Int.le_of_lt ih)
theorem way_order (hr : RowOk r) (n1 : 1 ≤ r.length) (he : Pos2 e) (g : goR r e ≠ 0) (i j : Nat) : sg (crs (appN (matR r) i e) (appN (matR r) j e)) = if i = j then 0 else if i < j then - goR r e else goR r e := by
  have g3 : goR r e = 1 ∨ goR r e = -1 := sg_pm g
  rcases Nat.lt_trichotomy i j with h | h | h
  · obtain ⟨k, rfl⟩ : ∃ k, j = i + (k + 1) := ⟨j - i - 1, by omega⟩
    rw [if_neg (by omega), if_pos h]
    rcases g3 with g1 | g1
    · rw [g1, sg_m1'.mpr (rise_lt hr n1 he g1 i k)]
    · have := fall_lt hr n1 he g1 i k
      rw [crs_anti] at this
      rw [g1, sg_one.mpr (by omega)]
      rfl
  · subst h
    rw [if_pos rfl]
    have : crs (appN (matR r) i e) (appN (matR r) i e) = 0 := by unfold crs; omega
    rw [this]
    rfl
  · obtain ⟨k, rfl⟩ : ∃ k, i = j + (k + 1) := ⟨i - j - 1, by omega⟩
    rw [if_neg (by omega), if_neg (by omega)]
    rcases g3 with g1 | g1
    · have := rise_lt hr n1 he g1 j k
      rw [crs_anti] at this
      rw [g1, sg_one.mpr (by omega)]
    · rw [g1, sg_m1'.mpr (fall_lt hr n1 he g1 j k)]
end
end RL

/-! k20: a pattern two and three times over, on. -/
namespace RL
theorem appN_scK (m : Mx) (k : Int) (x : Int × Int) : ∀ n, appN m n (sc k x) = sc k (appN m n x)
  | 0 => rfl
  | n + 1 => by
    show m.app (appN m n (sc k x)) = sc k (m.app (appN m n x))
    rw [appN_scK m k x n]
    unfold Mx.app sc
    dsimp only
    ext <;> dsimp only <;> grind
section
variable {r : List Pc} {e : Int × Int}
theorem crs_scK1 (k : Int) (x y : Int × Int) : crs (sc k x) y = k * crs x y := by
  unfold crs sc
  dsimp only
  grind
theorem goV_scK (m : Mx) (k : Int) (x : Int × Int) : goV m (sc k x) = k * k * goV m x := by
  unfold goV Mx.app sc
  dsimp only
  grind
end
end RL

/-! k20: runs with one fraction as their limit, in closed form, and which order lasts by size alone. -/
namespace RL
section
variable {m n : Mx} {t : Int}
def outP (m : Mx) (t : Int) (x : Int × Int) : Int := (wF m t 1 - vF m t 1) * x.2 + m.c * dl t 1 x
def alP (m n : Mx) (t : Int) (x y : Int × Int) : Int := outP n t y * (dl t 1 x * (wF m t 1 - vF m t 1))
def gaP (m n : Mx) (t : Int) (x y : Int × Int) : Int := dl t 1 x * dl t 1 y * (m.c * (wF n t 1 - vF n t 1) - n.c * (wF m t 1 - vF m t 1))
end
end RL

/-! k20: which order lasts, by size. -/
namespace RL
theorem pow_posK {a : Int} (ha : 0 < a) : ∀ n : Nat, 0 < a ^ n
  | 0 => by
    rw [Int.pow_zero]
    decide
  | n + 1 => by
    rw [Int.pow_succ]
    exact Int.mul_pos (pow_posK ha n) ha
end RL

/-! k20: two runs whose limit is 2 ohms: the order at 1000 is the final one. -/
namespace RL
def sid2 (x : Int × Int) : Int := sg (crs x (2, 1))
structure Two2 (r r' : List Pc) : Prop where
  ok : RowOk r
  ok' : RowOk r'
  l8 : r.length ≤ 8
  l8' : r'.length ≤ 8
  n1 : 1 ≤ r.length
  n1' : 1 ≤ r'.length
  c : 0 < (matR r).c
  c' : 0 < (matR r').c
  b : 0 < (matR r).b
  b' : 0 < (matR r').b
  f : goV (matR r) (2, 1) = 0
  g : goV (matR r') (2, 1) = 0
  rt : 81 * (vF (matR r') 2 1 * wF (matR r) 2 1) ≤ 64 * (vF (matR r) 2 1 * wF (matR r') 2 1) ∨ 81 * (vF (matR r) 2 1 * wF (matR r') 2 1) ≤ 64 * (vF (matR r') 2 1 * wF (matR r) 2 1) ∨ vF (matR r) 2 1 * wF (matR r') 2 1 = vF (matR r') 2 1 * wF (matR r) 2 1
  q : 81 * vF (matR r) 2 1 ≤ 64 * wF (matR r) 2 1
  q' : 81 * vF (matR r') 2 1 ≤ 64 * wF (matR r') 2 1
end RL

/-! k20: the order at 1000 of two runs whose limit is 2 ohms. -/
namespace RL
section
variable {r r' : List Pc} {e f : Int × Int}
end
end RL

/-! k20: the rows that leave 2 ohms as they are. -/
namespace RL
def ohms2 : List (List Pc) := [[(true, 1), (false, 2)], [(false, 4), (true, 2)], [(false, 3), (true, 4)], [(false, 6), (true, 1)]]
def all2 : List (List Pc) := ohms2.flatMap fun a => (ohms2 ++ [[]]).flatMap fun b => (ohms2 ++ [[]]).map fun c => a ++ b ++ c
def oneB (r : List Pc) : Bool := decide (r.length ≤ 6) && decide (1 ≤ r.length) && (r.all fun p => decide (1 ≤ p.2) && decide (p.2 ≤ 12)) && decide (0 < (matR r).c) && decide (0 < (matR r).b) && decide (goV (matR r) (2, 1) = 0) && decide (81 * vF (matR r) 2 1 ≤ 64 * wF (matR r) 2 1)
def twoB (a b : Int × Int) : Bool := decide (81 * (b.1 * a.2) ≤ 64 * (a.1 * b.2)) || (decide (81 * (a.1 * b.2) ≤ 64 * (b.1 * a.2)) || decide (a.1 * b.2 = b.1 * a.2))
def rts : List (Int × Int) := all2.map fun r => (vF (matR r) 2 1, wF (matR r) 2 1)
end RL

/-! k20: 1 / (R - 2) as the law walks it, and what the sets hold. -/
namespace RL
def apS (m : Mx) (s : Int) (p : Int × Int) : Int × Int := (wF m 2 1 * (wF m 2 1 * p.1 + m.c * p.2), s * s * p.2)
def apN (m : Mx) (s : Int) : Nat → Int × Int → Int × Int
  | 0, p => p
  | n + 1, p => apS m s (apN m s n p)
end RL

/-! k20: which of two runs with the limit 2 comes nearer in the end. -/
namespace RL
section
variable {r r' : List Pc} {e f : Int × Int}
end
end RL

/-! searches: powers of a map, divided by what their numbers have in common; bit by bit. -/
namespace RL
structure NN (m : Mx) : Prop where
  a0 : 0 < m.a
  b0 : 0 ≤ m.b
  c0 : 0 ≤ m.c
  d0 : 0 < m.d
theorem Way.nn {m : Mx} (w : Way m) : NN m := ⟨w.a0, w.b0, w.c0, w.d0⟩
def sqM (m : Mx) : Mx := ⟨m.a * m.a + m.b * m.c, m.a * m.b + m.b * m.d, m.c * m.a + m.d * m.c, m.c * m.b + m.d * m.d⟩
def gcM (m : Mx) : Int := gc (gc (gc (gc 0 m.a) m.b) m.c) m.d
def redM (m : Mx) : Mx := ⟨m.a / gcM m, m.b / gcM m, m.c / gcM m, m.d / gcM m⟩
def rpw (m : Mx) : Nat → Mx
  | 0 => m
  | i + 1 => redM (sqM (rpw m i))
theorem gc_dvd (x y : Int) : gc x y ∣ x ∧ gc x y ∣ y := ⟨Int.gcd_dvd_left .., Int.gcd_dvd_right ..⟩
theorem gcK_nonneg (x y : Int) : 0 ≤ gc x y := Int.natCast_nonneg _
theorem gcM_dvd (m : Mx) : gcM m ∣ m.a ∧ gcM m ∣ m.b ∧ gcM m ∣ m.c ∧ gcM m ∣ m.d := by
  have h4 := gc_dvd (gc (gc (gc 0 m.a) m.b) m.c) m.d
  have h3 := gc_dvd (gc (gc 0 m.a) m.b) m.c
  have h2 := gc_dvd (gc 0 m.a) m.b
  have h1 := gc_dvd 0 m.a
  unfold gcM
  exact ⟨Int.dvd_trans (Int.dvd_trans (Int.dvd_trans h4.1 h3.1) h2.1) h1.2, Int.dvd_trans (Int.dvd_trans h4.1 h3.1) h2.2, Int.dvd_trans h4.1 h3.2, h4.2⟩
theorem gcM_pos {m : Mx} (h : NN m) : 0 < gcM m := by
  have n := gcK_nonneg (gc (gc (gc 0 m.a) m.b) m.c) m.d
  rcases Int.lt_or_eq_of_le n with q | q
  · exact q
  · exfalso
    have d := (gcM_dvd m).1
    have e : gcM m = 0 := q.symm
    rw [e] at d
    have := Int.zero_dvd.mp d
    have := h.a0
    omega
theorem sqM_nn {m : Mx} (h : NN m) : NN (sqM m) := by
  have h1 := Int.mul_pos h.a0 h.a0
  have h2 := Int.mul_nonneg h.b0 h.c0
  have h3 := Int.mul_nonneg (Int.le_of_lt h.a0) h.b0
  have h4 := Int.mul_nonneg h.b0 (Int.le_of_lt h.d0)
  have h5 := Int.mul_nonneg h.c0 (Int.le_of_lt h.a0)
  have h6 := Int.mul_nonneg (Int.le_of_lt h.d0) h.c0
  have h7 := Int.mul_nonneg h.c0 h.b0
  have h8 := Int.mul_pos h.d0 h.d0
  refine ⟨?_, ?_, ?_, ?_⟩
  · show 0 < m.a * m.a + m.b * m.c
    omega
  · show 0 ≤ m.a * m.b + m.b * m.d
    omega
  · show 0 ≤ m.c * m.a + m.d * m.c
    omega
  · show 0 < m.c * m.b + m.d * m.d
    omega
theorem div_pos' {g x : Int} (hg : 0 < g) (d : g ∣ x) (hx : 0 < x) : 0 < x / g := by
  obtain ⟨k, rfl⟩ := d
  rw [Int.mul_ediv_cancel_left _ (by omega)]
  rcases Int.lt_or_le 0 k with z | z
  · exact z
  · have := Int.mul_nonpos_of_nonneg_of_nonpos (Int.le_of_lt hg) z
    omega
theorem div_nonneg' {g x : Int} (hg : 0 < g) (hx : 0 ≤ x) : 0 ≤ x / g := Int.ediv_nonneg hx (Int.le_of_lt hg)
theorem red_nn {m : Mx} (h : NN m) : NN (redM m) := by
  have g := gcM_pos h
  obtain ⟨d1, d2, d3, d4⟩ := gcM_dvd m
  exact ⟨div_pos' g d1 h.a0, div_nonneg' g h.b0, div_nonneg' g h.c0, div_pos' g d4 h.d0⟩
theorem rpw_nn {m : Mx} (h : NN m) : ∀ i, NN (rpw m i)
  | 0 => h
  | i + 1 => red_nn (sqM_nn (rpw_nn h i))
theorem red_app {m : Mx} (x : Int × Int) : m.app x = sc (gcM m) ((redM m).app x) := by
  obtain ⟨d1, d2, d3, d4⟩ := gcM_dvd m
  have e1 := Int.mul_ediv_cancel' d1
  have e2 := Int.mul_ediv_cancel' d2
  have e3 := Int.mul_ediv_cancel' d3
  have e4 := Int.mul_ediv_cancel' d4
  unfold Mx.app sc redM
  dsimp only
  ext <;> dsimp only
  · have : gcM m * (m.a / gcM m * x.1 + m.b / gcM m * x.2) = (gcM m * (m.a / gcM m)) * x.1 + (gcM m * (m.b / gcM m)) * x.2 := by grind
    rw [this, e1, e2]
  · have : gcM m * (m.c / gcM m * x.1 + m.d / gcM m * x.2) = (gcM m * (m.c / gcM m)) * x.1 + (gcM m * (m.d / gcM m)) * x.2 := by grind
    rw [this, e3, e4]
theorem sq_app (m : Mx) (x : Int × Int) : (sqM m).app x = m.app (m.app x) := by
  unfold Mx.app sqM
  ext <;> dsimp only <;> grind
theorem app_scK (m : Mx) (k : Int) (x : Int × Int) : m.app (sc k x) = sc k (m.app x) := by
  unfold Mx.app sc
  ext <;> dsimp only <;> grind
theorem sc_scK (j k : Int) (x : Int × Int) : sc j (sc k x) = sc (j * k) x := by
  unfold sc
  ext <;> dsimp only <;> grind
theorem rpw_app {m : Mx} (h : NN m) : ∀ (i : Nat) (x : Int × Int), ∃ k : Int, 0 < k ∧ appN m (2 ^ i) x = sc k ((rpw m i).app x)
  | 0, x => ⟨1, by decide, by show m.app x = sc 1 (m.app x); unfold sc; ext <;> dsimp <;> omega⟩
  | i + 1, x => by
    obtain ⟨k1, p1, e1⟩ := rpw_app h i x
    obtain ⟨k2, p2, e2⟩ := rpw_app h i (appN m (2 ^ i) x)
    have g := gcM_pos (sqM_nn (rpw_nn h i))
    refine ⟨k2 * k1 * gcM (sqM (rpw m i)), Int.mul_pos (Int.mul_pos p2 p1) g, ?_⟩
    rw [show (2 : Nat) ^ (i + 1) = 2 ^ i + 2 ^ i by rw [Nat.pow_succ]; omega, appN_add, e2, e1, app_scK, ← sq_app, red_app (m := sqM (rpw m i)), sc_scK, sc_scK]
    rfl
theorem sq_sm {m : Mx} {n : Nat} (h : MxSm n m) : MxSm (2 * n + 1) (sqM m) := by
  obtain ⟨a, b, c, d⟩ := h
  refine ⟨((a.mul a).add (b.mul c)).mono (by omega), ((a.mul b).add (b.mul d)).mono (by omega), ((c.mul a).add (d.mul c)).mono (by omega), ((c.mul b).add (d.mul d)).mono (by omega)⟩
theorem div_sm {n : Nat} {x g : Int} (h : Sm n x) (hg : 0 < g) (hx : 0 ≤ x) : Sm n (x / g) := by
  unfold Sm at *
  have h1 : x / g ≤ x := Int.ediv_le_self _ hx
  have h2 := Int.ediv_nonneg hx (Int.le_of_lt hg)
  omega
theorem red_sm {m : Mx} {n : Nat} (h : MxSm n m) (k : NN m) : MxSm n (redM m) := by
  have g := gcM_pos k
  obtain ⟨a, b, c, d⟩ := h
  exact ⟨div_sm a g (Int.le_of_lt k.a0), div_sm b g k.b0, div_sm c g k.c0, div_sm d g (Int.le_of_lt k.d0)⟩
def dblN (n : Nat) : Nat → Nat
  | 0 => n
  | i + 1 => 2 * dblN n i + 1
theorem rpw_sm {m : Mx} {n : Nat} (h : NN m) (hm : MxSm n m) : ∀ i, MxSm (dblN n i) (rpw m i)
  | 0 => hm
  | i + 1 => red_sm (sq_sm (rpw_sm h hm i)) (sqM_nn (rpw_nn h i))
/-! ### rails alone, rungs alone -/
def OneK (m : Mx) : Prop := NN m ∧ m.a = m.d ∧ (m.b = 0 ∨ m.c = 0)
theorem gcM_sq {m : Mx} (h : OneK m) : m.a ∣ gcM (sqM m) := by
  obtain ⟨n, ad, bc⟩ := h
  unfold gcM sqM
  dsimp only
  have z : m.b * m.c = 0 := by rcases bc with q | q <;> rw [q] <;> simp
  have z' : m.c * m.b = 0 := by rw [Int.mul_comm]; exact z
  have da : m.a ∣ m.a * m.a + m.b * m.c := by rw [z, Int.add_zero]; exact Int.dvd_mul_right ..
  have db : m.a ∣ m.a * m.b + m.b * m.d := by rw [← ad]; exact Int.dvd_add (Int.dvd_mul_right ..) (Int.dvd_mul_left ..)
  have dc : m.a ∣ m.c * m.a + m.d * m.c := by rw [← ad]; exact Int.dvd_add (Int.dvd_mul_left ..) (Int.dvd_mul_right ..)
  have dd : m.a ∣ m.c * m.b + m.d * m.d := by rw [z', Int.zero_add, ← ad]; exact Int.dvd_mul_right ..
  have g : ∀ {k x y : Int}, k ∣ x → k ∣ y → k ∣ gc x y := fun h1 h2 => Int.dvd_coe_gcd h1 h2
  exact g (g (g (g (Int.dvd_zero _) da) db) dc) dd
theorem onek_sq {m : Mx} (h : OneK m) : OneK (redM (sqM m)) := by
  obtain ⟨n, ad, bc⟩ := h
  refine ⟨red_nn (sqM_nn n), ?_, ?_⟩
  · show (m.a * m.a + m.b * m.c) / gcM (sqM m) = (m.c * m.b + m.d * m.d) / gcM (sqM m)
    rw [ad, Int.mul_comm m.b m.c, Int.add_comm]
  · rcases bc with q | q
    · left
      show (m.a * m.b + m.b * m.d) / gcM (sqM m) = 0
      rw [q]
      simp
    · right
      show (m.c * m.a + m.d * m.c) / gcM (sqM m) = 0
      rw [q]
      simp
theorem div_le_of {x y g : Int} (hy : 0 < y) (hg : 0 < g) (d : y ∣ g) (hx : 0 ≤ x) : x / g ≤ x / y := by
  obtain ⟨k, rfl⟩ := d
  have hk : 0 < k := by
    rcases Int.lt_or_le 0 k with z | z
    · exact z
    · have := Int.mul_nonpos_of_nonneg_of_nonpos (Int.le_of_lt hy) z
      omega
  rw [← Int.ediv_ediv_of_nonneg (Int.le_of_lt hy)]
  exact Int.ediv_le_self _ (Int.ediv_nonneg hx (Int.le_of_lt hy))
theorem onek_grow {m : Mx} (h : OneK m) : (redM (sqM m)).a ≤ m.a ∧ (redM (sqM m)).b ≤ 2 * m.b ∧ (redM (sqM m)).c ≤ 2 * m.c := by
  have d := gcM_sq h
  obtain ⟨n, ad, bc⟩ := h
  have g := gcM_pos (sqM_nn n)
  have s := sqM_nn n
  have a0 : m.a ≠ 0 := by have := n.a0; omega
  refine ⟨?_, ?_, ?_⟩
  · refine Int.le_trans (div_le_of n.a0 g d (Int.le_of_lt s.a0)) ?_
    show (m.a * m.a + m.b * m.c) / m.a ≤ m.a
    have z : m.b * m.c = 0 := by rcases bc with q | q <;> rw [q] <;> simp
    rw [z, Int.add_zero, Int.mul_ediv_cancel _ a0]
    exact Int.le_refl _
  · refine Int.le_trans (div_le_of n.a0 g d s.b0) ?_
    show (m.a * m.b + m.b * m.d) / m.a ≤ 2 * m.b
    rw [← ad, show m.a * m.b + m.b * m.a = m.a * (2 * m.b) by grind, Int.mul_ediv_cancel_left _ a0]
    exact Int.le_refl _
  · refine Int.le_trans (div_le_of n.a0 g d s.c0) ?_
    show (m.c * m.a + m.d * m.c) / m.a ≤ 2 * m.c
    rw [← ad, show m.c * m.a + m.a * m.c = m.a * (2 * m.c) by grind, Int.mul_ediv_cancel_left _ a0]
    exact Int.le_refl _
theorem onek_rpw {m : Mx} (h : OneK m) : ∀ i, OneK (rpw m i) ∧ (rpw m i).a ≤ m.a ∧ (rpw m i).b ≤ 2 ^ i * m.b ∧ (rpw m i).c ≤ 2 ^ i * m.c
  | 0 => ⟨h, Int.le_refl _, by show m.b ≤ 2 ^ 0 * m.b; simp, by show m.c ≤ 2 ^ 0 * m.c; simp⟩
  | i + 1 => by
    obtain ⟨o, a, b, c⟩ := onek_rpw h i
    obtain ⟨ga, gb, gc⟩ := onek_grow o
    refine ⟨onek_sq o, Int.le_trans ga a, ?_, ?_⟩
    · have : (2 : Int) ^ (i + 1) * m.b = 2 * (2 ^ i * m.b) := by rw [Int.pow_succ]; grind
      rw [this]
      exact Int.le_trans gb (by omega)
    · have : (2 : Int) ^ (i + 1) * m.c = 2 * (2 ^ i * m.c) := by rw [Int.pow_succ]; grind
      rw [this]
      exact Int.le_trans gc (by omega)
theorem onek_sm {m : Mx} {n : Nat} (h : OneK m) (hm : MxSm n m) (i : Nat) : MxSm (n + i) (rpw m i) := by
  obtain ⟨o, a, b, c⟩ := onek_rpw h i
  obtain ⟨sa, sb, sc, sd⟩ := hm
  have le : ∀ {x y : Int} {k : Nat}, 0 ≤ x → x ≤ y → Sm k y → Sm k x := fun h1 h2 h3 => by unfold Sm at *; omega
  have p : Sm (i + 1) ((2 : Int) ^ i) := by
    unfold Sm
    rw [Int.natAbs_pow]
    exact Nat.pow_lt_pow_right (by decide) (by omega)
  have tw : ∀ {x : Int}, Sm n x → Sm (n + i) (2 ^ i * x) := fun {x} hx => by
    unfold Sm at *
    rw [Int.natAbs_mul, Int.natAbs_pow, Nat.pow_add, Nat.mul_comm]
    exact Nat.mul_lt_mul_of_pos_right hx (Nat.pow_pos (by decide))
  refine ⟨(le (Int.le_of_lt o.1.a0) a sa).mono (by omega), le o.1.b0 b (tw sb), le o.1.c0 c (tw sc), ?_⟩
  rw [← o.2.1]
  exact (le (Int.le_of_lt o.1.a0) a sa).mono (by omega)
end RL

/-! searches: from which number on a run has come to a bound, or is behind it. -/
namespace RL
theorem crsT_le {x y z : Int × Int} (hx : Pos2 x) (hy : Pos2 y) (hz : Pos2 z) (h : crs x y ≤ 0) (k : crs y z ≤ 0) : crs x z ≤ 0 := by
  obtain ⟨x0, x1, xx⟩ := hx
  obtain ⟨y0, y1, yy⟩ := hy
  obtain ⟨z0, z1, zz⟩ := hz
  unfold crs at *
  rcases Int.lt_or_le 0 y.2 with p | p
  · have h1 := Int.mul_le_mul_of_nonneg_right (show x.1 * y.2 ≤ y.1 * x.2 by omega) z1
    have h2 := Int.mul_le_mul_of_nonneg_right (show y.1 * z.2 ≤ z.1 * y.2 by omega) x1
    have e1 : y.1 * x.2 * z.2 = y.1 * z.2 * x.2 := by grind
    have h3 : x.1 * z.2 * y.2 ≤ z.1 * x.2 * y.2 := by
      have a1 : x.1 * y.2 * z.2 = x.1 * z.2 * y.2 := by grind
      have a2 : z.1 * y.2 * x.2 = z.1 * x.2 * y.2 := by grind
      omega
    have := Int.le_of_mul_le_mul_right h3 p
    omega
  · have q : y.2 = 0 := by omega
    rw [q] at h k
    have yp : 0 < y.1 := by omega
    have z2 : z.2 = 0 := by
      have : y.1 * z.2 ≤ 0 := by omega
      rcases Int.lt_or_le 0 z.2 with w | w
      · have := Int.mul_pos yp w
        omega
      · omega
    rw [z2]
    have := Int.mul_nonneg z0 x1
    omega
theorem crsT_t {x y z : Int × Int} (hx : Pos2 x) (hy : Pos2 y) (hz : Pos2 z) (h : crs x y ≤ 0) (k : crs y z < 0) : crs x z < 0 := by
  have w := crsT_le hx hy hz h (Int.le_of_lt k)
  rcases Int.lt_or_eq_of_le w with q | q
  · exact q
  · exfalso
    have b : crs z x ≤ 0 := by rw [crs_anti]; omega
    have := crsT_le hz hx hy b h
    rw [crs_anti] at this
    omega
def holdB (g : Int) (b : Int × Int) (st : Bool) (x : Int × Int) : Bool := if st then decide (0 < g * crs x b) else decide (0 ≤ g * crs x b)
theorem holdB_sc {g k : Int} {b : Int × Int} {st : Bool} {x : Int × Int} (hk : 0 < k) : holdB g b st (sc k x) = holdB g b st x := by
  have e : g * crs (sc k x) b = k * (g * crs x b) := by rw [crs_scK1]; grind
  unfold holdB
  rw [e]
  cases st
  · rw [if_neg (by decide), if_neg (by decide)]
    refine decide_eq_decide.mpr ⟨fun h => ?_, fun h => Int.mul_nonneg (Int.le_of_lt hk) h⟩
    rcases Int.lt_or_le (g * crs x b) 0 with z | z
    · have := Int.mul_neg_of_pos_of_neg hk z
      omega
    · exact z
  · rw [if_pos rfl, if_pos rfl]
    exact decide_eq_decide.mpr ⟨fun h => pos_of hk h, fun h => Int.mul_pos hk h⟩
section
variable {r : List Pc} {e b : Int × Int}
theorem go_pm (g0 : goR r e ≠ 0) : goR r e = 1 ∨ goR r e = -1 := by
  rcases sg_three (goV (matR r) e) with q | q | q
  · exact .inl q
  · exact absurd q g0
  · exact .inr q
theorem holdB_mono (hr : RowOk r) (n1 : 1 ≤ r.length) (he : Pos2 e) (hb : Pos2 b) (g0 : goR r e ≠ 0) {st : Bool} {i j : Nat} (hij : i ≤ j) (h : holdB (goR r e) b st (appN (matR r) i e) = true) : holdB (goR r e) b st (appN (matR r) j e) = true := by
  rcases Nat.lt_or_eq_of_le hij with lt | eq
  · have o := way_order hr n1 he g0 i j
    rw [if_neg (by omega), if_pos lt] at o
    have px := appN_pos hr he i
    have py := appN_pos hr he j
    unfold holdB at *
    rcases go_pm g0 with g | g <;> rw [g] at o h ⊢
    · have lt' : crs (appN (matR r) i e) (appN (matR r) j e) < 0 := sg_m1'.mp (by omega)
      cases st
      · rw [if_neg (by decide)] at h ⊢
        have h := of_decide_eq_true h
        refine decide_eq_true ?_
        have := crsT_le hb px py (by rw [crs_anti]; omega) (Int.le_of_lt lt')
        rw [crs_anti] at this
        omega
      · rw [if_pos rfl] at h ⊢
        have h := of_decide_eq_true h
        refine decide_eq_true ?_
        have := crsT_t hb px py (by rw [crs_anti]; omega) lt'
        rw [crs_anti] at this
        omega
    · have lt' : crs (appN (matR r) j e) (appN (matR r) i e) < 0 := by
        have : 0 < crs (appN (matR r) i e) (appN (matR r) j e) := sg_one.mp (by omega)
        rw [crs_anti]
        omega
      cases st
      · rw [if_neg (by decide)] at h ⊢
        have h := of_decide_eq_true h
        refine decide_eq_true ?_
        have := crsT_le py px hb (Int.le_of_lt lt') (by omega)
        omega
      · rw [if_pos rfl] at h ⊢
        have h := of_decide_eq_true h
        refine decide_eq_true ?_
        have := crsT_t py px hb (Int.le_of_lt lt') (by omega)
        omega
  · rw [← eq]
    exact h
end
theorem least_of {p : Nat → Bool} {N : Nat} (mono : ∀ i j, i ≤ j → p i = true → p j = true) (h : p N = true) : ∃ n0, n0 ≤ N ∧ ∀ n, p n = decide (n0 ≤ n) := by
  induction N with
  | zero => exact ⟨0, Nat.le_refl _, fun n => by rw [decide_eq_true (Nat.zero_le n)]; exact mono 0 n (Nat.zero_le _) h⟩
  | succ N ih =>
    cases q : p N with
    | true =>
      obtain ⟨n0, l, hh⟩ := ih q
      exact ⟨n0, by omega, hh⟩
    | false =>
      refine ⟨N + 1, Nat.le_refl _, fun n => ?_⟩
      by_cases c : N + 1 ≤ n
      · rw [decide_eq_true c]
        exact mono _ _ c h
      · rw [decide_eq_false c]
        cases z : p n with
        | false => rfl
        | true =>
          have := mono n N (by omega) z
          rw [q] at this
          cases this
/-! ### how far -/
theorem rails_app {m : Mx} (a1 : m.a = m.d) (c : m.c = 0) (e : Int × Int) : ∀ n : Nat, appN m n e = (m.a ^ n * e.1 + n * (m.a ^ (n - 1) * m.b * e.2), m.a ^ n * e.2)
  | 0 => by show e = _; ext <;> simp
  | n + 1 => by
    show m.app (appN m n e) = _
    rw [rails_app a1 c e n]
    unfold Mx.app
    rw [c, ← a1]
    dsimp only
    cases n with
    | zero => ext <;> simp [Int.pow_succ]
    | succ n =>
      simp only [Nat.add_sub_cancel]
      have p1 : m.a ^ (n + 1 + 1) = m.a * (m.a * m.a ^ n) := by rw [Int.pow_succ, Int.pow_succ]; grind
      have p2 : m.a ^ (n + 1) = m.a * m.a ^ n := by rw [Int.pow_succ]; grind
      rw [p1, p2]
      push_cast
      ext <;> dsimp only <;> grind
theorem rungs_app {m : Mx} (a1 : m.a = m.d) (b : m.b = 0) (e : Int × Int) : ∀ n : Nat, appN m n e = (m.a ^ n * e.1, m.a ^ n * e.2 + n * (m.a ^ (n - 1) * m.c * e.1))
  | 0 => by show e = _; ext <;> simp
  | n + 1 => by
    show m.app (appN m n e) = _
    rw [rungs_app a1 b e n]
    unfold Mx.app
    rw [b, ← a1]
    dsimp only
    cases n with
    | zero => ext <;> simp [Int.pow_succ] <;> grind
    | succ n =>
      simp only [Nat.add_sub_cancel]
      have p1 : m.a ^ (n + 1 + 1) = m.a * (m.a * m.a ^ n) := by rw [Int.pow_succ, Int.pow_succ]; grind
      have p2 : m.a ^ (n + 1) = m.a * m.a ^ n := by rw [Int.pow_succ]; grind
      rw [p1, p2]
      push_cast
      ext <;> dsimp only <;> grind
def Mx4 (r : List Pc) : Prop := r.length ≤ 4 ∧ (∃ p ∈ r, p.1 = true) ∧ ∃ p ∈ r, p.1 = false
def Bnd (b : Int × Int) : Prop := 0 ≤ b.1 ∧ b.1 ≤ 1000000000000 ∧ 0 ≤ b.2 ∧ b.2 ≤ 1000000000000 ∧ (b.2 = 0 → b = (1, 0))
theorem Bnd.pos {b : Int × Int} (h : Bnd b) : Pos2 b := by
  obtain ⟨h1, h2, h3, h4, h5⟩ := h
  refine ⟨h1, h3, ?_⟩
  by_cases z : b.2 = 0
  · left
    rw [h5 z]
    decide
  · right
    omega
section
variable {r : List Pc} {e b : Int × Int}
theorem reach_mixed (ok : RowOk r) (h4 : Mx4 r) (he : Pos2 e) (hb : Bnd b) (g0 : goR r e ≠ 0) (lb : sg (goV (matR r) b) = goR r e) : 0 < goR r e * crs (appN (matR r) 250 e) b := by
  obtain ⟨l4, h1, h2⟩ := h4
  have q := quick ok l4 h1 h2
  have ml := matR_le ok (show r.length ≤ 8 by omega)
  have u := (near250 q he).1
  obtain ⟨b1, b2, b3, b4, b5⟩ := hb
  by_cases z : b.2 = 0
  · have eb := b5 z
    subst eb
    have c0 : 0 < (matR r).c := by have := q.c1; have := q.s0; omega
    have : goV (matR r) (1, 0) < 0 := by
      unfold goV Mx.app
      dsimp only
      omega
    rw [sg_m1'.mpr this] at lb
    rw [← lb]
    unfold crs
    dsimp only
    omega
  · rcases go_pm g0 with g | g <;> rw [g] at lb ⊢
    · have := reach_up q ml he b1 b2 (show 1 ≤ b.2 by omega) b4 (sg_one.mp lb)
      unfold crs
      omega
    · have := reach_down q ml he b1 b2 (show 1 ≤ b.2 by omega) b4 (sg_m1'.mp lb)
      unfold crs
      omega
def Lines (r : List Pc) : Prop := (matR r).b = 0 ∨ (matR r).c = 0
theorem reach_lines (ok : RowOk r) (n1 : 1 ≤ r.length) (hl : Lines r) (big : (matR r).c = 0 ∨ sclR r ≤ 12 * (matR r).c) (he : Pos2 e) (hb : Bnd b) (g0 : goR r e ≠ 0) (lb : sg (goV (matR r) b) = goR r e) (one : (matR r).c = 0 → (matR r).a = 1) (sa : (matR r).b = 0 → (matR r).a = sclR r) : 0 < goR r e * crs (appN (matR r) 12000000000001 e) b := by
  have w := way_of ok n1
  have a0 := w.a0
  have ad := w.ad hl
  obtain ⟨b1, b2, b3, b4, b5⟩ := hb
  rcases hl with z | z
  · -- rungs alone
    have c1 : 0 < (matR r).c := by have := w.ne; omega
    have gv : ∀ x, goV (matR r) x = - ((matR r).c * (x.1 * x.1)) := w.goV_b z
    have e1 : 0 < e.1 := by
      rcases Int.lt_or_eq_of_le he.1 with q | q
      · exact q
      · exfalso
        apply g0
        unfold goR
        rw [gv, ← q]
        simp
        rfl
    have ge : goR r e = -1 := by
      unfold goR
      rw [gv]
      exact sg_m1'.mpr (by have := Int.mul_pos c1 (Int.mul_pos e1 e1); omega)
    rw [ge] at lb ⊢
    have p1 : 0 < b.1 := by
      have := sg_m1'.mp lb
      rw [gv] at this
      rcases Int.lt_or_eq_of_le b1 with q | q
      · exact q
      · rw [← q] at this
        simp at this
    rw [rungs_app ad z e]
    have P : 0 < (matR r).a ^ (12000000000001 - 1 : Nat) := pow_posK a0 _
    have pe : (matR r).a ^ (12000000000001 : Nat) = (matR r).a * (matR r).a ^ (12000000000001 - 1 : Nat) := by
      rw [show (12000000000001 : Nat) = (12000000000001 - 1) + 1 from rfl, Int.pow_succ, Nat.add_sub_cancel, Int.mul_comm]
    have as := sa z
    unfold crs
    dsimp only
    rw [pe]
    generalize (matR r).a ^ (12000000000001 - 1 : Nat) = W at *
    have bg : (matR r).a ≤ 12 * (matR r).c := by rw [as]; rcases big with q | q <;> omega
    generalize (matR r).a = A at *
    generalize (matR r).c = C at *
    rw [show ((12000000000001 : Nat) : Int) = 12000000000001 from rfl]
    have h1 : A * b.2 ≤ 12 * C * 1000000000000 := by
      have x1 := Int.mul_le_mul_of_nonneg_right bg b3
      have x2 := Int.mul_le_mul_of_nonneg_left b4 (show 0 ≤ 12 * C by omega)
      omega
    have h2 : 12000000000001 * C ≤ b.1 * (12000000000001 * C) := by
      have := Int.mul_le_mul_of_nonneg_right (show 1 ≤ b.1 by omega) (show 0 ≤ 12000000000001 * C by omega)
      omega
    have h3 : 0 ≤ b.1 * (A * e.2) := Int.mul_nonneg b1 (Int.mul_nonneg (Int.le_of_lt a0) he.2.1)
    have h4 : 0 < b.1 * (12000000000001 * C) - A * b.2 := by omega
    have h5 := Int.mul_pos e1 h4
    have h6 : 0 < W * (e.1 * (b.1 * (12000000000001 * C) - A * b.2) + b.1 * (A * e.2)) := Int.mul_pos P (by omega)
    have e6 : -1 * (A * W * e.1 * b.2 - b.1 * (A * W * e.2 + 12000000000001 * (W * C * e.1))) = W * (e.1 * (b.1 * (12000000000001 * C) - A * b.2) + b.1 * (A * e.2)) := by grind
    rw [e6]
    exact h6
  · have bb : 0 < (matR r).b := by have := w.ne; omega
    have gv : ∀ x, goV (matR r) x = (matR r).b * (x.2 * x.2) := w.goV_c z
    have e2 : 0 < e.2 := by
      rcases Int.lt_or_eq_of_le he.2.1 with q | q
      · exact q
      · exfalso
        apply g0
        unfold goR
        rw [gv, ← q]
        simp
        rfl
    have ge : goR r e = 1 := by
      unfold goR
      rw [gv]
      exact sg_one.mpr (Int.mul_pos bb (Int.mul_pos e2 e2))
    rw [ge] at lb ⊢
    have q1 : 0 < b.2 := by
      have := sg_one.mp lb
      rw [gv] at this
      rcases Int.lt_or_eq_of_le b3 with q | q
      · exact q
      · rw [← q] at this
        simp at this
    rw [rails_app ad z e, one z]
    unfold crs
    dsimp only
    rw [Int.one_pow, Int.one_pow, show ((12000000000001 : Nat) : Int) = 12000000000001 from rfl]
    generalize (matR r).b = B at *
    have h1 : e.2 ≤ B * e.2 * b.2 := by
      have x1 := Int.mul_le_mul_of_nonneg_right (show 1 ≤ B by omega) (Int.le_of_lt e2)
      have x2 := Int.mul_le_mul_of_nonneg_left (show 1 ≤ b.2 by omega) (show 0 ≤ B * e.2 by omega)
      omega
    have h2 : b.1 * e.2 ≤ 1000000000000 * e.2 := Int.mul_le_mul_of_nonneg_right b2 (Int.le_of_lt e2)
    have h3 := Int.mul_nonneg he.1 b3
    have e6 : 1 * ((1 * e.1 + 12000000000001 * (1 * B * e.2)) * b.2 - b.1 * (1 * e.2)) = e.1 * b.2 + 12000000000001 * (B * e.2 * b.2) - b.1 * e.2 := by grind
    rw [e6]
    omega
end
end RL

set_option maxHeartbeats 2000000
namespace RL
open PySem L2 PySem.Spec PyProof.Rows
structure Bi (P : Program) (w : World) (K : PySem.W.Frag) (mg : Str → Option Value) (base : Heap) (x : Str) : Prop where
  ex : ∃ (C g : Addr) (mc : Value) (fd : FuncData), mg x = some (.ref C) ∧ ClX.CRead K C mc ∧ PySem.W.findCls K (.ref C) mc "__init__" = some (.val (.ref g)) ∧ PySem.W.keepIn K (.ref g) = true ∧ FnOk P w K mg base CX0 1 g fd ["self"] spN ∧ Binds K fd ["self"] []
def cF (cs : List Addr) (i : Nat) : Addr := cs.getD i 0
structure TxM (mg : Str → Option Value) (c : Nat → Addr) : Prop where
  m15 : mg "TooMany" = some (.ref (c 15))
section
variable {P : Program} {w : World} {K : PySem.W.Frag} {mg : Str → Option Value} {base : Heap}
abbrev s_NoAnswer_init : Stmt := inClass (top 30) 0
abbrev s_TooMany_init : Stmt := inClass (top 31) 0
end
end RL

namespace RL
open PySem L2 PySem.Spec PyProof.Rows
structure Rz (P : Program) (w : World) (K : PySem.W.Frag) (mg : Str → Option Value) (base : Heap) (c : Nat → Addr) (j : Nat) (f : Str) : Prop where
  m : XM P w K mg base 2 (c j) ["self", f] (spI K f)
  ty : PySem.W.typeIn K (.ref (c j)) = some (.type "type")
  no : PySem.W.findIn K (.ref (c j)) f = some none
end RL

set_option maxHeartbeats 1000000
namespace RL
open PySem L2 PySem.Spec PyProof.Rows
theorem sm_small {x : Int} (h0 : 0 ≤ x) (h1 : x ≤ 1000) : Sm 200 x := (sm_lt (n := 10) h0 (by show x < 1024; omega)).mono (by decide)
theorem cut_to' {ws : List V} {i : Nat} (h : i ≤ ws.length) : cutV ws none (some (i : Int)) = ws.take i := by
  unfold cutV
  rw [HT.sIx_none, HT.sIx_nat, Nat.min_eq_left (by omega), Nat.sub_zero, List.drop_zero]
theorem cut_from' {ws : List V} {i : Nat} (h : i ≤ ws.length) : cutV ws (some (i : Int)) none = ws.drop i := by
  unfold cutV
  rw [HT.sIx_none, HT.sIx_nat, Nat.min_eq_left h, List.take_of_length_le (by rw [List.length_drop]; omega)]
theorem PiecesAt.take {H : Hp} {vs : List V} {r : List Pc} (h : PiecesAt H vs r) (n : Nat) : PiecesAt H (vs.take n) (r.take n) := by
  refine ⟨by rw [List.length_take, List.length_take, h.1], fun i p hp => ?_⟩
  rw [List.getElem?_take] at hp
  split at hp
  · rename_i q
    obtain ⟨v, hv, z⟩ := h.2 i p hp
    exact ⟨v, by rw [List.getElem?_take, if_pos q]; exact hv, z⟩
  · cases hp
theorem PiecesAt.drop {H : Hp} {vs : List V} {r : List Pc} (h : PiecesAt H vs r) (n : Nat) : PiecesAt H (vs.drop n) (r.drop n) := by
  refine ⟨by rw [List.length_drop, List.length_drop, h.1], fun i p hp => ?_⟩
  rw [List.getElem?_drop] at hp
  obtain ⟨v, hv, z⟩ := h.2 _ p hp
  exact ⟨v, by rw [List.getElem?_drop]; exact hv, z⟩
theorem RowOk.take {r : List Pc} (h : RowOk r) (n : Nat) : RowOk (r.take n) := fun p hp => h p (List.mem_of_mem_take hp)
theorem RowOk.drop {r : List Pc} (h : RowOk r) (n : Nat) : RowOk (r.drop n) := fun p hp => h p (List.mem_of_mem_drop hp)
theorem RowOk.one {p : Pc} (h : PcOk p) : RowOk [p] := fun q hq => by
  rw [List.mem_singleton] at hq
  rw [hq]
  exact h
theorem pcs1 {H : Hp} {t : Addr} {r : Bool} {o : Int} (h : H t = some (.tup [.str (wd r), .int o])) : PiecesAt H [.ref t] [(r, o)] := ⟨rfl, fun j p hj => by
  match j, hj with
  | 0, hj =>
    cases hj
    exact ⟨_, rfl, t, rfl, h⟩⟩
def Mixed (r : List Pc) : Prop := (∃ p ∈ r, p.1 = true) ∧ ∃ p ∈ r, p.1 = false
def spMixed : Sp := fun vs H Q _ => ∃ (c : Addr) (m : Int), vs = [.ref c, .int m] ∧ CupAt c H ∧ 2 ≤ m ∧ m ≤ 8 ∧
  ∀ H' a r, But c H H' → CupAt c H' → a ≠ c → RowL H' a r → RowOk r → 1 ≤ r.length → (r.length : Int) ≤ m → Mixed r → Q (.ref a) H'
def spFour : Sp := fun vs H Q _ => ∃ (a : Addr) (r : List Pc), vs = [.ref a] ∧ RowL H a r ∧ RowOk r ∧ r.length ≤ 8 ∧
  ∀ H' p, Same H H' → H p = none → H' p = some (.tup [.int (matR r).a, .int (matR r).b, .int (matR r).c, .int (matR r).d, .int (sclR r)]) → Q (.ref p) H'
def dueL (r : List Pc) : List V := if (matR r).c = 0 then [.int 1, .int 0] else [.int (eqL r).1, .int (eqL r).2.1, .int (eqL r).2.2]
def spDue : Sp := fun vs H Q _ => ∃ (a : Addr) (r : List Pc), vs = [.ref a] ∧ RowL H a r ∧ RowOk r ∧ r.length ≤ 8 ∧ ∀ H' p, Same H H' → H' p = some (.tup (dueL r)) → Q (.ref p) H'
section
variable {P : Program} {w : World} {K : PySem.W.Frag} {mg : Str → Option Value} {base : Heap} {tG t1 t2 t3 tP tC : Tok} {aO aW J C Ce Cl fP fJ : Addr} {fdJ : FuncData}
theorem sc_law_mixed : FnScope ["_law_cup_here", "_law_most", "_law_found", "_law_mate", "_law_at"] ["_law_cup_here", "_law_most"] (defScope s_law_mixed) := ⟨rfl, rfl, rfl, by decide +kernel, rfl, by decide +kernel, by decide +kernel⟩

theorem ok_mixed {f : Addr} {fd : FuncData} (F : Fun K "_law_mixed" "_law_mixed" s_law_mixed f fd) (T : Txt K mg) (D_law_sip : Df P w K mg base 1 "_law_sip" ["_law_cup_here", "_law_many"] spSip) (D_law_row : Df P w K mg base 3 "_law_row" ["_law_cup_here", "_law_most"] spRow) : FnOk P w K mg base CX0 4 f fd ["_law_cup_here", "_law_most"] spMixed := by
  refine F.ok sc_law_mixed (fun vs H Q E h => ?_) (fun cdv A outer s H vs Q E hr h => ?_)
  · obtain ⟨c, m, rfl, _⟩ := h
    rfl
  · obtain ⟨c, m, rfl, hc, m2, m8, k⟩ := h
    refine ⟨_, (pss_cons (ps_set (i := 2) sc_law_mixed.nd rfl (.inl rfl) (pe_df D_law_row (hr.mono (by decide)) (by rfl) (pa_cons (pv 0) (pa_cons (pe_op op_sub (pv 1) pe_int) pa_nil))))
      (C8.pss_cut (ps_set (i := 3) sc_law_mixed.nd rfl (.inl rfl) (pe_ifExp (pt_cmpR op_eq (pe_ix ix_tup (pe_ix ix_list (pv 2) pe_int (fun _ _ => rfl)) pe_int (fun _ _ => rfl)) pe_str (nomark _)) pe_str pe_str))
      (pss_cons (ps_set (i := 4) sc_law_mixed.nd rfl (.inl rfl) (pe_df D_law_sip (hr.mono (by decide)) (by rfl) (pa_cons (pv 0) (pa_cons (pe_op op_add (pe_callB call_len_seq (by rfl) T.len (by decide +kernel) (pa_cons (pv 2) pa_nil)) pe_int) pa_nil))))
      (pss_one (ps_ret (pe_op op_cat (pe_op op_cat (pe_slice sl_list (pv 2) po_none (po_some (pv 4))) (pe_lst (pa_cons (pe_tup (pa_cons (pv 3) (pa_cons (pe_op op_add pe_int (pe_df D_law_sip (hr.mono (by decide)) (by rfl) (pa_cons (pv 0) (pa_cons pe_int pa_nil)))) pa_nil))) pa_nil))) (pe_slice sl_list (pv 2) (po_some (pv 4)) po_none))))))), ?_⟩
    have notT : ∀ {H' : Hp}, CupAt c H' → ∀ xs, H' c ≠ some (.tup xs) := fun h xs z => by obtain ⟨u, v, h, _⟩ := h; rw [h] at z; cases z
    refine ⟨_, rfl, _, rfl, _, _, rfl, rfl, c, _, rfl, hc, by omega, by omega, fun H1 a r b1 hc1 na nac ⟨ws, ha, hw⟩ hok l1 lm => ?_⟩
    have lw := hw.1
    have hir : 0 < r.length := by omega
    obtain ⟨pv, hpv, tt, rfl, htt⟩ := hw.2 0 r[0] (List.getElem?_eq_getElem hir)
    have hmem : r[0] ∈ r := List.getElem_mem hir
    generalize r[0] = pc at *
    obtain ⟨w0, o0⟩ := pc
    refine ⟨fun σ' H' => σ' = [some (.ref c), some (.int m), some (.ref a), some (.str (wd (!w0))), none] ∧ H' = H1, ?_, ?_⟩
    · refine ⟨_, rfl, a, _, _, _, rfl, rfl, SqL.of ha, atI_nat (j := 0) hpv, tt, _, _, _, rfl, rfl, SqT.of htt, atI_nat (j := 0) rfl, rfl, _, rfl, ite2 (fun e => ?_) (fun e => ?_)⟩
      · have r1 : w0 = true := wd_inj (r' := true) (V.str.inj (of_decide_eq_true e))
        subst r1
        exact ⟨rfl, rfl⟩
      · have r1 : w0 = false := by
          cases w0
          · rfl
          · exact absurd (decide_eq_true rfl) e
        subst r1
        exact ⟨rfl, rfl⟩
    rintro σ' H' ⟨rfl, rfl⟩
    refine ⟨_, rfl, _, rfl, a, _, rfl, .inl (SqL.of ha), _, _, rfl, rfl, c, _, rfl, hc1, by omega, (sm_small (by omega) (by omega)), fun H2 at_ b2 hc2 a0 a1 => ?_⟩
    obtain ⟨i, rfl⟩ := Int.eq_ofNat_of_zero_le a0
    have hi : i ≤ ws.length := by omega
    have ha2 := b2 _ _ nac ha
    have hw2 := hw.but b2 (notT hc1)
    refine ⟨_, rfl, _, rfl, _, rfl, a, ws, rfl, SqL.of ha2, fun l1' n1 => ?_⟩
    have q1 := same_upd (o := .lst (cutV ws none (some (i : Int)))) n1
    have g1 : (upd H2 l1' (.lst (cutV ws none (some (i : Int))))) l1' = some (.lst (cutV ws none (some (i : Int)))) := upd_same
    rw [cut_to' hi] at q1 g1 ⊢
    generalize upd H2 l1' (.lst (ws.take i)) = G1 at *
    have nl1 : l1' ≠ c := (hc2.ne n1).symm
    refine ⟨_, rfl, _, rfl, c, 12, rfl, hc2.same q1, by decide, (by unfold Sm; decide), fun H3 o b3 hc3 o0' o1' => ⟨_, _, rfl, rfl, (by show 2 ≤ sizeLine; decide), fun t nt => ?_⟩⟩
    have st := same_upd (o := .tup [.str (wd (!w0)), .int (1 + o)]) nt
    have ht : (upd H3 t (.tup [.str (wd (!w0)), .int (1 + o)])) t = some (.tup [.str (wd (!w0)), .int (1 + o)]) := upd_same
    have g1' := st _ _ (b3 _ _ nl1 g1)
    have ha3 := st _ _ (b3 _ _ nac (q1 _ _ ha2))
    have hw3 := ((hw2.same q1).but b3 (notT (hc2.same q1))).same st
    have hc3' := hc3.same st
    have bb : But c H (upd H3 t (.tup [.str (wd (!w0)), .int (1 + o)])) := (((b1.trans b2).trans (But.of q1)).trans b3).trans (But.of st)
    generalize upd H3 t (.tup [.str (wd (!w0)), .int (1 + o)]) = M0 at *
    refine ⟨(by show 1 ≤ sizeLine; decide), fun l2 n2 => ?_⟩
    have q2 := same_upd (o := .lst [.ref t]) n2
    have g2 : (upd M0 l2 (.lst [.ref t])) l2 = some (.lst [.ref t]) := upd_same
    generalize upd M0 l2 (.lst [.ref t]) = G2 at *
    refine ⟨l1', l2, _, _, rfl, rfl, q2 _ _ g1', g2, Nat.le_trans (by rw [List.length_take]; show _ + 1 ≤ 1000; omega) (small1000 (by decide)), fun l3 n3 => ?_⟩
    have q3 := same_upd (o := .lst (ws.take i ++ [.ref t])) n3
    have g3 : (upd G2 l3 (.lst (ws.take i ++ [.ref t]))) l3 = some (.lst (ws.take i ++ [.ref t])) := upd_same
    generalize upd G2 l3 (.lst (ws.take i ++ [.ref t])) = G3 at *
    have s3 : Same M0 G3 := q2.trans q3
    refine ⟨_, rfl, _, rfl, _, rfl, a, ws, rfl, SqL.of (s3 _ _ ha3), fun l4 n4 => ?_⟩
    have q4 := same_upd (o := .lst (cutV ws (some (i : Int)) none)) n4
    have g4 : (upd G3 l4 (.lst (cutV ws (some (i : Int)) none))) l4 = some (.lst (cutV ws (some (i : Int)) none)) := upd_same
    rw [cut_from' hi] at q4 g4 ⊢
    generalize upd G3 l4 (.lst (ws.drop i)) = G4 at *
    refine ⟨l3, l4, _, _, rfl, rfl, q4 _ _ g3, g4, Nat.le_trans (by rw [List.length_append, List.length_take, List.length_drop]; show _ + 1 + _ ≤ 1000; omega) (small1000 (by decide)), fun l5 n5 => ?_⟩
    have q5 := same_upd (o := .lst (ws.take i ++ [.ref t] ++ ws.drop i)) n5
    have s4 := s3.trans q4
    have sA := s4.trans q5
    have nl5 : l5 ≠ c := (hc3'.ne (s4.free n5)).symm
    refine k _ l5 (r.take i ++ [(!w0, 1 + o)] ++ r.drop i) (bb.trans (But.of sA)) (hc3'.same sA) nl5 ⟨_, upd_same, ((((hw3.take i).app (pcs1 ht)).app (hw3.drop i)).same sA)⟩ (((hok.take i).app (RowOk.one ⟨by dsimp; omega, by dsimp; omega⟩)).app (hok.drop i)) ?_ ?_ ?_
    · rw [List.length_append, List.length_append, List.length_take, List.length_drop]
      show 1 ≤ _ + 1 + _
      omega
    · rw [List.length_append, List.length_append, List.length_take, List.length_drop]
      show ((_ + 1 + _ : Nat) : Int) ≤ m
      omega
    · have mem1 : (w0, o0) ∈ r.take i ++ [(!w0, 1 + o)] ++ r.drop i := by
        have := hmem
        rw [← List.take_append_drop i r] at this
        rw [List.mem_append, List.mem_append]
        rcases List.mem_append.mp this with z | z
        · exact .inl (.inl z)
        · exact .inr z
      have mem2 : (!w0, 1 + o) ∈ r.take i ++ [(!w0, 1 + o)] ++ r.drop i := List.mem_append.mpr (.inl (List.mem_append.mpr (.inr (List.mem_singleton.mpr rfl))))
      cases w0
      · exact ⟨⟨_, mem2, rfl⟩, _, mem1, rfl⟩
      · exact ⟨⟨_, mem1, rfl⟩, _, mem2, rfl⟩
end
end RL

set_option maxHeartbeats 2000000
/-! The end of a law whose defs make lambdas: the tables of their code objects are tracked; no repr is under way. -/
namespace RL
open PySem L2 PySem.Spec PyProof.Rows
def startH (a : Addr) (sc : Option HO) (ts : List Addr) : Hp := fun b => if b = a then sc else if b ∈ ts then some (.tbl #[]) else none
theorem startH_a {a : Addr} {sc : Option HO} {ts : List Addr} : startH a sc ts a = sc := if_pos rfl
theorem startH_t {a b : Addr} {sc : Option HO} {ts : List Addr} (h : b ∈ ts) (n : b ≠ a) : startH a sc ts b = some (.tbl #[]) := (if_neg n).trans (if_pos h)
theorem startH_n {a b : Addr} {sc : Option HO} {ts : List Addr} (h : b ∉ ts) (n : b ≠ a) : startH a sc ts b = none := (if_neg n).trans (if_neg h)
theorem law_runT {P : Program} {w : World} {K : PySem.W.Frag} {mg mb : Str → Option Value} {k : Nat} {fa a : Addr} {cs : List (Addr × Addr)} {fd : FuncData} {x : Str} {sp : Sp} {s1 : Shared} {vs : List Value} {xs : List V} {sc : Option HO}
    (KX : K.In s1.heap) (hns : s1.heap.Ns mainGlobals mg) (hb : s1.heap.Ns builtinsNs mb) (hbb : ∀ x : Str, x ≠ "__name__" → mb x = bootBuiltins x) (hlim : s1.heap.NoLimit) (hgen : s1.gens = #[])
    (hT : ∀ p ∈ cs, s1.heap.get? p.2 = some { cls := .none, data := .fields #[] }) (nT : ∀ p ∈ cs, K.lookup p.2 = none) (hC : ∀ p ∈ cs, PySem.W.CodeHd s1.heap p.1 p.2)
    (hbm : ∃ (bm : Addr) (ob : Obj), mg "__builtins__" = some (.ref bm) ∧ bm ≠ builtinsNs ∧ s1.heap.get? bm = some ob ∧ ob.cls = .type "module" ∧ ob.dict = some builtinsNs ∧ ob.data = .plain)
    (ha : s1.heap.get? a = some { cls := .type "list", data := .seq vs.toArray }) (hr : Room k callerA)
    (F : ∀ base : Heap, K.In base → base.Ns mainGlobals mg → (∀ p ∈ cs, LamX.TabB base mg p.1 p.2) → FnG P w K mg base k fa fd [x] sp) (hbind : ∀ (s : Shared) (u : Value), BindsTo s fd ⟨[u], []⟩ [(x, u)])
    (hsc : sc = none ∨ (K.lookup a = none ∧ sc = some (.frz { cls := .type "list", data := .seq vs.toArray } (.lst xs)))) (hokA : ∀ u, sc = some u → ObjOk P w (startH a sc (cs.map (·.2))) s1.heap a u)
    (hsp : sp [.ref a] (startH a sc (cs.map (·.2))) (fun v _ => v = .bl true) fun _ _ _ => False) :
    codeAny (model P w) callerA (.call (.ref fa) ⟨[.ref a], []⟩) (fun r s' => r = .ok (.ret (.bool true)) ∧ OldK s1.heap s'.heap ∧ s'.os = s1.os ∧ AllBare s'.gens) s1 := by
  have isT : ∀ b : Addr, b ∈ cs.map (·.2) → s1.heap.get? b = some { cls := .none, data := .fields #[] } := fun b hb => by
    obtain ⟨p, hp, e⟩ := List.mem_map.mp hb
    rw [← e]
    exact hT p hp
  have memT : ∀ p ∈ cs, p.2 ∈ cs.map (·.2) := fun p hp => List.mem_map.mpr ⟨p, hp, rfl⟩
  have aT : ∀ b, b ∈ cs.map (·.2) → b ≠ a := fun b hb z => by
    have q := isT b hb
    rw [z, ha] at q
    have z' : Data.seq vs.toArray _ = Data.fields #[] := congrArg Obj.data (Option.some.inj q)
    cases z'
  generalize hH : startH a sc (cs.map (·.2)) = H at *
  have HT : ∀ b, b ∈ cs.map (·.2) → H b = some (.tbl #[]) := fun b hb => by rw [← hH]; exact startH_t hb (aT b hb)
  have HA : H a = sc := by rw [← hH]; exact startH_a
  have HN : ∀ b, b ∉ cs.map (·.2) → b ≠ a → H b = none := fun b hb n => by rw [← hH]; exact startH_n hb n
  -- what is neither the script nor a table is not tracked
  have free : ∀ {b : Addr} {o : Obj}, s1.heap.get? b = some o → (∀ ys n, o.data ≠ .seq ys n) → o.data ≠ .fields #[] → H b = none := fun {b o} e n1 n2 => by
    refine HN b (fun z => ?_) fun z => ?_
    · rw [isT b z] at e
      cases e
      exact n2 rfl
    · rw [z, ha] at e
      cases e
      exact n1 _ _ rfl
  have ns1 : ∀ {b : Addr} {m : Str → Option Value}, s1.heap.Ns b m → (hidT s1.heap H).Ns b m := fun {b m} ⟨o, es, ep, e, d, r⟩ => ⟨o, es, ep, hidT_get e (free e (fun _ _ z => by rw [d] at z; cases z) fun z => by rw [d] at z; cases z), d, r⟩
  have kin : K.In (hidT s1.heap H) := fun b o e => hidT_get (KX b o e) (by
    by_cases hb : b ∈ cs.map (·.2)
    · obtain ⟨p, hp, ep⟩ := List.mem_map.mp hb
      rw [← ep, nT p hp] at e
      cases e
    · by_cases hb2 : b = a
      · rw [hb2, HA]
        rcases hsc with z | ⟨z, _⟩
        · exact z
        · rw [hb2, z] at e
          cases e
      · exact HN b hb hb2)
  have hok : HOk P w H s1.heap := fun b u e => by
    by_cases hb : b ∈ cs.map (·.2)
    · rw [HT b hb] at e
      cases e
      exact isT b hb
    · by_cases hb2 : b = a
      · subst hb2
        rw [HA] at e
        exact hokA u e
      · rw [HN b hb hb2] at e
        cases e
  obtain ⟨mc, c1, c2⟩ := hlim
  have TB : ∀ p ∈ cs, LamX.TabB (hidT s1.heap H) mg p.1 p.2 := fun p hp => by
    have hTp := hT p hp
    refine ⟨?_, ?_, fun z => ?_⟩
    · obtain ⟨o, us, file, tf, flags, tg, inF, text, tt, e1, r1, r2, r3, r4, r5, r6, r7, r8, hne⟩ := hC p hp
      refine ⟨o, us, file, tf, flags, tg, inF, text, tt, hidT_get e1 (free e1 (fun _ _ z => by rw [r2] at z; cases z) fun z => ?_), r1, r2, r3, r4, r5, r6, r7, r8, hne⟩
      rw [r2] at z
      cases z
      simp at r3
    · obtain ⟨bm, ob, b1, b2, b3, b4, b5, b6⟩ := hbm
      have nG : bm ≠ mainGlobals := fun q => by
        obtain ⟨o, es, ep, e, hd, _⟩ := hns
        rw [q, e] at b3
        cases b3
        rw [hd] at b6
        cases b6
      have nP : bm ≠ p.2 := fun q => by
        rw [q, hTp] at b3
        cases b3
        cases b6
      exact ⟨bm, ob, b1, b2, nG, nP, hidT_get b3 (free b3 (fun _ _ z => by rw [b6] at z; cases z) fun z => by rw [b6] at z; cases z), b4, b5, b6⟩
    · obtain ⟨o, es, ep, e, hd, _⟩ := hns
      rw [z, hTp] at e
      cases e
      cases hd
  have e0 : Env0 P w K mg (hidT s1.heap H) callerA [] s1 H :=
    { frames := rfl, mod := ⟨kin, ns1 hns, ⟨mb, ns1 hb, hbb⟩, ⟨mc, ns1 c1, c2⟩⟩, bs := fun b o e => of_hidT e, bsz := Nat.le_of_eq (hidT_size _ _), funs := trivial, frf := fun b z => absurd (show b ∈ ([] : List Addr) from z) (by simp), hok := hok, bare := .of_eq hgen }
  refine codeAny_mono ((F _ kin (ns1 hns) TB).run callerA [] s1 H ⟨[.ref a], []⟩ [.ref a] [.ref a] _ _ rfl hr e0 (hbind s1 (.ref a)) (.cons rfl .nil) hsp) fun r s' h => ?_
  match r, h with
  | .ok (.ret u), ⟨v, H', os, bare, un, hok', r', q⟩ =>
    cases (show v = V.bl true from q)
    cases (show u = Value.bool true from r')
    have grown : ∀ p ∈ cs, ∃ more : Array Value, s'.heap.get? p.2 = some { cls := .none, data := .fields more } := fun p hp => by
      obtain ⟨more, z⟩ := un.tbls p.2 #[] (HT p.2 (memT p hp))
      exact ⟨_, hok' p.2 _ z⟩
    have key : ∀ b o, b ∉ cs.map (·.2) → s1.heap.get? b = some o → s'.heap.get? b = some o := fun b o nb e => by
      cases q2 : H b with
      | none => exact un.keep b o e q2 (fun z => absurd (show b ∈ ([] : List Addr) from z) (by simp)) (by simp)
      | some u =>
        have hba : b = a := Classical.byContradiction fun z => by
          rw [HN b nb z] at q2
          cases q2
        subst hba
        rw [HA] at q2
        rcases hsc with z | ⟨_, z⟩
        · rw [z] at q2
          cases q2
        · have q3 : H b = some (.frz { cls := .type "list", data := .seq vs.toArray } (.lst xs)) := by rw [HA, z]
          obtain ⟨e1, _⟩ := hok b _ q3
          obtain ⟨e2, _⟩ := hok' b _ (un.frzs b _ _ q3)
          rw [e] at e1
          cases e1
          exact e2
    refine ⟨rfl, ⟨fun b o e => ?_, fun b o e => ?_⟩, os, bare⟩
    · by_cases hb : b ∈ cs.map (·.2)
      · obtain ⟨p, hp, ep⟩ := List.mem_map.mp hb
        obtain ⟨more, hm⟩ := grown p hp
        rw [← ep] at e ⊢
        rw [hT p hp] at e
        cases e
        exact .inr (.inl ⟨((hC p hp).tab (hT p hp)).isCodeTable, rfl, #[], more, rfl, by rw [Array.empty_append]; exact hm⟩)
      · exact .inl (key b o hb e)
    · by_cases hb : b ∈ cs.map (·.2)
      · obtain ⟨p, hp, ep⟩ := List.mem_map.mp hb
        obtain ⟨more, hm⟩ := grown p hp
        rw [← ep]
        exact ⟨_, hm⟩
      · exact ⟨o, key b o hb e⟩
def LawT (l : PySem.W.OpenLaw) (w : World) (K : PySem.W.Frag) (k n : Nat) (x : Str) (mg : Str → Option Value) (fa : Addr) (h : Heap) : Prop :=
  ∃ (fd : FuncData) (cs : List (Addr × Addr)) (sp : Sp), (∀ p ∈ cs, h.get? p.2 = some { cls := .none, data := .fields #[] }) ∧ (∀ p ∈ cs, K.lookup p.2 = none) ∧ (∀ p ∈ cs, PySem.W.CodeHd h p.1 p.2) ∧ (∀ (s : Shared) (u : Value), BindsTo s fd ⟨[u], []⟩ [(x, u)]) ∧
    (∀ (H : Hp) (a : Addr) (ns : List Int), ns.length ≤ n → (∀ p ∈ cs, H p.2 = some (.tbl #[])) → SqL K H a (ns.map V.int) → sp [.ref a] H (fun v _ => v = .bl true) fun _ _ _ => False) ∧
    ∀ base : Heap, K.In base → base.Ns mainGlobals mg → (∀ p ∈ cs, LamX.TabB base mg p.1 p.2) → FnG l.prog w K mg base k fa fd [x] sp
end RL

set_option maxHeartbeats 2000000
namespace RL
open PySem L2 PySem.Spec PyProof.Rows
/-! ### heaps in which tables grow -/
def ButT (c : Addr) (H H' : Hp) : Prop := ∀ b o, b ≠ c → (∀ ps, o ≠ .tbl ps) → H b = some o → H' b = some o
theorem ButT.refl (c : Addr) (H : Hp) : ButT c H H := fun _ _ _ _ h => h
theorem ButT.trans {c : Addr} {H H1 H2 : Hp} (a : ButT c H H1) (b : ButT c H1 H2) : ButT c H H2 := fun x o n t h => b x o n t (a x o n t h)
theorem ButT.of {c : Addr} {H H' : Hp} (h : Same H H') : ButT c H H' := fun x o _ _ e => h x o e
theorem ButT.but {c : Addr} {H H' : Hp} (h : But c H H') : ButT c H H' := fun x o n _ e => h x o n e
theorem ButT.ext {c : Addr} {H H' : Hp} (h : LamX.ExtN H H') : ButT c H H' := fun x o _ n e => h x o e n
theorem ButT.tup {c a : Addr} {H H' : Hp} {xs : List V} (b : ButT c H H') (hc : CupAt c H) (h : H a = some (.tup xs)) : H' a = some (.tup xs) := by
  obtain ⟨u, v, hc, _⟩ := hc
  exact b _ _ (ne_of h hc (by intro z; cases z)) (by intro ps z; cases z) h
theorem ButT.ins {c a C dx : Addr} {H H' : Hp} {fs : List (Str × V)} (b : ButT c H H') (hc : CupAt c H) (h : H a = some (.ins C dx fs)) : H' a = some (.ins C dx fs) := by
  obtain ⟨u, v, hc, _⟩ := hc
  exact b _ _ (ne_of h hc (by intro z; cases z)) (by intro ps z; cases z) h
theorem CupAt.ext {c : Addr} {H H' : Hp} (h : CupAt c H) (s : LamX.ExtN H H') : CupAt c H' := by
  obtain ⟨x, y, a, b⟩ := h
  exact ⟨x, y, s _ _ a (by intro ps z; cases z), b⟩
theorem tabs_same {T : List (Addr × Str)} {H H' : Hp} (t : LamX.Tabs T H) (s : Same H H') : LamX.Tabs T H' := t.ext s
/-! ### a new pattern written in the text -/
theorem make_lit {C J : Addr} {H : Hp} {z dz : Addr} {ws : List V} {r : List Pc} {R : Hp → Prop} (nz : H z = none) (ndz : H dz = none) (hw : PiecesAt H ws r) (hok : RowOk r) (l1 : 1 ≤ r.length) (l4 : r.length ≤ 4) (k : ∀ H', Same H H' → PatAt C H' z r → R H') :
    star1 (spPI C J) (.ref z :: ws) (upd (upd H dz (.own z)) z (.ins C dz [])) (fun v H3 => v = .non ∧ R H3) E0 := by
  refine ⟨[.ref z], ws, rfl, rfl, Nat.le_trans (by rw [hw.1]; omega) (small1000 (show 4 ≤ 1000 by decide)), fun p np => ?_⟩
  have s2 : Same H (upd (upd H dz (.own z)) z (.ins C dz [])) := fun b o e => by
    rw [upd_ne (ne_of_none e nz), upd_ne (ne_of_none e ndz)]
    exact e
  have s3 := s2.trans (same_upd (o := .tup ws) np)
  have hz : (upd (upd (upd H dz (.own z)) z (.ins C dz [])) p (.tup ws)) z = some (.ins C dz []) := by
    rw [upd_ne (ne_of_none (upd_same (H := upd H dz (.own z)) (a := z) (o := .ins C dz [])) np), upd_same]
  refine ⟨z, dz, p, r, rfl, hz, hok, l1, by omega, .inr ⟨ws, upd_same, hw.same s3, l4⟩, fun H' b hP => ⟨rfl, k H' ?_ hP⟩⟩
  intro b' o e
  exact b _ _ (ne_of_none e nz) (s3 _ _ e)
/-! ### pieces as data -/
def pcD (p : Pc) : PyData := .tuple [.str (wd p.1), .int p.2]
end RL

/-! a def whose code object is known (it makes lambdas) -/
namespace RL
open PySem L2 PySem.Spec PyProof.Rows
structure FunC (K : PySem.W.Frag) (x qual : Str) (st : Stmt) (f : Addr) (fd : FuncData) (cA : Addr) : Prop where
  ex : ∃ (oc : Value) (od : Option Addr) (kV doc pm : Value) (an : Option Addr) (ct : Value) (osl : Array (Option Value)),
    fd = PySem.W.fnOf x qual (defArgs st) (defBody st) (defScope st) .none kV doc pm an (.ref cA) ct ∧ K.lookup f = some ⟨oc, od, .func fd, osl⟩ ∧ PySem.W.codeIn K (.ref cA) qual = true
section
variable {P : Program} {w : World} {K : PySem.W.Frag} {mg : Str → Option Value} {base : Heap}
end
end RL

set_option maxHeartbeats 2000000
/-! a lambda of one parameter as a value: handed on through defs, and called by a name that holds it. -/
namespace RL
open PySem L2 PySem.Spec PyProof.Rows
abbrev CB := V → Hp → VK → Prop
structure Callee (P : Program) (w : World) (K : PySem.W.Frag) (mg : Str → Option Value) (base : Heap) (k : Nat) (outer : List Env) (s : Shared) (H : Hp) (f : Addr) (cb : CB) : Prop where
  fnat : ∀ (fs : List Addr) (s1 : Shared) (H1 : Hp), (∀ b ∈ fs, b ∈ frs outer ∨ s.heap.get? b = none) → Un fs [] H H1 s.heap s1.heap → PySem.W.FnAt f s1.heap
  run : ∀ (fs : List Addr) (A : Around) (outer' : List Env) (s1 : Shared) (H1 : Hp) (u : Value) (v : V) (Q : VK), (∀ b ∈ fs, b ∈ frs outer ∨ s.heap.get? b = none) → Un fs [] H H1 s.heap s1.heap →
    Room k A → Env0 P w K mg base A outer' s1 H1 → RelV v u → cb v H1 Q → codeAny (model P w) A (.call (.ref f) ⟨[u], []⟩) (CR CX0 outer' P w H1 s1 Q E0) s1
theorem Callee.later {P : Program} {w : World} {K : PySem.W.Frag} {mg : Str → Option Value} {base : Heap} {k : Nat} {outer outer2 : List Env} {s s2 : Shared} {H H2 : Hp} {f : Addr} {cb : CB} {fs0 : List Addr} (C : Callee P w K mg base k outer s H f cb)
    (h0 : ∀ b ∈ fs0, b ∈ frs outer ∨ s.heap.get? b = none) (h2 : ∀ b ∈ frs outer2, b ∈ frs outer ∨ s.heap.get? b = none) (un : Un fs0 [] H H2 s.heap s2.heap) : Callee P w K mg base k outer2 s2 H2 f cb := by
  have back : ∀ b, s2.heap.get? b = none → s.heap.get? b = none := fun b e => by
    cases q : s.heap.get? b with
    | none => rfl
    | some o =>
      obtain ⟨o', e'⟩ := un.there b o q (by simp)
      rw [e] at e'
      cases e'
  have both : ∀ {fs : List Addr}, (∀ b ∈ fs, b ∈ frs outer2 ∨ s2.heap.get? b = none) → ∀ b ∈ fs0 ++ fs, b ∈ frs outer ∨ s.heap.get? b = none := fun h b hb => by
    rcases List.mem_append.mp hb with q | q
    · exact h0 b q
    · rcases h b q with z | z
      · exact h2 b z
      · exact .inr (back b z)
  have comp : ∀ {fs : List Addr} {H1 : Hp} {h1 : Heap}, Un fs [] H2 H1 s2.heap h1 → Un (fs0 ++ fs) [] H H1 s.heap h1 := fun {fs H1 h1} u =>
    (un.mono (fun b hb => List.mem_append.mpr (.inl hb)) (fun _ hb => hb)).trans (u.mono (fun b hb => List.mem_append.mpr (.inr hb)) (fun _ hb => hb))
  exact ⟨fun fs s1 H1 h u => C.fnat (fs0 ++ fs) s1 H1 (both h) (comp u), fun fs A outer' s1 H1 u v Q h un' => C.run (fs0 ++ fs) A outer' s1 H1 u v Q (both h) (comp un')⟩
structure FnC (P : Program) (w : World) (K : PySem.W.Frag) (mg : Str → Option Value) (base : Heap) (kc k : Nat) (g : Addr) (fd : FuncData) (ps : List Str) (spC : CB → Addr → Sp) : Prop where
  len : ∀ cb f vs H Q E, spC cb f vs H Q E → vs.length = ps.length
  run : ∀ (A : Around) (outer : List Env) (s : Shared) (H : Hp) (args : Args) (us : List Value) (vs : List V) (f : Addr) (cb : CB) (Q : VK), Room k A → Env0 P w K mg base A outer s H → BindsTo s fd args (ps.zip us) → Vals vs us → Callee P w K mg base kc outer s H f cb →
    spC cb f vs H Q E0 → codeAny (model P w) A (.call (.ref g) args) (CR CX0 outer P w H s Q E0) s
theorem FnC.mono {P : Program} {w : World} {K : PySem.W.Frag} {mg : Str → Option Value} {base : Heap} {kc j k : Nat} {g : Addr} {fd : FuncData} {ps : List Str} {spC : CB → Addr → Sp} (F : FnC P w K mg base kc j g fd ps spC) (h : j ≤ k) : FnC P w K mg base kc k g fd ps spC :=
  ⟨F.len, fun A outer s H args us vs f cb Q hr => F.run A outer s H args us vs f cb Q (hr.mono h)⟩
theorem okC {P : Program} {w : World} {K : PySem.W.Frag} {mg : Str → Option Value} {base : Heap} {x qual : Str} {st : Stmt} {g : Addr} {fd : FuncData} {N ps : List Str} {kc k : Nat} {spC : CB → Addr → Sp} (F : Fun K x qual st g fd) (S : FnScope N ps (defScope st)) (len : ∀ cb f vs H Q E, spC cb f vs H Q E → vs.length = ps.length)
    (bd : ∀ (cdv : Value) (A : Around) (outer : List Env) (s : Shared) (H : Hp) (vs : List V) (f : Addr) (cb : CB) (Q : VK), Room k (A.deeper (envOfC qual (defScope st) s.heap.objs.size g cdv)) → Callee P w K mg base kc outer s H f cb → spC cb f vs H Q E0 →
      ∃ t, PSs (cxOf CX0 P w K mg base N qual (defScope st) g cdv A outer s H E0).nox (defBody st) t ∧ t { nx := fun _ H' => Q .non H', rt := Q } (L2.start N vs) H) : FnC P w K mg base kc (k + 1) g fd ps spC := by
  obtain ⟨oc, od, kV, doc, pm, an, cdv, ct, osl, rfl, lk, hcd⟩ := F.ex
  exact ⟨len, fun A outer s H args us vs f cb Q hr e0 hb r C hsp => LamX.run_ofS lk hcd S hr e0 hb r (len _ _ _ _ _ _ hsp) fun hr' => let ⟨t, ht, hq⟩ := bd cdv A outer s H vs f cb Q hr' C hsp; ⟨t, ht.nox, hq⟩⟩
structure DfC (P : Program) (w : World) (K : PySem.W.Frag) (mg : Str → Option Value) (base : Heap) (kc k : Nat) (x : Str) (ps : List Str) (spC : CB → Addr → Sp) : Prop where
  ex : ∃ (g : Addr) (fd : FuncData), FnC P w K mg base kc k g fd ps spC ∧ mg x = some (.ref g) ∧ PySem.W.keepIn K (.ref g) = true ∧ Binds K fd ps []
section
variable {P : Program} {w : World} {K : PySem.W.Frag} {mg : Str → Option Value} {base : Heap} {A : Around} {outer : List Env} {s : Shared} {H : Hp} {N : List Str} {qual : Str} {scope : Scope} {g f : Addr} {cdv : Value} {kc k : Nat} {cb : CB}
theorem Callee.here (C : Callee P w K mg base kc outer s H f cb) {pins : List (Addr × Obj)} {σ : L2.St} {H2 : Hp} {s2 : Shared} (I : Inv (cxOf CX0 P w K mg base N qual scope g cdv A outer s H E0).nox pins σ H2 s2) :
    Callee P w K mg base kc (cxOf CX0 P w K mg base N qual scope g cdv A outer s H E0).nox.stack s2 H2 f cb := by
  refine C.later (fs0 := frs outer) (fun b hb => .inl hb) (fun b hb => ?_) I.base
  rcases List.mem_cons.mp (I.stkSub b hb) with q | q
  · right
    rw [q]
    exact Heap.get?_none_of_le (Nat.le_refl _)
  · exact .inl q
def tCB (i : Nat) (f : Addr) (cb : CB) (te : TE) : TE := fun σ H Q => σ[i]? = some (some (.ref f)) ∧ te σ H fun v H1 => cb v H1 Q
theorem pe_cb (C : Callee P w K mg base kc outer s H f cb) {x : Str} {e : Expr} {te : TE} {i : Nat} {p pos : Pos} (hr : Room kc (A.deeper (envOfC qual scope s.heap.objs.size g cdv))) (he : PE (cxOf CX0 P w K mg base N qual scope g cdv A outer s H E0).nox e te) (hN : N[i]? = some x) (hv : Vis scope x)
    (hd : (x == ("__debug__" : Str)) = false := by decide) (hcd : (x == ("__classdict__" : Str)) = false := by decide)
    (hst : starEach [e] (cxOf CX0 P w K mg base N qual scope g cdv A outer s H E0).nox.env = (false, eval e (cxOf CX0 P w K mg base N qual scope g cdv A outer s H E0).nox.env) :: starEach [] (cxOf CX0 P w K mg base N qual scope g cdv A outer s H E0).nox.env := by rfl) (hpl : (backTo pos (starEach [] (cxOf CX0 P w K mg base N qual scope g cdv A outer s H E0).nox.env)).any (·.1) = false := by rfl) :
    PE (cxOf CX0 P w K mg base N qual scope g cdv A outer s H E0).nox (.Call (.Name x p) [e] [] pos) (tCB i f cb te) := by
  refine ⟨fun pins s' σ H' Q I ⟨hs, ht⟩ => ?_⟩
  refine wpAny_Call_Name_kw (thn ((pe_var (X := (cxOf CX0 P w K mg base N qual scope g cdv A outer s H E0).nox) (pos := p) (i := i) hN hv hd hcd).run pins s' σ H' (fun v H1 => v = .ref f ∧ H1 = H') I ⟨.ref f, hs, rfl, rfl⟩) fun u s1 ⟨v, H1, I1, r1, ev, eH⟩ => ?_)
  subst ev
  rw [eH] at I1
  cases (show u = Value.ref f from r1)
  refine PySem.W.callWith_F (first := []) ((C.here I1).fnat [] s1 H' (fun _ h => by cases h) Un.refl) (thn ((pa_cons he pa_nil hst).run pos pins s1 σ H' (oneV fun y H1 => cb y H1 Q) I1 ht) fun us s2 ⟨vs, H2, I2, r, q⟩ => ?_) hst hpl
  cases r with
  | nil => exact False.elim q
  | @cons y u vs' us' ry rr =>
    cases rr with
    | cons _ _ => exact False.elim q
    | nil =>
      have C2 := C.here I2
      refine ⟨C2.fnat [] s2 H2 (fun _ h => by cases h) Un.refl, ?_⟩
      show wpAny _ _ (call (.ref f) [u]) _ _ _
      refine wpAny_call (codeAny_mono (C2.run [] _ _ s2 H2 u y Q (fun _ h => by cases h) Un.refl hr I2.env0 ry q) fun r s' hq => ?_)
      cases r with
      | error e => exact (show False from hq).elim
      | ok fl =>
        cases fl with
        | ret u => exact I2.after hq
        | next => exact False.elim hq
        | brk => exact False.elim hq
        | cont => exact False.elim hq
def tCallC (spC : CB → Addr → Sp) (cb : CB) (f : Addr) (t : TA) : TE := fun σ H Q => t σ H fun vs H1 => spC cb f vs H1 Q E0
theorem pe_cbOn (C : Callee P w K mg base kc outer s H f cb) {x : Str} {e : Expr} {es : List Expr} {t : TA} {ps : List Str} {spC : CB → Addr → Sp} {p pos : Pos} (D : DfC P w K mg base kc k x ps spC) (hr : Room k (A.deeper (envOfC qual scope s.heap.objs.size g cdv))) (hg : Gl (cxOf CX0 P w K mg base N qual scope g cdv A outer s H E0).nox x) (ha : PA (cxOf CX0 P w K mg base N qual scope g cdv A outer s H E0).nox (e :: es) t)
    (hdb : (x == ("__debug__" : Str)) = false := by decide) (he : starEach (e :: es) (cxOf CX0 P w K mg base N qual scope g cdv A outer s H E0).nox.env = (false, eval e (cxOf CX0 P w K mg base N qual scope g cdv A outer s H E0).nox.env) :: starEach es (cxOf CX0 P w K mg base N qual scope g cdv A outer s H E0).nox.env := by rfl) (hpl : (backTo pos (starEach es (cxOf CX0 P w K mg base N qual scope g cdv A outer s H E0).nox.env)).any (·.1) = false := by rfl) :
    PE (cxOf CX0 P w K mg base N qual scope g cdv A outer s H E0).nox (.Call (.Name x p) (e :: es) [] pos) (tCallC spC cb f t) := by
  obtain ⟨g2, fd, F, hm, hk, hb⟩ := D.ex
  refine ⟨fun pins s' σ H' Q I h => ?_⟩
  refine wpAny_Call_Name_kw (ld_glob I hg hm (PySem.W.callWith_K (h₀ := base) I.ok.mod.kin hk (thn (ha.run pos pins s' σ H' _ I h) fun us s2 ⟨vs, H2, I2, r, q⟩ => ⟨I2.kIn, ?_⟩) he hpl) hdb)
  have hl : (us ++ []).length = ps.length := by rw [List.append_nil, ← r.length]; exact F.len _ _ _ _ _ _ q
  have hbb := hb s2 us I2.kIn hl
  rw [List.append_nil] at hbb
  refine wpAny_call (codeAny_mono (F.run _ _ s2 H2 ⟨us, []⟩ us vs f cb Q hr I2.env0 hbb r (C.here I2) q) fun r s' hq => ?_)
  cases r with
  | error e => exact (show False from hq).elim
  | ok fl =>
    cases fl with
    | ret u => exact I2.after hq
    | next => exact False.elim hq
    | brk => exact False.elim hq
    | cont => exact False.elim hq
end
/-! ### the lambda -/
structure LamS1 (sc scope : Scope) (p : Str) : Prop where
  kind : scope.kind = .function
  co : scope.isCoroutine = false
  gen : scope.isGenerator = false
  own : ∀ y ∈ scope.names, y.2 = .local → y.1 = p
  nocell : ∀ y ∈ scope.names, y.2 ≠ .cell
  loc : scope.names.lookup p = some .local
  free : ∀ y ∈ scope.names, y.2 = .free → sc.names.lookup y.1 = some .cell ∨ sc.names.lookup y.1 = some .free
def lamS1B (sc scope : Scope) (p : Str) : Bool :=
  decide (scope.kind = .function) && !scope.isCoroutine && !scope.isGenerator && (scope.names.all fun y => (!decide (y.2 = .local) || decide (y.1 = p)) && !decide (y.2 = .cell) && (!decide (y.2 = .free) || decide (sc.names.lookup y.1 = some .cell) || decide (sc.names.lookup y.1 = some .free))) && decide (scope.names.lookup p = some .local)
theorem lamS1_by {sc scope : Scope} {p : Str} (h : lamS1B sc scope p = true) : LamS1 sc scope p := by
  unfold lamS1B at h
  simp only [Bool.and_eq_true, Bool.or_eq_true, Bool.not_eq_true', decide_eq_true_eq, decide_eq_false_iff_not, List.all_eq_true] at h
  obtain ⟨⟨⟨⟨h1, h2⟩, h3⟩, h4⟩, h5⟩ := h
  refine ⟨h1, h2, h3, fun y hy e => ((h4 y hy).1.1).elim (fun z => absurd e z) id, fun y hy => (h4 y hy).1.2, h5, fun y hy e => ?_⟩
  rcases (h4 y hy).2 with (z | z) | z
  · exact absurd e z
  · exact .inl z
  · exact .inr z
theorem LamS1.has {X : Cx} {scope : Scope} {p : Str} (L : LamS1 X.env.scope scope p) (ok : X.Ok) : ∀ y ∈ scope.names, y.2 = .free → ∃ c, X.env.cells.lookup y.1 = some c := fun y hy e => by
  rcases L.free y hy e with k | k
  · exact ok.has _ (.inl k)
  · exact ok.has _ (.inr k)
def lam1 (X : Cx) (A : Around) (outer : List Env) (s : Shared) (H : Hp) (scope : Scope) (f c' : Addr) (p : Str) : Cx where
  prog := X.prog
  w := X.w
  K := X.K
  mg := X.mg
  base := X.base
  A := A.deeper (LamX.lamEnv X scope s.heap.objs.size f c')
  N := X.N ++ [p]
  s_0 := s
  H_0 := H
  env := LamX.lamEnv X scope s.heap.objs.size f c'
  outer := outer
  stack := LamX.lamEnv X scope s.heap.objs.size f c' :: outer
  ex := []
  fn := fun _ => false
  calm := true
  pn := []
  xe := fun e s' => wpAny (model X.prog X.w) (A.deeper (LamX.lamEnv X scope s.heap.objs.size f c')) (leaving (LamX.lamEnv X scope s.heap.objs.size f c') e) (fun _ s'' => CX0 outer H s E0 e s'') (fun e' s'' => CX0 outer H s E0 e' s'') s'
section
variable {X : Cx} {pins : List (Addr × Obj)} {σ : L2.St} {H HZ : Hp} {s s1 : Shared}
theorem lam_start1 {A : Around} {outer : List Env} {scope : Scope} {f c' : Addr} {p : Str} {u : Value} {v : V} {h₁ : Heap} {tk : Nat} {fs : List Addr} (I : Inv X pins σ H s) (L : LamS1 X.env.scope scope p) (hp : p ∉ X.N) (e0 : Env0 X.prog X.w X.K X.mg X.base A outer s1 HZ) (hd : A.handled = none)
    (un : Un fs [] H HZ s.heap s1.heap) (rv : RelV v u) (hns : h₁.Ns s1.heap.objs.size fun y => ([(p, u)] : List (Str × Value)).reverse.lookup y) (kp : ∀ b o, s1.heap.get? b = some o → h₁.get? b = some o) :
    Inv (lam1 X A outer s1 HZ scope f c' p) [] (σ ++ [some v]) HZ { s1 with heap := h₁, toks := tk } := by
  have hfree := L.has I.ok
  have cm : ∀ {y c}, (cloFrom X.env.cells scope.names []).lookup y = some c → X.env.cells.lookup y = some c := fun {y c} e => by
    rcases cloFrom_mem (PySem.mem_of_lookup e) with hm | ⟨h1, h2⟩
    · cases hm
    · obtain ⟨c1, hc⟩ := hfree _ h1 rfl
      have hc : X.env.cells.lookup y = some c1 := hc
      have e2 : c = c1 := by
        rw [h2, hc] <;> rfl
      rw [e2]
      exact hc
  have look : ∀ {y}, scope.names.lookup y = some .free → ∃ c, (cloFrom X.env.cells scope.names []).lookup y = some c := fun {y} hl => by
    have hy : (y, NameKind.free) ∈ scope.names := PySem.mem_of_lookup hl
    exact mem_lookup (cloFrom_has (cells := X.env.cells) (acc := []) hy)
  have cellK : ∀ {c : Addr} {v : Option Value}, H c = none → s.heap.IsCell c v → h₁.IsCell c v := fun {c v} n ⟨o, ho, hd⟩ => by
    obtain ⟨sl, q⟩ := un.any ho n (by simp)
    exact ⟨_, kp _ _ q, hd⟩
  have noA : ∀ b : Addr, b ∉ (lam1 X A outer s1 HZ scope f c' p).ex := fun b z => absurd (show b ∈ ([] : List Addr) from z) (by simp)
  refine ⟨⟨e0.mod, L.kind, rfl, rfl, Nat.le_refl _, fun y z c e1 e2 => I.ok.inj y z c (cm e1) (cm e2), fun y hy => ?_, fun y c z _ => ?_, fun _ => hd, Around.frames_deeper e0.frames, .inr ⟨rfl, rfl⟩, fun b z => absurd z (noA b), e0.bs, e0.bsz, fun b _ _ => noA b,
      fun b z => absurd z (noA b), e0.funs, e0.frf⟩,
    rfl, e0.bare, Un.kept kp, ⟨_, hns, fun i y v' e1 e2 e3 => ?_⟩, fun y c e => ?_, e0.hok.fresh (Nat.le_refl _), fun y c e => ?_, fun q hq => absurd (show q ∈ ([] : List (Addr × Obj)) ++ [] from hq) (by simp), e0.hok.kept kp, ?_⟩
  · have hy : scope.names.lookup y = some .cell ∨ scope.names.lookup y = some .free := hy
    rcases hy with hy | hy
    · exact absurd rfl (L.nocell _ (PySem.mem_of_lookup hy))
    · exact look hy
  · have z : false = true := z
    cases z
  · have e1 : (X.N ++ [p])[i]? = some y := e1
    have e3 : Vis scope y := e3
    by_cases hi : i < X.N.length
    · rw [List.getElem?_append_left hi] at e1
      rw [List.getElem?_append_left (by rw [I.len]; exact hi)] at e2
      have yp : y ≠ p := fun z => hp (z ▸ List.mem_of_getElem? e1)
      rcases e3 with k | k | k
      · exact absurd (L.own _ (PySem.mem_of_lookup k) rfl) yp
      · exact absurd rfl (L.nocell _ (PySem.mem_of_lookup k))
      · obtain ⟨m, hn, hl⟩ := I.loc
        have hvis : Vis X.env.scope y := (L.free _ (PySem.mem_of_lookup k) rfl).elim (fun k => .inr (.inl k)) (fun k => .inr (.inr k))
        obtain ⟨w', r, q⟩ := hl i y v' e1 e2 hvis
        obtain ⟨c2, h2⟩ := look k
        refine ⟨w', r, .inr ⟨.inr k, c2, h2, ?_⟩⟩
        have c1 := cm h2
        rcases q with ⟨k', _⟩ | ⟨_, c3, e', z⟩
        · have k' : X.env.scope.names.lookup y = some .local := k'
          rcases L.free _ (PySem.mem_of_lookup k) rfl with k2 | k2 <;> rw [show X.env.scope.names.lookup y = _ from k2] at k' <;> cases k'
        · rw [c1] at e'
          cases e'
          exact cellK (I.freeC y _ c1) z
    · have iz : i = X.N.length := by
        have := (List.getElem?_eq_some_iff.mp e1).1
        rw [List.length_append] at this
        simp at this
        omega
      rw [iz, List.getElem?_append_right (Nat.le_refl _), Nat.sub_self] at e1
      rw [iz, ← I.len, List.getElem?_append_right (Nat.le_refl _), Nat.sub_self] at e2
      cases e1
      cases e2
      exact ⟨u, rv, .inl ⟨L.loc, by simp [List.lookup]⟩⟩
  · obtain ⟨w', z⟩ := I.cell y c (cm e)
    exact ⟨w', cellK (I.freeC y c (cm e)) z⟩
  · obtain ⟨v, o, ho, hd⟩ := I.cell y c (cm e)
    exact un.free c o ho (I.freeC y c (cm e)) (by simp)
  · show (σ ++ [some v]).length = (X.N ++ [p]).length
    rw [List.length_append, List.length_append, I.len]
    rfl
theorem callee_lam {f c' : Addr} {p : Str} {pm ctv : Value} {params : Arguments} {body : Expr} {scope : Scope} {k : Nat} {tb : TE} (I : Inv X pins σ H s) (L : LamS1 X.env.scope scope p) (hp : p ∉ X.N)
    (hf : s.heap.get? f = some (PySem.W.kla_obj "<lambda>" (X.env.qual ++ "<lambda>") params body scope (cloFrom X.env.cells scope.names []) pm c' ctv)) (hfn : H f = none) (hfr : f ∉ frs X.stack)
    (hbind : ∀ u, bindArgs (PySem.W.kla_fn "<lambda>" (X.env.qual ++ "<lambda>") params body scope (cloFrom X.env.cells scope.names []) pm (.ref c') ctv) ⟨[u], []⟩ = pure [(p, u)])
    (hbody : ∀ (A : Around) (outer : List Env) (s : Shared) (H : Hp), Room k (A.deeper (LamX.lamEnv X scope s.heap.objs.size f c')) → PE (lam1 X A outer s H scope f c' p) body tb) :
    Callee X.prog X.w X.K X.mg X.base (k + 1) X.stack s H f (fun v H1 Q => H1 c' = some (LamX.CodeO c' (X.env.qual ++ "<lambda>")) ∧ tb (σ ++ [some v]) H1 Q) := by
  have keep : ∀ {fs : List Addr} {s1 : Shared} {H1 : Hp}, (∀ b ∈ fs, b ∈ frs X.stack ∨ s.heap.get? b = none) → Un fs [] H H1 s.heap s1.heap → s1.heap.get? f = some (PySem.W.kla_obj "<lambda>" (X.env.qual ++ "<lambda>") params body scope (cloFrom X.env.cells scope.names []) pm c' ctv) := fun {fs s1 H1} h un =>
    un.keep f _ hf hfn (fun z => by
      rcases h f z with q | q
      · exact hfr q
      · rw [hf] at q
        cases q) (by simp)
  refine ⟨fun fs s1 H1 h un => ⟨_, _, _, _, keep h un⟩, fun fs A outer' s1 H1 u v Q h un hr e0 rv ⟨hco, ht⟩ => ?_⟩
  have of1 := keep h un
  obtain ⟨⟨oc, vs, t, hoc, hdc, hvc⟩, _, _⟩ := e0.hok c' _ hco
  have lim : s1.heap.NoLimit := e0.mod.nolimit.keeps fun b o e => (e0.bs b o e).1
  refine PySem.W.kla_callFunE hr.depth of1 rfl L.co L.gen rfl ⟨c', oc, vs, t, rfl, hoc, hdc, hvc⟩ ?_
  rw [hbind]
  refine wpAny_pure (wpAny_newFunctionEnv L.nocell (fun y hy => ?_) (fun h₁ hns hsb => ⟨lim.fresh _ hsb, ?_⟩) L.kind)
  · rw [List.mem_singleton] at hy
    rw [hy]
    exact L.loc
  show codeAny _ _ (.expr body (LamX.lamEnv X scope s1.heap.objs.size f c')) _ _
  have kp : ∀ b o, s1.heap.get? b = some o → h₁.get? b = some o := fun b o e => hsb.extBut b o (Nat.ne_of_lt (Heap.lt_size e)) (Heap.get?_push_of_some _ e)
  have J := lam_start1 (c' := c') (f := f) (tk := s1.toks + ([(p, u)] : List (Str × Value)).length) I L hp e0 hr.hd un rv hns kp
  refine PySem.W.kla_codeExpr (wpAny_mono ((hbody A outer' s1 H1 (hr.deeper _)).run [] _ _ H1 Q J ht) (fun v s' hq => ?_) fun e s' hq => hq)
  obtain ⟨w', H', J', rv, q⟩ := hq
  exact ⟨w', H', J'.os, J'.bare, J'.base, J'.hok, rv, q⟩
end
/-! ### x(a, b, lambda p: ..): made and handed over -/
section
variable {X : Cx} {pins : List (Addr × Obj)} {σ : L2.St} {H : Hp} {s : Shared}
theorem var_stC {i : Nat} {y : Str} {pos : Pos} {v : V} {E : Value → Shared → Prop} {R : Value → Shared → Prop} (I : Inv X pins σ H s) (e : σ[i]? = some (some v)) (h : ∀ u, RelV v u → R u s) (hN : X.N[i]? = some y) (hv : Vis X.env.scope y)
    (hd : (y == ("__debug__" : Str)) = false := by decide) (hcd : (y == ("__classdict__" : Str)) = false := by decide) : wpAny (model X.prog X.w) X.A (eval (.Name y pos) X.env) R E s := by
  obtain ⟨m, hn, hl⟩ := I.loc
  obtain ⟨u, r, hk, hm⟩ | ⟨u, r, hk, c, hc, hcell⟩ : (∃ u, RelV v u ∧ _ ∧ _) ∨ (∃ u, RelV v u ∧ _ ∧ ∃ c, _ ∧ _) := by
    obtain ⟨u, r, l⟩ := hl i y v hN e hv
    exact l.elim (fun l => .inl ⟨u, r, l.1, l.2⟩) fun l => .inr ⟨u, r, l.1, l.2⟩
  · exact wpAny_Name (wpAny_loadName_local I.ok.kind hk hn hm (h u r)) hd
  · exact hk.elim (fun hk => wpAny_Name (wpAny_loadName_cell I.ok.kind hk hc hcell (h u r)) hd) fun hk => wpAny_Name (wpAny_loadName_free I.ok.kind hk hc hcell (h u r) hcd) hd
def tLamC (T : List (Addr × Str)) (js : List Nat) (q : Str) (tb : TE) (spC : CB → Addr → Sp) : TE := fun σ H Q => LamX.Tabs T H ∧ ∃ vs : List V, js.map (fun j => σ[j]?) = vs.map (fun v => some (some v)) ∧ ∀ (f c' : Addr) (H1 : Hp), LamX.ExtN H H1 → LamX.Tabs T H1 → H1 c' = some (LamX.CodeO c' q) →
  spC (fun v H2 Q2 => H2 c' = some (LamX.CodeO c' q) ∧ tb (σ ++ [some v]) H2 Q2) f (vs ++ [.ref f]) H1 Q E0
theorem run_lamC {T : List (Addr × Str)} {p : Str} {c P : Addr} {k kc : Nat} {ps : List Str} {spC : CB → Addr → Sp} {params : Arguments} {body : Expr} {scope : Scope} {tb : TE} {lpos : Pos} {Q : VK} (I : Inv X pins σ H s) (g : Addr) (fd : FuncData) (F : FnC X.prog X.w X.K X.mg X.base (kc + 1) k g fd ps spC) (hk : PySem.W.keepIn X.K (.ref g) = true) (hb : Binds X.K fd ps [])
    (TB : LamX.TabB X.base X.mg c P) (hcode : X.env.code = .ref c) (hmT : (P, X.env.qual ++ "<lambda>") ∈ T) (hu : ∀ p ∈ T, p.1 = P → p.2 = X.env.qual ++ "<lambda>") (hr : Room k X.A) (L : LamS1 X.env.scope scope p) (hp : p ∉ X.N) (hdef : defaultsOf params X.env = ([], []))
    (hbind : ∀ (q : Str) (cl : List (Str × Addr)) (pm cv ctv u : Value), bindArgs (PySem.W.kla_fn "<lambda>" q params body scope cl pm cv ctv) ⟨[u], []⟩ = pure [(p, u)])
    (hbody : ∀ (A : Around) (outer : List Env) (s : Shared) (H : Hp) (f c' : Addr), Room kc (A.deeper (LamX.lamEnv X scope s.heap.objs.size f c')) → PE (lam1 X A outer s H scope f c' p) body tb) {vs : List V} {us : List Value} (rvs : Vals vs us) (hT : LamX.Tabs T H)
    (h : ∀ (f c' : Addr) (H1 : Hp), LamX.ExtN H H1 → LamX.Tabs T H1 → H1 c' = some (LamX.CodeO c' (X.env.qual ++ "<lambda>")) → spC (fun v H2 Q2 => H2 c' = some (LamX.CodeO c' (X.env.qual ++ "<lambda>")) ∧ tb (σ ++ [some v]) H2 Q2) f (vs ++ [.ref f]) H1 Q E0) :
    wpAny (model X.prog X.w) X.A (eval (.Lambda params body scope lpos) X.env) (fun u s' => X.K.In s'.heap ∧ wpAny (model X.prog X.w) X.A (call (.ref g) (us ++ [u])) (EP X pins σ Q) X.xe s') X.xe s := by
  refine LamX.lam_make2 I TB hcode hmT hu hT hdef (L.has I.ok) fun f c' pm' ctv H1 s' I1 eN T1 hf hfn hfr hco => ⟨I1.kIn, ?_⟩
  have C := callee_lam (k := kc) I1 L hp hf hfn hfr (fun u => hbind _ _ _ _ _ u) (fun A outer s H hr2 => hbody A outer s H f c' hr2)
  have q := h f c' H1 eN T1 hco
  have r2 : Vals (vs ++ [.ref f]) (us ++ [.ref f]) := rvs.append (.cons rfl .nil)
  have hl : ((us ++ [Value.ref f]) ++ []).length = ps.length := by rw [List.append_nil, ← r2.length]; exact F.len _ _ _ _ _ _ q
  have hbb := hb s' (us ++ [.ref f]) I1.kIn hl
  rw [List.append_nil] at hbb
  refine wpAny_call (codeAny_mono (F.run _ _ s' H1 ⟨us ++ [.ref f], []⟩ (us ++ [.ref f]) (vs ++ [.ref f]) f _ Q hr I1.env0 hbb r2 C q) fun r s' hq => ?_)
  cases r with
  | error e => exact (show False from hq).elim
  | ok fl =>
    cases fl with
    | ret u => exact I1.after hq
    | next => exact False.elim hq
    | brk => exact False.elim hq
    | cont => exact False.elim hq
end
section
variable {X : Cx} {T : List (Addr × Str)} {x p : Str} {g c P : Addr} {k kc : Nat} {ps : List Str} {spC : CB → Addr → Sp} {params : Arguments} {body : Expr} {scope : Scope} {tb : TE} {lpos pos pp : Pos}
theorem pe_lamC2 {a b : Str} {i j : Nat} {pa pb : Pos} (D : DfC X.prog X.w X.K X.mg X.base (kc + 1) k x ps spC) (hg : Gl X x) (TB : LamX.TabB X.base X.mg c P) (hcode : X.env.code = .ref c) (hmT : (P, X.env.qual ++ "<lambda>") ∈ T) (hu : ∀ p ∈ T, p.1 = P → p.2 = X.env.qual ++ "<lambda>") (hr : Room k X.A) (L : LamS1 X.env.scope scope p) (hp : p ∉ X.N) (hdef : defaultsOf params X.env = ([], []))
    (hbind : ∀ (q : Str) (cl : List (Str × Addr)) (pm cv ctv u : Value), bindArgs (PySem.W.kla_fn "<lambda>" q params body scope cl pm cv ctv) ⟨[u], []⟩ = pure [(p, u)])
    (hbody : ∀ (A : Around) (outer : List Env) (s : Shared) (H : Hp) (f c' : Addr), Room kc (A.deeper (LamX.lamEnv X scope s.heap.objs.size f c')) → PE (lam1 X A outer s H scope f c' p) body tb) (hNa : X.N[i]? = some a) (hva : Vis X.env.scope a) (hNb : X.N[j]? = some b) (hvb : Vis X.env.scope b)
    (hdb : (x == ("__debug__" : Str)) = false := by decide) (had : (a == ("__debug__" : Str)) = false := by decide) (hac : (a == ("__classdict__" : Str)) = false := by decide) (hbd : (b == ("__debug__" : Str)) = false := by decide) (hbc : (b == ("__classdict__" : Str)) = false := by decide) :
    PE X (.Call (.Name x pp) [.Name a pa, .Name b pb, .Lambda params body scope lpos] [] pos) (tLamC T [i, j] (X.env.qual ++ "<lambda>") tb spC) := by
  obtain ⟨g, fd, F, hm, hk, hb⟩ := D.ex
  refine ⟨fun pins s σ H Q I ⟨hT, vs, hvs, h⟩ => wpAny_Call_Name_kw (ld_glob I hg hm (PySem.W.callWith_K (h₀ := X.base) I.ok.mod.kin hk ?_ (by rfl) (by rfl)) hdb)⟩
  obtain ⟨v0, v1, rfl⟩ : ∃ v0 v1, vs = [v0, v1] := by
    have hl := congrArg List.length hvs
    rw [List.length_map, List.length_map] at hl
    match vs, hl with
    | [a, b], _ => exact ⟨a, b, rfl⟩
  · have e0 : σ[i]? = some (some v0) := by injection hvs
    have e1 : σ[j]? = some (some v1) := by injection hvs with _ h2; injection h2
    show wpAny _ _ (spliced ((false, eval (.Name a pa) X.env) :: backTo pos (starEach [.Name b pb, .Lambda params body scope lpos] X.env))) _ _ s
    refine Calls.spliced_cons (var_stC I e0 (fun u0 r0 => ?_) hNa hva had hac)
    show wpAny _ _ (spliced ((false, eval (.Name b pb) X.env) :: backTo pos (starEach [.Lambda params body scope lpos] X.env))) _ _ s
    refine Calls.spliced_cons (var_stC I e1 (fun u1 r1 => ?_) hNb hvb hbd hbc)
    show wpAny _ _ (spliced ((false, eval (.Lambda params body scope lpos) X.env) :: backTo pos (starEach [] X.env))) _ _ s
    exact Calls.spliced_cons (wpAny_mono (run_lamC I g fd F hk hb TB hcode hmT hu hr L hp hdef hbind hbody (vs := [v0, v1]) (us := [u0, u1]) (.cons r0 (.cons r1 .nil)) hT h) (fun u s' q => Calls.spliced_nil q) fun _ _ z => z)
end
end RL

set_option maxHeartbeats 2000000
namespace RL
open PySem L2 PySem.Spec PyProof.Rows
structure TxtS (K : PySem.W.Frag) (mg : Str → Option Value) (tG t1 t2 t3 tP tC : Tok) (aO aW J C Ce Cl Cg Cs : Addr) : Prop extends Txt4 K mg tG t1 t2 t3 tP tC aO aW J C Ce Cl where
  mgGr : mg "Greatest" = some (.ref Cg)
  mgLs : mg "Least" = some (.ref Cs)
def spLBo (K : PySem.W.Frag) (aO Ce : Addr) : Sp := fun vs H Q _ => ∃ (v : V) (p : Addr) (r : List Pc) (e : Int × Int), vs = [v, .ref p] ∧ LimAt aO Ce H v r ∧ RowOk r ∧ 1 ≤ r.length ∧ r.length ≤ 8 ∧ PrT K H p e ∧ Pos2 e ∧ Sm 50000 e.1 ∧ Sm 50000 e.2 ∧ Q (.int (sg (goV (matR r) e))) H
def spLo (C aO Ce Cl : Addr) : Sp := fun vs H Q _ => ∃ (x : Addr) (r : List Pc) (e : Int × Int), vs = [.ref x] ∧ LadAt C aO Ce Cl H x r e ∧ ∀ p, PairAt H p e → Q (.ref p) H
structure OwLo (P : Program) (w : World) (K : PySem.W.Frag) (mg : Str → Option Value) (base : Heap) (C aO Ce Cl p g : Addr) (fd : FuncData) : Prop where
  pr : PropOf K Cl "load" p g
  ok : FnOk P w K mg base CX0 1 g fd ["self"] (spLo C aO Ce Cl)
  b : Binds K fd ["self"] []
def spStg (C aO Ce Cl : Addr) : Sp := fun vs H Q _ => ∃ (x : Addr) (r : List Pc) (e : Int × Int), vs = [.ref x] ∧ LadAt C aO Ce Cl H x r e ∧ ∀ H' t p, Same H H' → H' t = some (.tup [.int 0, .ref p]) → PatAt C H' p r → Q (.ref t) H'
structure OwMt (P : Program) (w : World) (K : PySem.W.Frag) (mg : Str → Option Value) (base : Heap) (D g : Addr) (fd : FuncData) (nm : Str) (k : Nat) (ps : List Str) (sp : Sp) : Prop where
  m : Meth K D nm g
  ok : FnOk P w K mg base CX0 k g fd ps sp
  b : Binds K fd ps []
def spChkRun (Cl : Addr) : Sp := fun vs H Q _ => ∃ (x dx : Addr) (fs : List (Str × V)), vs = [.ref x] ∧ H x = some (.ins Cl dx fs) ∧ ∀ H', Same H H' → Q .non H'
theorem one5 : Sm 50000 1 := Sm.mono (m := 3) (by unfold Sm; decide) (by decide)
theorem zero5 : Sm 50000 0 := Sm.mono (m := 3) (by unfold Sm; decide) (by decide)
theorem lkLs (p q : Addr) (v : V) : (LF p q v).lookup ("last_stage" : Str) = none := by
  have h1 : (("last_stage" : Str) == ("section" : Str)) = false := by decide +kernel
  have h2 : (("last_stage" : Str) == ("behind" : Str)) = false := by decide +kernel
  have h3 : (("last_stage" : Str) == ("far" : Str)) = false := by decide +kernel
  simp [LF, List.lookup, h1, h2, h3]
section
variable {P : Program} {w : World} {K : PySem.W.Frag} {mg : Str → Option Value} {base : Heap} {tG t1 t2 t3 tP tC : Tok} {aO aW J C Ce Cl gx : Addr} {fx : FuncData}
theorem sc_limit_beside : FnScope ["limit", "pair", "top", "bottom"] ["limit", "pair"] (defScope s_limit_beside) := ⟨rfl, rfl, rfl, by decide +kernel, rfl, by decide +kernel, by decide +kernel⟩

theorem ok_lbo {f : Addr} {fd : FuncData} (F : Fun K "limit_beside" "limit_beside" s_limit_beside f fd) (T : Txt4 K mg tG t1 t2 t3 tP tC aO aW J C Ce Cl) (OX : OwX P w K mg base Ce aO gx fx) (D_pair_order : Df P w K mg base 2 "pair_order" ["first", "second"] (spPOK K)) (D_beside_fraction : Df P w K mg base 2 "beside_fraction" ["parts", "top", "bottom"] spBeside) : FnOk P w K mg base CX0 3 f fd ["limit", "pair"] (spLBo K aO Ce) := by
  refine F.ok sc_limit_beside (fun vs H Q E h => ?_) (fun cdv A outer s H vs Q E hr h => ?_)
  · obtain ⟨v, p, r, e, rfl, _⟩ := h
    rfl
  · obtain ⟨v, p, r, e, rfl, hlv, ok, l1, l8, hp, he, s1, s2, k⟩ := h
    refine ⟨_, (pss_cons (ps_if (pt_cmpR (op_or2 (op_eqD hr.units) (op_eqOwn OX.e_at OX.e_fn OX.ok OX.b (hr.mono (by decide)))) (pv 0) (pe_glob (v := .ref aO) rfl T.mgO rfl) (nomark _)) (pss_one (ps_ret (pe_df D_pair_order (hr.mono (by decide)) (by rfl) (pa_cons (pe_glob (v := .ref aO) rfl T.mgO rfl) (pa_cons (pv 1) pa_nil))))) pss_nil)
      (pss_cons (ps_asg (pv 1) (pg_tup rfl (pgs_cons (pg_name (i := 2) sc_limit_beside.nd rfl (.inl rfl)) (pgs_cons (pg_name (i := 3) sc_limit_beside.nd rfl (.inl rfl)) pgs_nil))))
      (pss_cons (ps_if (pt_cmpR op_eq (pv 3) pe_int (nomark _)) (pss_one (ps_ret (pe_un un_neg pe_int))) pss_nil)
      (pss_one (ps_ret (pe_df D_beside_fraction (hr.mono (by decide)) (by rfl) (pa_cons (pe_fld (pv 0) rfl) (pa_cons (pv 2) (pa_cons (pv 3) pa_nil))))))))), ?_⟩
    have dpo : ∀ {HH : Hp}, Dp K HH (.ref aO) (.tuple [.int 1, .int 0]) := fun {HH} => .tup (.inr T.opn) (.cons (.int _) (.cons (.int _) .nil))
    refine ⟨_, rfl, ?_⟩
    rcases hlv with ⟨c0, rfl⟩ | ⟨cn, y, rfl, hy⟩
    · refine .inl ⟨_, _, dpo, dpo, rfl, rfl, _, rfl, ite2 (fun _ => ?_) (fun e => absurd (SeqAt.eqv_refl _ (by decide +kernel)) e)⟩
      refine ⟨_, rfl, aO, p, (1, 0), e, rfl, .inr T.opn, hp, one5, zero5, s1, s2, ?_⟩
      have := open_go ok l1 c0 he
      show Q (.int (oP (1, 0) e)) H
      rw [this]
      exact k
    · obtain ⟨dy, qy, hiy, hqy⟩ := id hy
      refine .inr ⟨y, dy, _, _, rfl, hiy, ty_dp (d := .tuple [.int 1, .int 0]) dpo, OX.nf, y, dy, _, rfl, hiy, _, rfl, ite2 (fun e => absurd e (by decide)) (fun _ => ?_)⟩
      refine ⟨_, rfl, p, _, rfl, hp, rfl, _, _, rfl, _, _, rfl, rfl, ?_⟩
      obtain ⟨t, u⟩ := e
      obtain ⟨t0, u0, pp⟩ := he
      refine ⟨_, rfl, rfl, _, rfl, ite2 (fun z => ?_) (fun z => ?_)⟩
      · have z : u = 0 := V.int.inj (of_decide_eq_true z)
        subst z
        rw [end_go ok cn (by have : (0 : Int) < t ∨ (0 : Int) < 0 := pp; omega)] at k
        exact ⟨1, rfl, k⟩
      · have z : ¬ u = 0 := fun e => z (decide_eq_true (congrArg V.int e))
        have u0 : 0 ≤ u := u0
        rw [← beside_go ok cn (show 0 ≤ t from t0) (show 1 ≤ u by omega)] at k
        obtain ⟨w1, w2, w3⟩ := eqL_sm ok l8 cn
        exact ⟨_, rfl, y, Ce, dy, _, _, rfl, hiy, T.clE, T.nP, rfl, _, rfl, _, rfl, qy, _, _, _, t, u, rfl, hqy, w1.mono (by decide), w2.mono (by decide), w3.mono (by decide), s1.mono (by decide), s2.mono (by decide), k⟩
theorem sc_Ladder_load : FnScope ["self"] ["self"] (defScope s_Ladder_load) := ⟨rfl, rfl, rfl, by decide +kernel, rfl, by decide +kernel, by decide +kernel⟩

theorem ok_load {f : Addr} {fd : FuncData} (F : Fun K "load" "Ladder.load" s_Ladder_load f fd) (T : Txt4 K mg tG t1 t2 t3 tP tC aO aW J C Ce Cl) : FnOk P w K mg base CX0 1 f fd ["self"] (spLo C aO Ce Cl) := by
  refine F.ok sc_Ladder_load (fun vs H Q E h => ?_) (fun cdv A outer s H vs Q E hr h => ?_)
  · obtain ⟨x, r, e, rfl, _⟩ := h
    rfl
  · obtain ⟨x, r, e, rfl, ⟨dx, p, q, v, hx, hP, hq, hv⟩, k⟩ := h
    refine ⟨_, (pss_one (ps_ret (pe_fld (pv 0) rfl))), ?_⟩
    exact ⟨_, rfl, x, Cl, dx, _, _, rfl, hx, T.clL, T.nBeh, lkB _ _ _, k _ hq⟩
theorem sc_Ladder_last_stage : FnScope ["self"] ["self"] (defScope s_Ladder_last_stage) := ⟨rfl, rfl, rfl, by decide +kernel, rfl, by decide +kernel, by decide +kernel⟩

theorem ok_stg {f : Addr} {fd : FuncData} (F : Fun K "last_stage" "Ladder.last_stage" s_Ladder_last_stage f fd) (T : Txt4 K mg tG t1 t2 t3 tP tC aO aW J C Ce Cl) : FnOk P w K mg base CX0 1 f fd ["self"] (spStg C aO Ce Cl) := by
  refine F.ok sc_Ladder_last_stage (fun vs H Q E h => ?_) (fun cdv A outer s H vs Q E hr h => ?_)
  · obtain ⟨x, r, e, rfl, _⟩ := h
    rfl
  · obtain ⟨x, r, e, rfl, ⟨dx, p, q, v, hx, hP, hq, hv⟩, k⟩ := h
    refine ⟨_, (pss_one (ps_ret (pe_tup (pa_cons pe_int (pa_cons (pe_fld (pv 0) rfl) pa_nil))))), ?_⟩
    refine ⟨_, rfl, x, Cl, dx, _, _, rfl, hx, T.clL, T.nSec, lkS _ _ _, (by show 2 ≤ sizeLine; decide), fun t nt => ?_⟩
    have s1 := same_upd (o := .tup [.int 0, .ref p]) nt
    exact k _ t p s1 upd_same (hP.same s1)
theorem sc_check_run : FnScope ["value"] ["value"] (defScope s_check_run) := ⟨rfl, rfl, rfl, by decide +kernel, rfl, by decide +kernel, by decide +kernel⟩

theorem ok_chkrun {Cg Cs f : Addr} {fd : FuncData} (F : Fun K "check_run" "check_run" s_check_run f fd) (T : TxtS K mg tG t1 t2 t3 tP tC aO aW J C Ce Cl Cg Cs) (IL : IsC K Cl) : FnOk P w K mg base CX0 1 f fd ["value"] (spChkRun Cl) := by
  refine F.ok sc_check_run (fun vs H Q E h => ?_) (fun cdv A outer s H vs Q E hr h => ?_)
  · obtain ⟨x, dx, fs, rfl, _⟩ := h
    rfl
  · obtain ⟨x, dx, fs, rfl, hx, k⟩ := h
    refine ⟨_, (pss_one (ps_if (pt_not (pt_val (pe_callB call_isiT (by rfl) T.isinstance (by decide +kernel) (pa_cons (pv 0) (pa_cons (pe_tup (pa_cons (pe_glob (v := .ref Cl) rfl T.mgL rfl) (pa_cons (pe_glob (v := .ref Cg) rfl T.mgGr rfl) (pa_cons (pe_glob (v := .ref Cs) rfl T.mgLs rfl) pa_nil)))) pa_nil))))) (pss_one ps_never) pss_nil)), ?_⟩
    have kA : PySem.W.kitAny K (.ref Cl) [.ref Cl, .ref Cg, .ref Cs] = some true := by
      unfold PySem.W.kitAny
      rw [IL.is_]
    refine ⟨_, rfl, (by show 3 ≤ sizeLine; decide), fun t nt => ⟨_, t, _, _, _, true, rfl, upd_same, .cons (.own _) (.cons (.own _) (.cons (.own _) .nil)), .base (.ins ((same_upd nt) _ _ hx) T.clL IL.ca IL.cn IL.ct IL.cm), kA, true, rfl, iteF (k _ (same_upd nt))⟩⟩
end
end RL

set_option maxHeartbeats 4000000
namespace RL
open PySem L2 PySem.Spec PyProof.Rows
def spSq : Sp := fun vs H Q _ => ∃ (q : Addr) (m : Mx) (n : Nat), vs = [.ref q] ∧ H q = some (.tup (MatT m)) ∧ NN m ∧ MxSm n m ∧ 2 * n + 1 ≤ 8990 ∧ ∀ H' p, Same H H' → H' p = some (.tup (MatT (redM (sqM m)))) → Q (.ref p) H'
theorem while_dir {c : TT} {tb : TS} {D : Ends} {σ : L2.St} {H : Hp} (Pv : L2.St → Hp → Prop) (μ : L2.St → Hp → Nat) (h0 : Pv σ H)
    (hs : ∀ σ H, Pv σ H → c σ H fun b H1 => if b = true then ∃ N : L2.St → Hp → Prop, (∀ σ' H', N σ' H' → ∃ m', m' < μ σ H ∧ (m' = μ σ' H' ∧ Pv σ' H')) ∧ tb { D with nx := N, ct := N, bk := D.nx } σ H1 else D.nx σ H1) : tWhile c tb D σ H :=
  ⟨fun m σ H => m = μ σ H ∧ Pv σ H, ⟨_, rfl, h0⟩, fun m σ H ⟨e, p⟩ => by subst e; exact hs σ H p⟩
/-! ### sizes -/
def sumB (bs : Nat → Nat) : Nat → Nat
  | 0 => 0
  | n + 1 => sumB bs n + (bs n + 1)
theorem sumB_le (bs : Nat → Nat) : ∀ {i j : Nat}, i ≤ j → sumB bs i ≤ sumB bs j
  | i, 0, h => by rw [Nat.le_zero.mp h]; exact Nat.le_refl _
  | i, j + 1, h => by
    rcases Nat.lt_or_eq_of_le h with q | q
    · exact Nat.le_trans (sumB_le bs (show i ≤ j by omega)) (Nat.le_add_right _ _)
    · rw [q]
      exact Nat.le_refl _
structure Srch (m : Mx) (t : Nat) (bs : Nat → Nat) : Prop where
  nn : NN m
  sm : ∀ i, i ≤ t → MxSm (bs i) (rpw m i)
  nine : ∀ i, i ≤ t → bs i ≤ 9000
  sq : ∀ i, i < t → 2 * bs i + 1 ≤ 8990
  sum : sumB bs (t + 1) ≤ 16000
theorem appB_sm {m : Mx} {n k : Nat} {x : Int × Int} (h : MxSm n m) (h1 : Sm k x.1) (h2 : Sm k x.2) : Sm (k + (n + 1)) (m.app x).1 ∧ Sm (k + (n + 1)) (m.app x).2 := by
  obtain ⟨a, b, c, d⟩ := h
  exact ⟨((a.mul h1).add (b.mul h2)).mono (by omega), ((c.mul h1).add (d.mul h2)).mono (by omega)⟩
theorem nn_pos {m : Mx} (h : NN m) {x : Int × Int} (hx : Pos2 x) : Pos2 (m.app x) := by
  obtain ⟨a0, b0, c0, d0⟩ := h
  obtain ⟨x0, x1, xx⟩ := hx
  have h1 := Int.mul_nonneg (Int.le_of_lt a0) x0
  have h2 := Int.mul_nonneg b0 x1
  have h3 := Int.mul_nonneg c0 x0
  have h4 := Int.mul_nonneg (Int.le_of_lt d0) x1
  refine ⟨?_, ?_, ?_⟩
  · show 0 ≤ m.a * x.1 + m.b * x.2
    omega
  · show 0 ≤ m.c * x.1 + m.d * x.2
    omega
  · rcases xx with z | z
    · left
      show 0 < m.a * x.1 + m.b * x.2
      have := Int.mul_pos a0 z
      omega
    · right
      show 0 < m.c * x.1 + m.d * x.2
      have := Int.mul_pos d0 z
      omega
def Decides (cb : CB) (H : Hp) (hold : Int × Int → Bool) : Prop := ∀ (H' : Hp) (p : Addr) (x : Int × Int) (Q : VK), Same H H' → PairAt H' p x → Pos2 x → Sm 17000 x.1 → Sm 17000 x.2 → (∀ H'', Same H' H'' → Q (.bl (hold x)) H'') → cb (.ref p) H' Q
theorem Decides.same {cb : CB} {H H1 : Hp} {hold : Int × Int → Bool} (h : Decides cb H hold) (s : Same H H1) : Decides cb H1 hold := fun H' p x Q s' => h H' p x Q (s.trans s')
structure Seek (m : Mx) (e : Int × Int) (hold : Int × Int → Bool) (n0 : Nat) : Prop where
  inv : ∀ (k : Int) (x : Int × Int), 0 < k → hold (sc k x) = hold x
  mono : ∀ n, hold (appN m n e) = decide (n0 ≤ n)
def spBefore : CB → Addr → Sp := fun cb f vs H Q _ => ∃ (q p : Addr) (m : Mx) (e : Int × Int) (hold : Int × Int → Bool) (n0 t : Nat) (bs : Nat → Nat), vs = [.ref q, .ref p, .ref f] ∧ H q = some (.tup (MatT m)) ∧ PairAt H p e ∧ Pos2 e ∧ Sm 900 e.1 ∧ Sm 900 e.2 ∧ Srch m t bs ∧ Seek m e hold n0 ∧ n0 ≤ 2 ^ t ∧ t ≤ 60 ∧ Decides cb H hold ∧
  ∀ H', Same H H' → Q (.int n0) H'
def spLeastN (C aO Ce Cl : Addr) : CB → Addr → Sp := fun cb f vs H Q _ => ∃ (x : Addr) (r : List Pc) (e : Int × Int) (hold : Int × Int → Bool) (n0 t : Nat) (bs : Nat → Nat), vs = [.ref x, .ref f] ∧ LadAt C aO Ce Cl H x r e ∧ Pos2 e ∧ Sm 900 e.1 ∧ Sm 900 e.2 ∧ Srch (matR r) t bs ∧ Seek (matR r) e hold n0 ∧ n0 ≤ 2 ^ t ∧ t ≤ 60 ∧ Decides cb H hold ∧
  ∀ H', Same H H' → Q (.int n0) H'
def spWith (C aO Ce Cl : Addr) : CB → Addr → Sp := fun cb f vs H Q _ => ∃ (x p : Addr) (r : List Pc) (e b : Int × Int), vs = [.ref x, .ref p, .ref f] ∧ LadAt C aO Ce Cl H x r e ∧ PairAt H p b ∧ RowOk r ∧ 1 ≤ r.length ∧ r.length ≤ 8 ∧ Pos2 e ∧ Sm 900 e.1 ∧ Sm 900 e.2 ∧ Pos2 b ∧ Sm 900 b.1 ∧ Sm 900 b.2 ∧
  (0 < goR r e * sg (goV (matR r) b) → ∃ (hold : Int × Int → Bool) (n0 t : Nat) (bs : Nat → Nat), Srch (matR r) t bs ∧ Seek (matR r) e hold n0 ∧ n0 ≤ 2 ^ t ∧ t ≤ 60 ∧ Decides cb H hold ∧ ∀ H', Same H H' → Q (.int n0) H') ∧ (¬ 0 < goR r e * sg (goV (matR r) b) → ∀ H', Same H H' → Q .non H')
def MatsAt (H : Hp) (ws : List V) (m : Mx) (n : Nat) : Prop := ws.length = n ∧ ∀ i, i < n → ∃ t, ws[i]? = some (.ref t) ∧ H t = some (.tup (MatT (rpw m i)))
theorem MatsAt.same {H H' : Hp} {ws : List V} {m : Mx} {n : Nat} (h : MatsAt H ws m n) (s : Same H H') : MatsAt H' ws m n := ⟨h.1, fun i hi => let ⟨t, a, b⟩ := h.2 i hi; ⟨t, a, s _ _ b⟩⟩
theorem MatsAt.but {H H' : Hp} {c : Addr} {ws : List V} {m : Mx} {n : Nat} (h : MatsAt H ws m n) (s : But c H H') (hx : ∀ xs, H c ≠ some (.tup xs)) : MatsAt H' ws m n := ⟨h.1, fun i hi => let ⟨t, a, b⟩ := h.2 i hi; ⟨t, a, s _ _ (fun z => hx _ (z ▸ b)) b⟩⟩
theorem MatsAt.snoc {H : Hp} {ws : List V} {m : Mx} {n : Nat} {t : Addr} (h : MatsAt H ws m n) (ht : H t = some (.tup (MatT (rpw m n)))) : MatsAt H (ws ++ [.ref t]) m (n + 1) := by
  refine ⟨by rw [List.length_append, h.1]; rfl, fun i hi => ?_⟩
  by_cases q : i < n
  · obtain ⟨u, a, b⟩ := h.2 i q
    exact ⟨u, by rw [List.getElem?_append_left (by rw [h.1]; exact q)]; exact a, b⟩
  · have : i = n := by omega
    rw [this]
    exact ⟨t, by rw [List.getElem?_append_right (by rw [h.1]; omega), h.1, Nat.sub_self]; rfl, ht⟩
section
variable {m : Mx} {e : Int × Int} {hold : Int × Int → Bool} {n0 : Nat}
theorem Seek.pow (S : Seek m e hold n0) (h : NN m) (i : Nat) : hold ((rpw m i).app e) = decide (n0 ≤ 2 ^ i) := by
  obtain ⟨k, k0, q⟩ := rpw_app h i e
  rw [← S.mono, q, S.inv k _ k0]
theorem Seek.ahead (S : Seek m e hold n0) (h : NN m) {n i : Nat} {x : Int × Int} {j : Int} (hj : 0 < j) (hx : appN m n e = sc j x) : (∃ k : Int, 0 < k ∧ appN m (n + 2 ^ i) e = sc k ((rpw m i).app x)) ∧ hold ((rpw m i).app x) = decide (n0 ≤ n + 2 ^ i) := by
  obtain ⟨k, k0, q⟩ := rpw_app h i (appN m n e)
  have e1 : appN m (n + 2 ^ i) e = sc (k * j) ((rpw m i).app x) := by
    rw [appN_add, q, hx, app_scK, sc_scK]
  exact ⟨⟨k * j, Int.mul_pos k0 hj, e1⟩, by rw [← S.mono, e1, S.inv _ _ (Int.mul_pos k0 hj)]⟩
end
section
variable {P : Program} {w : World} {K : PySem.W.Frag} {mg : Str → Option Value} {base : Heap} {tG t1 t2 t3 tP tC : Tok} {aO aW J C Ce Cl Cg Cs : Addr}
theorem sc_squared : FnScope ["matrix", "a", "b", "c", "d", "entries", "divisor", "entry"] ["matrix"] (defScope s_squared) := ⟨rfl, rfl, rfl, by decide +kernel, rfl, by decide +kernel, by decide +kernel⟩

theorem ok_squared {f : Addr} {fd : FuncData} (F : Fun K "squared" "squared" s_squared f fd) (T : Txt K mg) (D_common_divisor : Df P w K mg base 1 "common_divisor" ["first", "second"] spGcd) : FnOk P w K mg base CX0 2 f fd ["matrix"] spSq := by
  refine F.ok sc_squared (fun vs H Q E h => ?_) (fun cdv A outer s H vs Q E hr h => ?_)
  · obtain ⟨q, m, n, rfl, _⟩ := h
    rfl
  · obtain ⟨q, m, n, rfl, hq, nn, sm, nine, k⟩ := h
    refine ⟨_, (C8.pss_cut (ps_asg (pv 0) (pg_tup rfl (pgs_cons (pg_name (i := 1) sc_squared.nd rfl (.inl rfl)) (pgs_cons (pg_name (i := 2) sc_squared.nd rfl (.inl rfl)) (pgs_cons (pg_name (i := 3) sc_squared.nd rfl (.inl rfl)) (pgs_cons (pg_name (i := 4) sc_squared.nd rfl (.inl rfl)) pgs_nil))))))
      (C8.pss_cut (ps_set (i := 5) sc_squared.nd rfl (.inl rfl) (pe_tup (pa_cons (pe_op op_add (pe_op op_mulX (pv 1) (pv 1)) (pe_op op_mulX (pv 2) (pv 3))) (pa_cons (pe_op op_add (pe_op op_mulX (pv 1) (pv 2)) (pe_op op_mulX (pv 2) (pv 4))) (pa_cons (pe_op op_add (pe_op op_mulX (pv 3) (pv 1)) (pe_op op_mulX (pv 4) (pv 3))) (pa_cons (pe_op op_add (pe_op op_mulX (pv 3) (pv 2)) (pe_op op_mulX (pv 4) (pv 4))) pa_nil))))))
      (C8.pss_cut (ps_set (i := 6) sc_squared.nd rfl (.inr rfl) pe_int)
      (C8.pss_cut (ps_for PassesOwn.never rfl (pi_tup (pv 5)) (pg_name (i := 7) sc_squared.nd rfl (.inl rfl)) (pss_one (ps_set (i := 6) sc_squared.nd rfl (.inr rfl) (pe_df D_common_divisor (hr.mono (by decide)) (by rfl) (pa_cons (pv 6) (pa_cons (pv 7) pa_nil))))))
      (pss_one (ps_ret (pe_callTy call_tuple_of (by rfl) T.tuple_ (by decide +kernel) (pa_cons (pe_lc (own := [("entry", 7)]) (g := gName 7) (tt := tYes) rfl sc_squared.nd (pi_tup (pv 5)) (blkOk_by (N := ["matrix", "a", "b", "c", "d", "entries", "divisor", "entry"]) (sc := defScope s_squared) (by decide +kernel)) (fun _ _ _ _ _ => pg_name (i := 7) sc_squared.nd rfl (Or.inl rfl)) (fun _ _ _ _ _ => pts_nil) (fun _ _ _ _ _ => (pe_op op_fdivW (pv 7) (pv 6)))) pa_nil)))))))), ?_⟩
    obtain ⟨sa0, sb0, sc0, sd0⟩ := id sm
    have sa : Sm 4500 m.a := sa0.mono (by omega)
    have sb : Sm 4500 m.b := sb0.mono (by omega)
    have sc_ : Sm 4500 m.c := sc0.mono (by omega)
    have sd : Sm 4500 m.d := sd0.mono (by omega)
    have nq := sqM_nn nn
    have sq := sq_sm sm
    have g0 := gcM_pos nq
    refine ⟨fun σ' H' => H = H' ∧ σ' = [some (.ref q), some (.int m.a), some (.int m.b), some (.int m.c), some (.int m.d), none, none, none], ?_, ?_⟩
    · exact ⟨_, rfl, q, _, rfl, SqT.of hq, rfl, _, _, rfl, _, _, rfl, _, _, rfl, _, _, rfl, rfl, rfl, rfl⟩
    rintro σ' _ ⟨rfl, rfl⟩
    refine ⟨fun σ' H' => ∃ t, Same H H' ∧ H' t = some (.tup (MatT (sqM m))) ∧ σ' = [some (.ref q), some (.int m.a), some (.int m.b), some (.int m.c), some (.int m.d), some (.ref t), none, none], ?_, ?_⟩
    · refine ⟨_, rfl, _, rfl, _, _, rfl, rfl, mx sa sa, _, rfl, _, rfl, _, _, rfl, rfl, mx sb sc_, _, _, rfl, rfl, ?_⟩
      refine ⟨_, rfl, _, rfl, _, _, rfl, rfl, mx sa sb, _, rfl, _, rfl, _, _, rfl, rfl, mx sb sd, _, _, rfl, rfl, ?_⟩
      refine ⟨_, rfl, _, rfl, _, _, rfl, rfl, mx sc_ sa, _, rfl, _, rfl, _, _, rfl, rfl, mx sd sc_, _, _, rfl, rfl, ?_⟩
      refine ⟨_, rfl, _, rfl, _, _, rfl, rfl, mx sc_ sb, _, rfl, _, rfl, _, _, rfl, rfl, mx sd sd, _, _, rfl, rfl, ?_⟩
      exact ⟨(by show 4 ≤ sizeLine; decide), fun t nt => ⟨t, same_upd nt, upd_same, rfl⟩⟩
    rintro σ' H1 ⟨t, s1, ht, rfl⟩
    refine ⟨fun σ' H' => H1 = H' ∧ σ' = [some (.ref q), some (.int m.a), some (.int m.b), some (.int m.c), some (.int m.d), some (.ref t), some (.int 0), none], ?_, ?_⟩
    · exact ⟨rfl, rfl⟩
    rintro σ' _ ⟨rfl, rfl⟩
    have ht1 : SqT K H1 t (MatT (sqM m)) := SqT.of ht
    generalize hM : sqM m = M at *
    refine ⟨fun σ' H' => H1 = H' ∧ ∃ v, σ' = [some (.ref q), some (.int m.a), some (.int m.b), some (.int m.c), some (.int m.d), some (.ref t), some (.int (gcM M)), v], ?_, ?_⟩
    · refine ⟨_, rfl, t, rfl, ⟨_, ht1⟩, ?_⟩
      refine for_tup (K := K) (a := t) (xs := MatT M) (fun i σ H' => H1 = H' ∧ ∃ v, σ = [some (.ref q), some (.int m.a), some (.int m.b), some (.int m.c), some (.int m.d), some (.ref t), some (.int (((([M.a, M.b, M.c, M.d] : List Int).take i)).foldl gc 0)), v]) ⟨rfl, none, rfl⟩ (fun i σ H' _ h => by rw [← h.1]; exact ht1) ?_ ?_
      · rintro i y σ _ hy ⟨rfl, v, rfl⟩
        obtain ⟨z, hz, rfl⟩ : ∃ z, ([M.a, M.b, M.c, M.d] : List Int)[i]? = some z ∧ y = V.int z := by
          have e : MatT M = ([M.a, M.b, M.c, M.d] : List Int).map V.int := rfl
          rw [e, List.getElem?_map] at hy
          cases hh : ([M.a, M.b, M.c, M.d] : List Int)[i]? with
          | none => rw [hh] at hy; cases hy
          | some z => rw [hh] at hy; exact ⟨z, rfl, (Option.some.inj hy).symm⟩
        refine ⟨_, rfl, _, rfl, _, _, rfl, rfl, some (.int z), ?_⟩
        rw [List.take_succ, hz]
        simp only [Option.toList, List.foldl_append, List.foldl_cons, List.foldl_nil]
        rfl
      · rintro σ _ ⟨rfl, v, rfl⟩
        exact ⟨rfl, _, rfl⟩
    rintro σ' _ ⟨rfl, v, rfl⟩
    refine ⟨_, rfl, t, rfl, ⟨_, ht1⟩, fun D hD => ?_⟩
    refine lc_tup (K := K) (a := t) (xs := MatT M) (fun i H' => But D H1 H' ∧ H' D = some (.lst (((MatT (redM M))).take i))) ⟨But.upd, upd_same⟩ (fun i H' _ h => SqT.of (h.1 _ _ (ne_of_none ht hD) ht)) ?_ ?_
    · rintro i y H' hy ⟨bD, hDi⟩
      obtain ⟨z, hz, rfl⟩ : ∃ z, ([M.a, M.b, M.c, M.d] : List Int)[i]? = some z ∧ y = V.int z := by
        have e : MatT M = ([M.a, M.b, M.c, M.d] : List Int).map V.int := rfl
        rw [e, List.getElem?_map] at hy
        cases hh : ([M.a, M.b, M.c, M.d] : List Int)[i]? with
        | none => rw [hh] at hy; cases hy
        | some z => rw [hh] at hy; exact ⟨z, rfl, (Option.some.inj hy).symm⟩
      have i4 : i < 4 := (List.getElem?_eq_some_iff.mp hz).1
      refine ⟨rfl, ?_⟩
      unfold tYes
      refine iteT ?_
      refine ⟨_, rfl, _, rfl, _, _, rfl, rfl, ?_, _, hDi, ?_, ?_, ?_⟩
      · refine wide_div g0 (b := 8990) ?_ (by decide) (by decide)
        have l := Int.le_of_dvd nq.a0 (gcM_dvd M).1
        have h := (sq.1).mono nine
        unfold Sm at h
        have := nq.a0
        omega
      · exact small1000 (by rw [List.length_take]; show min i 4 ≤ 1000; omega)
      · intro q' o nq e'
        rw [upd_ne nq]
        exact bD _ _ nq e'
      · rw [upd_same]
        match i, hz with
        | 0, hz => cases hz; rfl
        | 1, hz => cases hz; rfl
        | 2, hz => cases hz; rfl
        | 3, hz => cases hz; rfl
    · rintro H' ⟨bD, hDn⟩
      have hDn : H' D = some (.lst (MatT (redM M))) := hDn
      refine ⟨D, _, rfl, .inl ⟨SqL.of hDn, fun l nl => ?_⟩⟩
      have sD : Same H1 H' := fun y o h => bD _ _ (ne_of_none h hD) h
      exact k _ l ((s1.trans sD).trans (same_upd nl)) upd_same
theorem sc_sections_before : FnScope ["matrix", "pair", "holds", "powers", "number", "at", "ahead"] ["matrix", "pair", "holds"] (defScope s_sections_before) := ⟨rfl, rfl, rfl, by decide +kernel, rfl, by decide +kernel, by decide +kernel⟩

theorem ok_before {g : Addr} {fd : FuncData} (F : Fun K "sections_before" "sections_before" s_sections_before g fd) (T : Txt K mg) (RV : mg "reversed" = none) (D_shown_before : Df P w K mg base 1 "shown_before" ["matrix", "pair"] spShown) (D_squared : Df P w K mg base 2 "squared" ["matrix"] spSq) : FnC P w K mg base 6 8 g fd ["matrix", "pair", "holds"] spBefore := by
  refine okC F sc_sections_before (fun cb f vs H Q E h => ?_) (fun cdv A outer s H vs f cb Q hr CC h => ?_)
  · obtain ⟨q, p, m, e, hold, n0, t, bs, rfl, _⟩ := h
    rfl
  · obtain ⟨q, p, m, e, hold, n0, t, bs, rfl, hq, hp, pe, se1, se2, R, S, n0t, t60, dec, k⟩ := h
    refine ⟨_, (pss_cons (ps_if (pt_val (pe_cb CC (i := 2) (hr.mono (by decide)) (pv 1) rfl (by first | exact Or.inl rfl | exact Or.inr (Or.inl rfl) | exact Or.inr (Or.inr rfl)))) (pss_one (ps_ret pe_int)) pss_nil)
      (pss_cons (ps_set (i := 3) sc_sections_before.nd rfl (.inl rfl) (pe_lst (pa_cons (pv 0) pa_nil)))
      (C8.pss_cut (ps_while PassesOwn.never (pt_not (pt_val (pe_cb CC (i := 2) (hr.mono (by decide)) (pe_df D_shown_before (hr.mono (by decide)) (by rfl) (pa_cons (pe_ix ix_list (pv 3) (pe_un un_neg pe_int) (fun _ _ => rfl)) (pa_cons (pv 1) pa_nil))) rfl (by first | exact Or.inl rfl | exact Or.inr (Or.inl rfl) | exact Or.inr (Or.inr rfl))))) (pss_one (ps_expr (pe_bm PySem.F.plainAttrs_list PySem.F.slot_list_append PySem.F.type_list_append mt_append (pv 3) (pa_cons (pe_df D_squared (hr.mono (by decide)) (by rfl) (pa_cons (pe_ix ix_list (pv 3) (pe_un un_neg pe_int) (fun _ _ => rfl)) pa_nil)) pa_nil)))))
      (C8.pss_cut (ps_set (i := 4) sc_sections_before.nd rfl (.inl rfl) pe_int)
      (pss_cons (ps_for PassesOwn.never rfl (pi_revR (by rfl) RV (prg_1 (by rfl) T.range (pe_op op_sub (pe_callB call_len_seq (by rfl) T.len (by decide +kernel) (pa_cons (pv 3) pa_nil)) pe_int))) (pg_name (i := 5) sc_sections_before.nd rfl (.inl rfl)) (pss_cons (ps_set (i := 6) sc_sections_before.nd rfl (.inl rfl) (pe_df D_shown_before (hr.mono (by decide)) (by rfl) (pa_cons (pe_ix ix_list (pv 3) (pv 5) (fun _ _ => rfl)) (pa_cons (pv 1) pa_nil))))
      (pss_one (ps_if (pt_not (pt_val (pe_cb CC (i := 2) (hr.mono (by decide)) (pv 6) rfl (by first | exact Or.inl rfl | exact Or.inr (Or.inl rfl) | exact Or.inr (Or.inr rfl))))) (pss_cons (ps_set (i := 1) sc_sections_before.nd rfl (.inl rfl) (pv 6))
      (pss_one (ps_aug sc_sections_before.nd (i := 4) rfl (.inl rfl) (pe_op op_oneShl pe_int (pv 5)) ip_add))) pss_nil))))
      (pss_one (ps_ret (pe_op op_add (pv 4) pe_int)))))))), ?_⟩
    have h0 : hold e = decide (n0 ≤ 0) := S.mono 0
    refine ⟨rfl, _, rfl, dec _ p e _ (Same.refl _) hp pe (se1.mono (by decide)) (se2.mono (by decide)) fun H1 s1 => ⟨_, rfl, ite2 (fun w0 => ?_) (fun w0 => ?_)⟩⟩
    · rw [h0] at w0
      have z : n0 = 0 := by have := of_decide_eq_true w0; omega
      have := k H1 s1
      rw [z] at this
      exact this
    have n1 : 0 < n0 := by
      rcases Nat.eq_zero_or_pos n0 with z | z
      · exfalso
        rw [h0, z] at w0
        exact w0 (by decide)
      · exact z
    refine ⟨_, rfl, (by show 1 ≤ sizeLine; decide), fun l nl => ?_⟩
    have q1 := same_upd (o := .lst [.ref q]) nl
    have hl0 : H l = none := s1.free nl
    have hl1 : (upd H1 l (.lst [.ref q])) l = some (.lst [.ref q]) := upd_same
    have s2 := s1.trans q1
    generalize upd H1 l (.lst [.ref q]) = H2 at *
    have m2 : MatsAt H2 [.ref q] m 1 := ⟨rfl, fun i hi => by
      have : i = 0 := by omega
      subst this
      exact ⟨q, rfl, s2 _ _ hq⟩⟩
    clear s1 q1 nl
    -- upwards
    refine ⟨fun σ' H' => ∃ (T : Nat) (ws : List V), σ' = [some (.ref q), some (.ref p), some (.ref f), some (.ref l), none, none, none] ∧ Same H H' ∧ H' l = some (.lst ws) ∧ MatsAt H' ws m (T + 1) ∧ T ≤ t ∧ n0 ≤ 2 ^ T, ?_, ?_⟩
    · refine while_dir (fun σ H' => ∃ (i : Nat) (ws : List V), σ = [some (.ref q), some (.ref p), some (.ref f), some (.ref l), none, none, none] ∧ Same H H' ∧ H' l = some (.lst ws) ∧ MatsAt H' ws m (i + 1) ∧ i ≤ t) (fun _ H' => match H' l with | some (.lst ws) => t + 2 - ws.length | _ => 0) ⟨0, _, rfl, s2, hl1, m2, Nat.zero_le _⟩ ?_
      rintro σ H3 ⟨i, ws, rfl, s3, hl, hm, it⟩
      obtain ⟨u, hu, hM⟩ := hm.2 i (by omega)
      have lst : atI ws (-1) = some (.ref u) := by
        have e1 : ws = ws.take i ++ [.ref u] := by
          have := List.take_succ (l := ws) (i := i)
          rw [hu, show i + 1 = ws.length from hm.1.symm, List.take_length] at this
          exact this
        rw [e1]
        exact atI_last _ _
      have pw := nn_pos (rpw_nn R.nn i) pe
      obtain ⟨a1, a2⟩ := appB_sm (R.sm i it) se1 se2
      have b9 := R.nine i it
      refine ⟨rfl, _, rfl, 1, rfl, l, _, _, _, rfl, rfl, SqL.of hl, lst, _, rfl, u, p, rpw m i, e, rfl, hM, s3 _ _ hp, ⟨(R.sm i it).1.mono b9, (R.sm i it).2.1.mono b9, (R.sm i it).2.2.1.mono b9, (R.sm i it).2.2.2.mono b9⟩, se1.mono (by decide), se2.mono (by decide), fun H4 v s4 nv hv => ?_⟩
      refine dec _ v ((rpw m i).app e) _ (s3.trans s4) hv pw (a1.mono (by omega)) (a2.mono (by omega)) fun H5 s5 => ⟨_, rfl, ?_⟩
      rw [S.pow R.nn i]
      have s35 := s4.trans s5
      have hl5 := s35 _ _ hl
      have hm5 := hm.same s35
      refine ite2 (fun w1 => ?_) (fun w1 => ?_)
      · have lt : ¬ n0 ≤ 2 ^ i := fun z => by rw [decide_eq_true z] at w1; cases w1
        have it1 : i < t := by
          rcases Nat.lt_or_ge i t with z | z
          · exact z
          · have : i = t := by omega
            rw [this] at lt
            exact absurd n0t lt
        refine ⟨_, fun σ' H' h => h, ?_⟩
        obtain ⟨u5, hu5, hM5⟩ := hm5.2 i (by omega)
        rw [hu] at hu5
        cases hu5
        refine ⟨_, rfl, .inl ⟨rfl, _, SqL.of hl5⟩, _, rfl, 1, rfl, l, _, _, _, rfl, rfl, SqL.of hl5, lst, u, rpw m i, bs i, rfl, hM5, rpw_nn R.nn i, R.sm i it, R.sq i it1, fun H6 x s6 hx => ?_⟩
        have hl6 := s6 _ _ hl5
        refine ⟨l, _, _, rfl, rfl, hl6, small1000 (by rw [hm.1]; omega), ?_⟩
        have b := But.upd (H := H6) (c := l) (o := .lst (ws ++ [.ref x]))
        have nt : ∀ xs, H6 l ≠ some (.tup xs) := fun xs z => by rw [hl6] at z; cases z
        have m6 := ((hm5.same s6).snoc (t := x) hx).but b nt
        have sH : Same H (upd H6 l (.lst (ws ++ [.ref x]))) := fun y o h => b _ _ (ne_of_none h hl0) ((s35.trans s6) _ _ (s3 _ _ h))
        refine ⟨t + 2 - (ws ++ [V.ref x]).length, ?_, ?_, i + 1, ws ++ [.ref x], rfl, sH, upd_same, m6, it1⟩
        · rw [hl]
          dsimp only
          rw [List.length_append, hm.1]
          show t + 2 - (i + 1 + 1) < t + 2 - (i + 1)
          omega
        · rw [upd_same]
      · have le : n0 ≤ 2 ^ i := by
          rcases Nat.lt_or_ge (2 ^ i) n0 with z | z
          · exfalso
            rw [decide_eq_false (by omega)] at w1
            exact w1 rfl
          · exact z
        exact ⟨i, ws, rfl, s3.trans s35, hl5, hm5, it, le⟩
    clear s2 hl1 m2
    rintro σ' H3 ⟨T1, ws, rfl, s3, hl, hm, Tt, n0T⟩
    refine ⟨fun σ' H' => H3 = H' ∧ σ' = [some (.ref q), some (.ref p), some (.ref f), some (.ref l), some (.int 0), none, none], ⟨rfl, rfl⟩, ?_⟩
    rintro σ' _ ⟨rfl, rfl⟩
    -- downwards
    have len : ws.length = T1 + 1 := hm.1
    have tn : (((ws.length : Nat) : Int) - 1 - 0).toNat = T1 := by omega
    refine ⟨_, rfl, l, ws, rfl, .inl (SqL.of hl), _, _, rfl, rfl, _, rfl, by omega, by omega, by omega, by omega, ?_⟩
    rw [tn]
    refine for_rangeC (lo := 0 + (T1 : Int) - 1) (c := -1) (n := T1) (fun i σ H' => Same H3 H' ∧ ∃ (nu : Nat) (p' : Addr) (x : Int × Int) (j : Int) (v5 v6 : Option V), σ = [some (.ref q), some (.ref p'), some (.ref f), some (.ref l), some (.int (nu : Int)), v5, v6] ∧ PairAt H' p' x ∧ Pos2 x ∧ 0 < j ∧ appN m nu e = sc j x ∧ nu < n0 ∧ n0 ≤ nu + 2 ^ (T1 - i) ∧ Sm (900 + (sumB bs T1 - sumB bs (T1 - i))) x.1 ∧ Sm (900 + (sumB bs T1 - sumB bs (T1 - i))) x.2) ⟨Same.refl _, 0, p, e, 1, none, none, rfl, s3 _ _ hp, pe, by decide, by show e = sc 1 e; unfold sc; ext <;> dsimp <;> omega, n1, by rw [Nat.zero_add, Nat.sub_zero]; exact n0T, se1.mono (by omega), se2.mono (by omega)⟩ ?_ ?_
    · rintro i σ H4 hi ⟨s4, nu, p', x, j, v5, v6, rfl, hp', px, j0, hx, l1, l2, sx1, sx2⟩
      obtain ⟨k', hk'⟩ : ∃ k', T1 - i = k' + 1 := ⟨T1 - i - 1, by omega⟩
      have hT : T1 - (i + 1) = k' := by omega
      have kt : k' ≤ t := by omega
      rw [hk'] at l2 sx1 sx2
      rw [hT]
      have mon := sumB_le bs (show k' + 1 ≤ T1 by omega)
      have es : sumB bs (k' + 1) = sumB bs k' + (bs k' + 1) := rfl
      have ix : (0 + (T1 : Int) - 1 + (i : Int) * -1) = ((k' : Nat) : Int) := by omega
      rw [ix]
      obtain ⟨u, hu, hM⟩ := (hm.same s4).2 k' (by omega)
      have b9 := R.nine k' kt
      have tot : sumB bs T1 ≤ 16000 := Nat.le_trans (sumB_le bs (show T1 ≤ t + 1 by omega)) R.sum
      obtain ⟨a1, a2⟩ := appB_sm (R.sm k' kt) sx1 sx2
      refine ⟨_, rfl, _, rfl, l, _, _, _, rfl, rfl, SqL.of (s4 _ _ hl), atI_nat hu, _, rfl, u, p', rpw m k', x, rfl, hM, hp', ⟨(R.sm k' kt).1.mono b9, (R.sm k' kt).2.1.mono b9, (R.sm k' kt).2.2.1.mono b9, (R.sm k' kt).2.2.2.mono b9⟩, sx1.mono (by omega), sx2.mono (by omega), fun H5 v s5 nv hv => ?_⟩
      obtain ⟨⟨j', j0', hx'⟩, hd⟩ := S.ahead R.nn (i := k') j0 hx
      have pw := nn_pos (rpw_nn R.nn k') px
      refine ⟨rfl, _, rfl, dec _ v ((rpw m k').app x) _ ((s3.trans s4).trans s5) hv pw (a1.mono (by omega)) (a2.mono (by omega)) fun H6 s6 => ⟨_, rfl, ?_⟩⟩
      rw [hd]
      have s46 := (s4.trans s5).trans s6
      refine ite2 (fun w1 => ?_) (fun w1 => ?_)
      · have lt : ¬ n0 ≤ nu + 2 ^ k' := fun z => by rw [decide_eq_true z] at w1; cases w1
        refine ⟨_, rfl, _, rfl, _, rfl, k', rfl, rfl, by omega, _, _, rfl, rfl, s46, nu + 2 ^ k', v, (rpw m k').app x, j', some (.int (k' : Int)), some (.ref v), ?_, s6 _ _ hv, pw, j0', hx', by omega, ?_, a1.mono (by omega), a2.mono (by omega)⟩
        · push_cast
          rfl
        · have : (2 : Nat) ^ (k' + 1) = 2 ^ k' + 2 ^ k' := by rw [Nat.pow_succ]; omega
          omega
      · have le : n0 ≤ nu + 2 ^ k' := by
          rcases Nat.lt_or_ge (nu + 2 ^ k') n0 with z | z
          · exfalso
            rw [decide_eq_false (by omega)] at w1
            exact w1 rfl
          · exact z
        exact ⟨s46, nu, p', x, j, _, _, rfl, (s5.trans s6) _ _ hp', px, j0, hx, l1, le, sx1.mono (by omega), sx2.mono (by omega)⟩
    · rintro σ H4 ⟨s4, nu, p', x, j, v5, v6, rfl, hp', px, j0, hx, l1, l2, sx1, sx2⟩
      rw [Nat.sub_self] at l2
      refine ⟨_, rfl, _, _, rfl, rfl, ?_⟩
      have e1 : ((nu : Int) + 1) = ((n0 : Nat) : Int) := by omega
      have := k H4 (s3.trans s4)
      rw [← e1] at this
      exact this
theorem sc_least_number : FnScope ["run", "holds", "begin", "pattern", "pair", "number"] ["run", "holds"] (defScope s_least_number) := ⟨rfl, rfl, rfl, by decide +kernel, rfl, by decide +kernel, by decide +kernel⟩

theorem ok_leastN {g : Addr} {fd : FuncData} (F : Fun K "least_number" "least_number" s_least_number g fd) (T : Txt4 K mg tG t1 t2 t3 tP tC aO aW J C Ce Cl) {st pl gl : Addr} {fst fl : FuncData} (OSt : OwMt P w K mg base Cl st fst "last_stage" 1 ["self"] (spStg C aO Ce Cl)) (OLo : OwLo P w K mg base C aO Ce Cl pl gl fl) (M_after : Mt P w K mg base Cl 2 "after" "self" "pair" (spAfter C aO Ce Cl)) (D_sections_before : DfC P w K mg base 6 8 "sections_before" ["matrix", "pair", "holds"] spBefore) : FnC P w K mg base 6 9 g fd ["run", "holds"] (spLeastN C aO Ce Cl) := by
  refine okC F sc_least_number (fun cb f vs H Q E h => ?_) (fun cdv A outer s H vs f cb Q hr CC h => ?_)
  · obtain ⟨x, r, e, hold, n0, t, bs, rfl, _⟩ := h
    rfl
  · obtain ⟨x, r, e, hold, n0, t, bs, rfl, hx, pe, se1, se2, R, S, n0t, t60, dec, k⟩ := h
    refine ⟨_, (pss_cons (ps_asg (pe_meth0 (pv 0) T.clL OSt.m OSt.ok (hr.mono (by decide)) OSt.b .nil pass0) (pg_tup rfl (pgs_cons (pg_name (i := 2) sc_least_number.nd rfl (.inl rfl)) (pgs_cons (pg_name (i := 3) sc_least_number.nd rfl (.inl rfl)) pgs_nil))))
      (pss_cons (ps_set (i := 4) sc_least_number.nd rfl (.inl rfl) (pe_prop (pv 0) T.clL OLo.pr OLo.ok (hr.mono (by decide)) OLo.b .nil pass0 rfl))
      (pss_cons (ps_for PassesOwn.never rfl (pi_range1 rfl T.range (pa_cons (pv 2) pa_nil)) (pg_name (i := 5) sc_least_number.nd rfl (.inl rfl)) (pss_cons (ps_if (pt_val (pe_cb CC (i := 1) (hr.mono (by decide)) (pv 4) rfl (by first | exact Or.inl rfl | exact Or.inr (Or.inl rfl) | exact Or.inr (Or.inr rfl)))) (pss_one (ps_ret (pv 5))) pss_nil)
      (pss_one (ps_set (i := 4) sc_least_number.nd rfl (.inl rfl) (pe_dm (pv 0) T.clL M_after (hr.mono (by decide)) (pa_cons (pv 4) pa_nil))))))
      (pss_one (ps_ret (pe_op op_add (pv 2) (pe_cbOn CC D_sections_before (hr.mono (by decide)) (by rfl) (pa_cons (pe_fld (pv 3) rfl) (pa_cons (pv 4) (pa_cons (pv 1) pa_nil)))))))))), ?_⟩
    obtain ⟨dx, p0, q0, v0, hix, _⟩ := id hx
    refine ⟨_, rfl, x, dx, _, rfl, hix, lkLs _ _ _, x, r, e, rfl, hx, fun H1 st p s1 hst hp => ?_⟩
    refine ⟨st, _, rfl, SqT.of hst, rfl, _, _, rfl, _, _, rfl, rfl, ?_⟩
    have hx1 := hx.same s1
    refine ⟨_, rfl, x, dx, _, rfl, s1 _ _ hix, x, r, e, rfl, hx1, fun z hz => ?_⟩
    refine ⟨_, rfl, 0, rfl, by decide, by decide, ?_⟩
    refine for_range (lo := 0) (n := Int.toNat 0) (fun i σ H' => H1 = H' ∧ ∃ v, σ = [some (.ref x), some (.ref f), some (.int 0), some (.ref p), some (.ref z), v]) ⟨rfl, none, rfl⟩ (fun i σ H' hi _ => absurd hi (Nat.not_lt_zero i)) ?_
    rintro σ _ ⟨rfl, v, rfl⟩
    obtain ⟨dp, a, m, f', ws, f1, f2, f3, f4, hpi, hq, hw, hm, _⟩ := id hp
    refine ⟨_, rfl, _, rfl, p, C, dp, _, _, rfl, hpi, T.cl, T.nMat, lkM _ _ _, _, rfl, _, rfl, m, z, matR r, e, hold, n0, t, bs, rfl, hm, hz, pe, se1, se2, R, S, n0t, t60, dec.same s1, fun H2 s2 => ⟨_, _, rfl, rfl, ?_⟩⟩
    have := k H2 (s1.trans s2)
    rw [← Int.zero_add ((n0 : Nat) : Int)] at this
    exact this
theorem sc_first_with : FnScope ["run", "bound", "holds"] ["run", "bound", "holds"] (defScope s_first_with) := ⟨rfl, rfl, rfl, by decide +kernel, rfl, by decide +kernel, by decide +kernel⟩

theorem ok_with {g : Addr} {fd : FuncData} (F : Fun K "first_with" "first_with" s_first_with g fd) (T : Txt4 K mg tG t1 t2 t3 tP tC aO aW J C Ce Cl) {pg gg pm gm : Addr} {fg fm : FuncData} (OG : OwG P w K mg base C aO Ce Cl pg gg fg) (OM : OwM P w K mg base C aO Ce Cl pm gm fm) (D_limit_beside : Df P w K mg base 3 "limit_beside" ["limit", "pair"] (spLBo K aO Ce)) (D_least_number : DfC P w K mg base 6 9 "least_number" ["run", "holds"] (spLeastN C aO Ce Cl)) : FnC P w K mg base 6 10 g fd ["run", "bound", "holds"] (spWith C aO Ce Cl) := by
  refine okC F sc_first_with (fun cb f vs H Q E h => ?_) (fun cdv A outer s H vs f cb Q hr CC h => ?_)
  · obtain ⟨x, p, r, e, b, rfl, _⟩ := h
    rfl
  · obtain ⟨x, p, r, e, b, rfl, hx, hp, ok, n1, l8, pe, se1, se2, pb, sb1, sb2, k1, k2⟩ := h
    refine ⟨_, (pss_cons (ps_if (pt_cmpR op_le (pe_op op_mulX (pe_prop (pv 0) T.clL OG.pr OG.ok (hr.mono (by decide)) OG.b .nil pass0 rfl) (pe_df D_limit_beside (hr.mono (by decide)) (by rfl) (pa_cons (pe_prop (pv 0) T.clL OM.pr OM.ok (hr.mono (by decide)) OM.b .nil pass0 rfl) (pa_cons (pv 1) pa_nil)))) pe_int (nomark _)) (pss_one (ps_ret pe_non)) pss_nil)
      (pss_one (ps_ret (pe_cbOn CC D_least_number (hr.mono (by decide)) (by rfl) (pa_cons (pv 0) (pa_cons (pv 2) pa_nil)))))), ?_⟩
    obtain ⟨dx, p0, q0, v0, hix, _⟩ := id hx
    refine ⟨_, rfl, x, dx, _, rfl, hix, x, r, e, rfl, hx, ok, l8, se1.mono (by decide), se2.mono (by decide), fun H1 s1 => ?_⟩
    have hx1 := hx.same s1
    refine ⟨_, rfl, x, dx, _, rfl, s1 _ _ hix, x, r, e, rfl, hx1, fun v hv => ⟨_, rfl, v, p, r, b, rfl, hv, ok, n1, l8, SqT.of (s1 _ _ hp), pb, sb1.mono (by decide), sb2.mono (by decide), ?_⟩⟩
    have sg3 : ∀ x : Int, Sm 3 (sg x) := fun x => by rcases sg_three x with q | q | q <;> rw [q] <;> (unfold Sm; decide)
    have ge : sg (((matR r).app e).1 * e.2 - e.1 * ((matR r).app e).2) = goR r e := rfl
    rw [ge]
    refine ⟨_, _, rfl, rfl, mx (sg3 _) (sg3 _), _, _, rfl, rfl, _, rfl, ite2 (fun w1 => ?_) (fun w1 => ?_)⟩
    · have w1 : goR r e * sg (goV (matR r) b) ≤ 0 := of_decide_eq_true w1
      exact k2 (by omega) _ s1
    · have w1 : ¬ goR r e * sg (goV (matR r) b) ≤ 0 := fun z => w1 (decide_eq_true z)
      obtain ⟨hold, n0, t, bs, R, S, n0t, t60, dec, k⟩ := k1 (by omega)
      exact ⟨_, rfl, _, rfl, x, r, e, hold, n0, t, bs, rfl, hx1, pe, se1, se2, R, S, n0t, t60, dec.same s1, fun H2 s2 => k _ (s1.trans s2)⟩
end
end RL

set_option maxHeartbeats 4000000
namespace RL
open PySem L2 PySem.Spec PyProof.Rows
theorem ext_tup {H H' : Hp} {a : Addr} {xs : List V} (s : LamX.ExtN H H') (h : H a = some (.tup xs)) : H' a = some (.tup xs) := s _ _ h (by intro ps z; cases z)
theorem ext_ins {H H' : Hp} {a C dx : Addr} {fs : List (Str × V)} (s : LamX.ExtN H H') (h : H a = some (.ins C dx fs)) : H' a = some (.ins C dx fs) := s _ _ h (by intro ps z; cases z)
theorem ext_lst {H H' : Hp} {a : Addr} {xs : List V} (s : LamX.ExtN H H') (h : H a = some (.lst xs)) : H' a = some (.lst xs) := s _ _ h (by intro ps z; cases z)
theorem PiecesAt.ext {H H' : Hp} {vs : List V} {r : List Pc} (h : PiecesAt H vs r) (s : LamX.ExtN H H') : PiecesAt H' vs r :=
  ⟨h.1, fun i p hp => let ⟨v, hv, t, e, z⟩ := h.2 i p hp; ⟨v, hv, t, e, ext_tup s z⟩⟩
theorem RowL.ext {H H' : Hp} {a : Addr} {r : List Pc} (h : RowL H a r) (s : LamX.ExtN H H') : RowL H' a r := by
  obtain ⟨ws, h1, h2⟩ := h
  exact ⟨ws, ext_lst s h1, h2.ext s⟩
theorem PatAt.ext {C x : Addr} {H H' : Hp} {r : List Pc} (h : PatAt C H x r) (s : LamX.ExtN H H') : PatAt C H' x r := by
  obtain ⟨dx, q, m, f, ws, f1, f2, f3, f4, h1, h2, h3, h4, h5, h6, h7, h8, h9⟩ := h
  exact ⟨dx, q, m, f, ws, f1, f2, f3, f4, ext_ins s h1, ext_tup s h2, h3.ext s, ext_tup s h4, ext_tup s h5, ext_tup s h6, ext_tup s h7, ext_tup s h8, ext_tup s h9⟩
theorem LimAt.ext {aO Ce : Addr} {H H' : Hp} {v : V} {r : List Pc} (h : LimAt aO Ce H v r) (s : LamX.ExtN H H') : LimAt aO Ce H' v r := by
  rcases h with h | ⟨h, y, e, dy, py, hy, hp⟩
  · exact .inl h
  · exact .inr ⟨h, y, e, dy, py, ext_ins s hy, ext_tup s hp⟩
theorem LadAt.ext {C aO Ce Cl : Addr} {H H' : Hp} {x : Addr} {r : List Pc} {e : Int × Int} (h : LadAt C aO Ce Cl H x r e) (s : LamX.ExtN H H') : LadAt C aO Ce Cl H' x r e := by
  obtain ⟨dx, p, q, v, h1, h2, h3, h4⟩ := h
  exact ⟨dx, p, q, v, ext_ins s h1, h2.ext s, ext_tup s h3, h4.ext s⟩
theorem okFC {P : Program} {w : World} {K : PySem.W.Frag} {mg : Str → Option Value} {base : Heap} {x qual : Str} {st : Stmt} {f cA : Addr} {fd : FuncData} {N ps : List Str} {k : Nat} {sp : Sp} (F : FunC K x qual st f fd cA) (S : FnScope N ps (defScope st)) (len : ∀ vs H Q E, sp vs H Q E → vs.length = ps.length)
    (bd : ∀ (A : Around) (outer : List Env) (s : Shared) (H : Hp) (vs : List V) (Q : VK) (E : XK), Room k (A.deeper (envOfC qual (defScope st) s.heap.objs.size f (.ref cA))) → sp vs H Q E →
      ∃ t, PSs (cxOf CX0 P w K mg base N qual (defScope st) f (.ref cA) A outer s H E).nox (defBody st) t ∧ t { nx := fun _ H' => Q .non H', rt := Q } (L2.start N vs) H) : FnOk P w K mg base CX0 (k + 1) f fd ps sp := by
  obtain ⟨oc, od, kV, doc, pm, an, ct, osl, rfl, lk, hcd⟩ := F.ex
  exact ⟨len, fun A outer s H args us vs Q E hr e0 hb r hsp => LamX.run_ofS lk hcd S hr e0 hb r (len _ _ _ _ hsp) fun hr' => let ⟨t, ht, hq⟩ := bd A outer s H vs Q E hr' hsp; ⟨t, ht.nox, hq⟩⟩
/-! ### the kinds of rows that are searched -/
def KindOk (r : List Pc) : Prop := Mx4 r ∨ (r.length ≤ 8 ∧ ((∀ p ∈ r, p.1 = true) ∨ ∀ p ∈ r, p.1 = false))
theorem KindOk.l8 {r : List Pc} (h : KindOk r) : r.length ≤ 8 := by
  rcases h with h | h
  · have := h.1
    omega
  · exact h.1
theorem rails_mat {r : List Pc} (h : ∀ p ∈ r, p.1 = true) : ∀ m : Mx, m.c = 0 → m.d = 1 → m.a = 1 → (r.foldl stepM m).c = 0 ∧ (r.foldl stepM m).d = 1 ∧ (r.foldl stepM m).a = 1 := by
  induction r with
  | nil => exact fun m a b c => ⟨a, b, c⟩
  | cons p r ih =>
    intro m a b c
    have hp := h p List.mem_cons_self
    have e : stepM m p = ⟨m.a, m.a * p.2 + m.b, m.c, m.c * p.2 + m.d⟩ := by unfold stepM; rw [if_pos hp]
    refine ih (fun q hq => h q (List.mem_cons_of_mem _ hq)) (stepM m p) ?_ ?_ ?_
    · rw [e]
      exact a
    · rw [e]
      show m.c * p.2 + m.d = 1
      rw [a, b]
      omega
    · rw [e]
      exact c
theorem rungs_mat {r : List Pc} (h : ∀ p ∈ r, p.1 = false) : ∀ (m : Mx) (s : Int), m.b = 0 → m.a = s → (r.foldl stepM m).b = 0 ∧ (r.foldl stepM m).a = r.foldl stepS s := by
  induction r with
  | nil => exact fun m s a b => ⟨a, b⟩
  | cons p r ih =>
    intro m s a b
    have hp : ¬ p.1 = true := by rw [h p List.mem_cons_self]; decide
    refine ih (fun q hq => h q (List.mem_cons_of_mem _ hq)) (stepM m p) (stepS s p) ?_ ?_
    · unfold stepM
      rw [if_neg hp]
      show m.b * p.2 = 0
      rw [a, Int.zero_mul]
    · unfold stepM stepS
      rw [if_neg hp, if_neg hp]
      show m.a * p.2 + m.b = s * p.2
      rw [a, b, Int.add_zero]
theorem srch_mixed {r : List Pc} (ok : RowOk r) (h : Mx4 r) : Srch (matR r) 8 (dblN 30) := by
  have l8 : r.length ≤ 8 := by have := h.1; omega
  have n1 : 1 ≤ r.length := by
    obtain ⟨_, ⟨p, hp, _⟩, _⟩ := h
    exact List.length_pos_of_mem hp
  have nn := (way_of ok n1).nn
  exact ⟨nn, fun i _ => rpw_sm nn (matR_sm30 ok l8) i, by decide, by decide, by decide⟩
theorem srch_lines {r : List Pc} (ok : RowOk r) (l8 : r.length ≤ 8) (n1 : 1 ≤ r.length) (h : Lines r) : Srch (matR r) 44 (fun i => 30 + i) := by
  have w := way_of ok n1
  exact ⟨w.nn, fun i _ => onek_sm ⟨w.nn, w.ad h, h⟩ (matR_sm30 ok l8) i, fun i hi => by show 30 + i ≤ 9000; omega, fun i hi => by show 2 * (30 + i) + 1 ≤ 8990; omega, by decide⟩
theorem search_of {r : List Pc} (ok : RowOk r) (n1 : 1 ≤ r.length) (h : KindOk r) : ∃ (t : Nat) (bs : Nat → Nat), t ≤ 60 ∧ Srch (matR r) t bs ∧ ∀ {e b : Int × Int}, Pos2 e → Bnd b → goR r e ≠ 0 → sg (goV (matR r) b) = goR r e → ∃ N, N ≤ 2 ^ t ∧ 0 < goR r e * crs (appN (matR r) N e) b := by
  rcases h with h | ⟨l8, h⟩
  · exact ⟨8, dblN 30, by decide, srch_mixed ok h, fun he hb g0 lb => ⟨250, by decide, reach_mixed ok h he hb g0 lb⟩⟩
  · have ln : Lines r ∧ ((matR r).c = 0 ∨ sclR r ≤ 12 * (matR r).c) ∧ ((matR r).c = 0 → (matR r).a = 1) ∧ ((matR r).b = 0 → (matR r).a = sclR r) := by
      have w := way_of ok n1
      rcases h with h | h
      · obtain ⟨c, d, a⟩ := rails_mat h m1 rfl rfl rfl
        have c : (matR r).c = 0 := c
        have b0 : 0 < (matR r).b := by have := w.ne; omega
        exact ⟨.inr c, .inl c, fun _ => a, fun z => by omega⟩
      · obtain ⟨b, a⟩ := rungs_mat h m1 1 rfl rfl
        have b : (matR r).b = 0 := b
        have c0 : 0 < (matR r).c := by have := w.ne; omega
        obtain ⟨p, r', e⟩ : ∃ p r', r = p :: r' := by
          match r, n1 with
          | p :: r', _ => exact ⟨p, r', rfl⟩
        exact ⟨.inl b, .inr (c_ge ok ⟨p, by rw [e]; exact List.mem_cons_self, h p (by rw [e]; exact List.mem_cons_self)⟩), fun z => by omega, fun _ => a⟩
    exact ⟨44, fun i => 30 + i, by decide, srch_lines ok l8 n1 ln.1, fun he hb g0 lb => ⟨12000000000001, by decide, reach_lines ok n1 ln.1 ln.2.1 he hb g0 lb ln.2.2.1 ln.2.2.2⟩⟩
def optV : Option Nat → V
  | none => .non
  | some n => .int (n : Int)
def IsFirst (r : List Pc) (e b : Int × Int) (st : Bool) : Option Nat → Prop
  | none => sg (goV (matR r) b) ≠ goR r e
  | some n0 => sg (goV (matR r) b) = goR r e ∧ ∀ n, holdB (goR r e) b st (appN (matR r) n e) = decide (n0 ≤ n)
def spFirst (TT : List (Addr × Str)) (C aO Ce Cl : Addr) (st : Bool) : Sp := fun vs H Q _ => ∃ (x p : Addr) (r : List Pc) (e b : Int × Int), vs = [.ref x, .ref p] ∧ LadAt C aO Ce Cl H x r e ∧ PairAt H p b ∧ LamX.Tabs TT H ∧ RowOk r ∧ 1 ≤ r.length ∧ KindOk r ∧ Pos2 e ∧ Sm 41 e.1 ∧ Sm 41 e.2 ∧ Bnd b ∧ goR r e ≠ 0 ∧
  ∀ H' o, LamX.ExtN H H' → LamX.Tabs TT H' → IsFirst r e b st o → Q (optV o) H'
theorem prod_one {g x : Int} (hg : g = 1 ∨ g = -1) (hx : x = 1 ∨ x = 0 ∨ x = -1) : 0 < g * x ↔ x = g := by
  rcases hg with rfl | rfl <;> rcases hx with rfl | rfl | rfl <;> decide
theorem hold_sgn {g c : Int} (hg : g = 1 ∨ g = -1) : (0 ≤ g * sg c ↔ 0 ≤ g * c) ∧ (0 < g * sg c ↔ 0 < g * c) := by
  rcases Int.lt_trichotomy c 0 with q | q | q
  · rw [sg_m1'.mpr q]
    rcases hg with rfl | rfl <;> omega
  · rw [q, show sg 0 = 0 from rfl]
    rcases hg with rfl | rfl <;> omega
  · rw [sg_one.mpr q]
    rcases hg with rfl | rfl <;> omega
theorem Bnd.sm {b : Int × Int} (h : Bnd b) : Sm 41 b.1 ∧ Sm 41 b.2 := by
  have k : ∀ z : Int, 0 ≤ z → z ≤ 1000000000000 → Sm 41 z := fun z h1 h2 => sm_lt h1 (by
    have e : (2 : Int) ^ 41 = 2199023255552 := by decide
    rw [e]
    omega)
  exact ⟨k _ h.1 h.2.1, k _ h.2.2.1 h.2.2.2.1⟩
section
variable {P : Program} {w : World} {K : PySem.W.Frag} {mg : Str → Option Value} {base : Heap} {tG t1 t2 t3 tP tC : Tok} {aO aW J C Ce Cl Cg Cs : Addr}
theorem sc_first_reaching : FnScope ["run", "bound"] ["run", "bound"] (defScope s_first_reaching) := ⟨rfl, rfl, rfl, by decide +kernel, rfl, by decide +kernel, by decide +kernel⟩

theorem ok_reaching {f cA PR : Addr} {fd : FuncData} {TT : List (Addr × Str)} (F : FunC K "first_reaching" "first_reaching" s_first_reaching f fd cA) (T : Txt4 K mg tG t1 t2 t3 tP tC aO aW J C Ce Cl) (TBR : LamX.TabB base mg cA PR) (TMR : (PR, ("first_reaching" : Str) ++ ".<locals>.<lambda>") ∈ TT) (TUR : ∀ p ∈ TT, p.1 = PR → p.2 = ("first_reaching" : Str) ++ ".<locals>.<lambda>") {pg gg : Addr} {fg : FuncData} (OG : OwG P w K mg base C aO Ce Cl pg gg fg) (D_pair_order : Df P w K mg base 2 "pair_order" ["first", "second"] (spPOK K)) (D_first_with : DfC P w K mg base 6 10 "first_with" ["run", "bound", "holds"] (spWith C aO Ce Cl)) : FnOk P w K mg base CX0 11 f fd ["run", "bound"] (spFirst TT C aO Ce Cl false) := by
  refine okFC F sc_first_reaching (fun vs H Q E h => ?_) (fun A outer s H vs Q E hr h => ?_)
  · obtain ⟨x, p, r, e, b, rfl, _⟩ := h
    rfl
  · obtain ⟨x, p, r, e, b, rfl, hx, hp, hT, ok, n1, kd, pe, se1, se2, hb, g0, k⟩ := h
    refine ⟨_, (pss_one (ps_ret (pe_lamC2 (p := "pair") D_first_with (i := 0) (j := 1) (by rfl) TBR rfl TMR TUR (hr.mono (by decide)) (lamS1_by (by rfl)) (show ¬ ("pair" : Str) ∈ (["run", "bound"] : List Str) by decide) rfl (fun _ _ _ _ _ _ => rfl) (fun A2 outer2 s2 H2 f2 c2 hr2 => (pe_cmpR op_ge (pe_op op_mulX (pe_prop (pv 0) T.clL OG.pr OG.ok (hr2.mono (by decide)) OG.b .nil pass0 rfl) (pe_df D_pair_order (hr2.mono (by decide)) (by rfl) (pa_cons (pv 2) (pa_cons (pv 1) pa_nil)))) pe_int (nomark _))) rfl (by first | exact Or.inl rfl | exact Or.inr (Or.inl rfl) | exact Or.inr (Or.inr rfl)) rfl (by first | exact Or.inl rfl | exact Or.inr (Or.inl rfl) | exact Or.inr (Or.inr rfl))))), ?_⟩
    have pb := hb.pos
    obtain ⟨sb1, sb2⟩ := hb.sm
    have gp := go_pm g0
    refine ⟨hT, [.ref x, .ref p], rfl, fun f' c' H1 eN T1 hco => ?_⟩
    have hx1 := hx.ext eN
    have hp1 : PairAt H1 p b := ext_tup eN hp
    refine ⟨x, p, r, e, b, rfl, hx1, hp1, ok, n1, kd.l8, pe, se1.mono (by decide), se2.mono (by decide), pb, sb1.mono (by decide), sb2.mono (by decide), fun q => ?_, fun q H2 s2 => ?_⟩
    · have lb : sg (goV (matR r) b) = goR r e := (prod_one gp (sg_three _)).mp q
      obtain ⟨t, bs, t60, R, rc⟩ := search_of ok n1 kd
      obtain ⟨N, Nt, far⟩ := rc pe hb g0 lb
      obtain ⟨n0, n0N, all⟩ := least_of (p := fun n => holdB (goR r e) b false (appN (matR r) n e)) (N := N) (fun i j hij h => holdB_mono ok n1 pe pb g0 hij h) (by unfold holdB; simp; omega)
      refine ⟨holdB (goR r e) b false, n0, t, bs, R, ⟨fun j y hj => holdB_sc hj, all⟩, by omega, t60, ?_, fun H2 s2 => k H2 (some n0) (eN.trans (.of s2)) (tabs_same T1 s2) ⟨lb, all⟩⟩
      intro H2 p' y Q2 s2 hp' py sy1 sy2 kk
      have hx2 := hx1.same s2
      obtain ⟨dx, p0, q0, v0, hix, _⟩ := id hx2
      refine ⟨s2 _ _ hco, _, rfl, x, dx, _, rfl, hix, x, r, e, rfl, hx2, ok, kd.l8, se1.mono (by decide), se2.mono (by decide), fun H3 s3 => ?_⟩
      have sg3 : ∀ x : Int, Sm 3 (sg x) := fun x => by rcases sg_three x with q | q | q <;> rw [q] <;> (unfold Sm; decide)
      refine ⟨_, rfl, _, rfl, p', p, y, b, rfl, SqT.of (s3 _ _ hp'), SqT.of ((s2.trans s3) _ _ hp1), sy1.mono (by decide), sy2.mono (by decide), sb1.mono (by decide), sb2.mono (by decide), _, _, rfl, rfl, mx (sg3 _) (sg3 _), _, _, rfl, rfl, ?_⟩
      have := kk H3 s3
      unfold holdB at this
      simp only [Bool.false_eq_true, if_false] at this
      have e1 : decide (goR r e * sg (crs y b) ≥ 0) = decide (0 ≤ goR r e * crs y b) := decide_eq_decide.mpr (hold_sgn gp).1
      rw [← e1] at this
      exact this
    · refine k H2 none (eN.trans (.of s2)) (tabs_same T1 s2) fun z => q ((prod_one gp (sg_three _)).mpr z)
theorem sc_first_passing : FnScope ["run", "bound"] ["run", "bound"] (defScope s_first_passing) := ⟨rfl, rfl, rfl, by decide +kernel, rfl, by decide +kernel, by decide +kernel⟩

theorem ok_passing {f cA PR : Addr} {fd : FuncData} {TT : List (Addr × Str)} (F : FunC K "first_passing" "first_passing" s_first_passing f fd cA) (T : Txt4 K mg tG t1 t2 t3 tP tC aO aW J C Ce Cl) (TBP : LamX.TabB base mg cA PR) (TMP : (PR, ("first_passing" : Str) ++ ".<locals>.<lambda>") ∈ TT) (TUP : ∀ p ∈ TT, p.1 = PR → p.2 = ("first_passing" : Str) ++ ".<locals>.<lambda>") {pg gg : Addr} {fg : FuncData} (OG : OwG P w K mg base C aO Ce Cl pg gg fg) (D_pair_order : Df P w K mg base 2 "pair_order" ["first", "second"] (spPOK K)) (D_first_with : DfC P w K mg base 6 10 "first_with" ["run", "bound", "holds"] (spWith C aO Ce Cl)) : FnOk P w K mg base CX0 11 f fd ["run", "bound"] (spFirst TT C aO Ce Cl true) := by
  refine okFC F sc_first_passing (fun vs H Q E h => ?_) (fun A outer s H vs Q E hr h => ?_)
  · obtain ⟨x, p, r, e, b, rfl, _⟩ := h
    rfl
  · obtain ⟨x, p, r, e, b, rfl, hx, hp, hT, ok, n1, kd, pe, se1, se2, hb, g0, k⟩ := h
    refine ⟨_, (pss_one (ps_ret (pe_lamC2 (p := "pair") D_first_with (i := 0) (j := 1) (by rfl) TBP rfl TMP TUP (hr.mono (by decide)) (lamS1_by (by rfl)) (show ¬ ("pair" : Str) ∈ (["run", "bound"] : List Str) by decide) rfl (fun _ _ _ _ _ _ => rfl) (fun A2 outer2 s2 H2 f2 c2 hr2 => (pe_cmpR op_gt (pe_op op_mulX (pe_prop (pv 0) T.clL OG.pr OG.ok (hr2.mono (by decide)) OG.b .nil pass0 rfl) (pe_df D_pair_order (hr2.mono (by decide)) (by rfl) (pa_cons (pv 2) (pa_cons (pv 1) pa_nil)))) pe_int (nomark _))) rfl (by first | exact Or.inl rfl | exact Or.inr (Or.inl rfl) | exact Or.inr (Or.inr rfl)) rfl (by first | exact Or.inl rfl | exact Or.inr (Or.inl rfl) | exact Or.inr (Or.inr rfl))))), ?_⟩
    have pb := hb.pos
    obtain ⟨sb1, sb2⟩ := hb.sm
    have gp := go_pm g0
    refine ⟨hT, [.ref x, .ref p], rfl, fun f' c' H1 eN T1 hco => ?_⟩
    have hx1 := hx.ext eN
    have hp1 : PairAt H1 p b := ext_tup eN hp
    refine ⟨x, p, r, e, b, rfl, hx1, hp1, ok, n1, kd.l8, pe, se1.mono (by decide), se2.mono (by decide), pb, sb1.mono (by decide), sb2.mono (by decide), fun q => ?_, fun q H2 s2 => ?_⟩
    · have lb : sg (goV (matR r) b) = goR r e := (prod_one gp (sg_three _)).mp q
      obtain ⟨t, bs, t60, R, rc⟩ := search_of ok n1 kd
      obtain ⟨N, Nt, far⟩ := rc pe hb g0 lb
      obtain ⟨n0, n0N, all⟩ := least_of (p := fun n => holdB (goR r e) b true (appN (matR r) n e)) (N := N) (fun i j hij h => holdB_mono ok n1 pe pb g0 hij h) (by unfold holdB; simp; omega)
      refine ⟨holdB (goR r e) b true, n0, t, bs, R, ⟨fun j y hj => holdB_sc hj, all⟩, by omega, t60, ?_, fun H2 s2 => k H2 (some n0) (eN.trans (.of s2)) (tabs_same T1 s2) ⟨lb, all⟩⟩
      intro H2 p' y Q2 s2 hp' py sy1 sy2 kk
      have hx2 := hx1.same s2
      obtain ⟨dx, p0, q0, v0, hix, _⟩ := id hx2
      refine ⟨s2 _ _ hco, _, rfl, x, dx, _, rfl, hix, x, r, e, rfl, hx2, ok, kd.l8, se1.mono (by decide), se2.mono (by decide), fun H3 s3 => ?_⟩
      have sg3 : ∀ x : Int, Sm 3 (sg x) := fun x => by rcases sg_three x with q | q | q <;> rw [q] <;> (unfold Sm; decide)
      refine ⟨_, rfl, _, rfl, p', p, y, b, rfl, SqT.of (s3 _ _ hp'), SqT.of ((s2.trans s3) _ _ hp1), sy1.mono (by decide), sy2.mono (by decide), sb1.mono (by decide), sb2.mono (by decide), _, _, rfl, rfl, mx (sg3 _) (sg3 _), _, _, rfl, rfl, ?_⟩
      have := kk H3 s3
      unfold holdB at this
      simp only [if_true] at this
      have e1 : decide (goR r e * sg (crs y b) > 0) = decide (0 < goR r e * crs y b) := decide_eq_decide.mpr (hold_sgn gp).2
      rw [← e1] at this
      exact this
    · refine k H2 none (eN.trans (.of s2)) (tabs_same T1 s2) fun z => q ((prod_one gp (sg_three _)).mpr z)
end
end RL

set_option maxHeartbeats 4000000
namespace RL
open PySem L2 PySem.Spec PyProof.Rows
theorem stay_crs {r : List Pc} {e : Int × Int} (hr : RowOk r) (he : Pos2 e) (g0 : goR r e = 0) : ∀ n : Nat, crs (appN (matR r) n e) e = 0
  | 0 => by show e.1 * e.2 - e.1 * e.2 = 0; omega
  | n + 1 => by
    have ih := stay_crs hr he g0 n
    have gl := goR_later hr e n
    rw [g0] at gl
    have gv : goV (matR r) (appN (matR r) n e) = 0 := by
      rcases Int.lt_trichotomy (goV (matR r) (appN (matR r) n e)) 0 with q | q | q
      · have := sg_m1'.mpr q
        unfold goR at gl
        omega
      · exact q
      · have := sg_one.mpr q
        unfold goR at gl
        omega
    rw [go_crs] at gv
    have p := appN_pos hr he (n + 1)
    have p0 := appN_pos hr he n
    have gv : crs (appN (matR r) (n + 1) e) (appN (matR r) n e) = 0 := gv
    have a := crsT_le p p0 he (by omega) (by omega)
    have b := crsT_le he p0 p (by rw [crs_anti]; omega) (by rw [crs_anti]; omega)
    rw [crs_anti] at b
    omega
theorem same_side {x y b : Int × Int} (hx : Pos2 x) (hy : Pos2 y) (hb : Pos2 b) (h : crs x y = 0) : (0 ≤ crs x b ↔ 0 ≤ crs y b) ∧ (crs x b ≤ 0 ↔ crs y b ≤ 0) := by
  have h' : crs y x = 0 := by rw [crs_anti]; omega
  refine ⟨⟨fun q => ?_, fun q => ?_⟩, fun q => crsT_le hy hx hb (by omega) q, fun q => crsT_le hx hy hb (by omega) q⟩
  · have := crsT_le hb hx hy (by rw [crs_anti]; omega) (by omega)
    rw [crs_anti] at this
    omega
  · have := crsT_le hb hy hx (by rw [crs_anti]; omega) (by omega)
    rw [crs_anti] at this
    omega
theorem never_hold {r : List Pc} {e b : Int × Int} (ok : RowOk r) (n1 : 1 ≤ r.length) (he : Pos2 e) (hb : Pos2 b) (g0 : goR r e ≠ 0) (h : sg (goV (matR r) b) ≠ goR r e) (n : Nat) (st : Bool) : holdB (goR r e) b st (appN (matR r) n e) = false := by
  have w := way_of ok n1
  have px := appN_pos ok he n
  have gl := goR_later ok e n
  have no : ¬ 0 ≤ goR r e * crs (appN (matR r) n e) b := fun z => by
    rcases go_pm g0 with g | g
    · rw [g] at z gl h
      have gp : 0 < goV (matR r) (appN (matR r) n e) := sg_one.mp gl
      exact h (sg_one.mpr (w.down hb px (by unfold crs at z; omega) gp))
    · rw [g] at z gl h
      have gp : goV (matR r) (appN (matR r) n e) < 0 := sg_m1'.mp gl
      exact h (sg_m1'.mpr (w.up px hb (by unfold crs at z; omega) gp))
  unfold holdB
  cases st
  · rw [if_neg (by decide)]
    exact decide_eq_false no
  · rw [if_pos rfl]
    exact decide_eq_false fun z => no (Int.le_of_lt z)
theorem resP_bnd {e : Int × Int} (h : ResP e.1 e.2) : Bnd e := by
  rcases h with ⟨h1, h2, h3, h4⟩ | ⟨h1, h2⟩
  · exact ⟨h1, h2, by omega, h4, fun z => by omega⟩
  · exact ⟨by omega, by omega, by omega, by omega, fun _ => Prod.ext h1 h2⟩
theorem load_bnd {H : Hp} {v : V} {e : Int × Int} (h : LoadAt H v e) : Bnd e := by
  rcases h with ⟨i, _, h1, h2, rfl⟩ | ⟨p, _, _, h⟩
  · exact ⟨h1, h2, by show (0 : Int) ≤ 1; decide, by show (1 : Int) ≤ 1000000000000; decide, fun z => by have z : (1 : Int) = 0 := z; omega⟩
  · exact resP_bnd h
theorem LoadAt.sameW {H H' : Hp} {v : V} {e : Int × Int} (h : LoadAt H v e) (s : Same H H') : LoadAt H' v e := by
  rcases h with h | ⟨p, h1, h2, h3⟩
  · exact .inl h
  · exact .inr ⟨p, h1, s _ _ h2, h3⟩
theorem po_of {H : Hp} {v : V} {b : Int × Int} {Q : VK} {E : XK} (h : LoadAt H v b) (k : ∀ H' p, Same H H' → PairAt H' p b → Q (.ref p) H') : spPairOf [v] H Q E := by
  rcases h with ⟨i, rfl, _, _, rfl⟩ | ⟨p, rfl, hp, _⟩
  · exact .inl ⟨i, rfl, fun H' p s _ hp => k H' p s hp⟩
  · exact .inr ⟨p, _, rfl, hp, k H p (.refl H) hp⟩
end RL

namespace RL
/-! rails alone and rungs alone: the resistance at a number, by division. -/
theorem rails_matW {r : List Pc} (h : ∀ p ∈ r, p.1 = true) : ∀ m : Mx, m.c = 0 → m.d = 1 → m.a = 1 → (r.foldl stepM m).c = 0 ∧ (r.foldl stepM m).d = 1 ∧ (r.foldl stepM m).a = 1 := by
  induction r with
  | nil => exact fun m a b c => ⟨a, b, c⟩
  | cons p r ih =>
    intro m a b c
    have hp := h p List.mem_cons_self
    have e : stepM m p = ⟨m.a, m.a * p.2 + m.b, m.c, m.c * p.2 + m.d⟩ := by unfold stepM; rw [if_pos hp]
    refine ih (fun q hq => h q (List.mem_cons_of_mem _ hq)) (stepM m p) ?_ ?_ ?_
    · rw [e]
      exact a
    · rw [e]
      show m.c * p.2 + m.d = 1
      rw [a, b]
      omega
    · rw [e]
      exact c
theorem rails_b {r : List Pc} (ok : RowOk r) (h : ∀ p ∈ r, p.1 = true) : ∀ m : Mx, m.a = 1 → (r.foldl stepM m).b ≤ m.b + 12 * r.length := by
  induction r with
  | nil => exact fun m _ => by simp
  | cons p r ih =>
    intro m a
    have hp := h p List.mem_cons_self
    have e : stepM m p = ⟨m.a, m.a * p.2 + m.b, m.c, m.c * p.2 + m.d⟩ := by unfold stepM; rw [if_pos hp]
    have k := ih ok.tail (fun q hq => h q (List.mem_cons_of_mem _ hq)) (stepM m p) (by rw [e]; exact a)
    have e2 : (stepM m p).b = p.2 + m.b := by
      rw [e]
      show m.a * p.2 + m.b = _
      rw [a, Int.one_mul]
    have := ok.head.2
    show (r.foldl stepM (stepM m p)).b ≤ _
    rw [e2] at k
    rw [List.length_cons]
    push_cast
    omega
theorem rungs_matA {r : List Pc} (ok : RowOk r) (h : ∀ p ∈ r, p.1 = false) : ∀ (m : Mx) (k : Int), m.b = 0 → m.a = m.d → 0 ≤ m.a → 0 ≤ k → m.c ≤ k * m.a → (r.foldl stepM m).b = 0 ∧ (r.foldl stepM m).c ≤ (k + r.length) * (r.foldl stepM m).a := by
  induction r with
  | nil => exact fun m k a b c _ d => ⟨a, by simp; exact d⟩
  | cons p r ih =>
    intro m k b ad a0 k0 c
    have hp : ¬ p.1 = true := by rw [h p List.mem_cons_self]; decide
    have p1 := ok.head.1
    have e : stepM m p = ⟨m.a * p.2 + m.b, m.b * p.2, m.c * p.2 + m.d, m.d * p.2⟩ := by unfold stepM; rw [if_neg hp]
    have z := ih ok.tail (fun q hq => h q (List.mem_cons_of_mem _ hq)) (stepM m p) (k + 1) (by rw [e]; show m.b * p.2 = 0; rw [b, Int.zero_mul]) (by rw [e]; show m.a * p.2 + m.b = m.d * p.2; rw [b, ad, Int.add_zero]) (by rw [e]; show 0 ≤ m.a * p.2 + m.b; rw [b, Int.add_zero]; exact Int.mul_nonneg a0 (by omega)) (by omega) (by
      rw [e]
      show m.c * p.2 + m.d ≤ (k + 1) * (m.a * p.2 + m.b)
      rw [b, ← ad]
      have h1 := Int.mul_le_mul_of_nonneg_right c (show 0 ≤ p.2 by omega)
      have h2 := Int.mul_le_mul_of_nonneg_left p1 a0
      have e1 : (k + 1) * (m.a * p.2 + 0) = k * m.a * p.2 + m.a * p.2 := by grind
      rw [e1]
      omega)
    refine ⟨z.1, ?_⟩
    have e2 : k + 1 + (r.length : Int) = k + ((p :: r).length : Int) := by
      rw [List.length_cons]
      push_cast
      omega
    rw [← e2]
    exact z.2
def atS (s : Int × Int) (p : Pc) : Int × Int := if p.1 = true then (s.1 + p.2, 1) else (s.1 * p.2 + s.2, s.2 * p.2)
theorem atS_rails {r : List Pc} (h : ∀ p ∈ r, p.1 = true) : ∀ m : Mx, m.a = 1 → m.c = 0 → m.d = 1 → r.foldl atS (m.b, 1) = ((r.foldl stepM m).b, 1) := by
  induction r with
  | nil => exact fun m _ _ _ => rfl
  | cons p r ih =>
    intro m a c d
    have hp := h p List.mem_cons_self
    have e : stepM m p = ⟨m.a, m.a * p.2 + m.b, m.c, m.c * p.2 + m.d⟩ := by unfold stepM; rw [if_pos hp]
    have k := ih (fun q hq => h q (List.mem_cons_of_mem _ hq)) (stepM m p) (by rw [e]; exact a) (by rw [e]; exact c) (by rw [e]; show m.c * p.2 + m.d = 1; rw [c, d]; omega)
    show r.foldl atS (atS (m.b, 1) p) = _
    have e2 : atS (m.b, 1) p = ((stepM m p).b, 1) := by
      rw [e]
      unfold atS
      rw [if_pos hp]
      show (m.b + p.2, 1) = (m.a * p.2 + m.b, 1)
      rw [a]
      ext <;> dsimp <;> omega
    rw [e2]
    exact k
theorem atS_rungs {r : List Pc} (h : ∀ p ∈ r, p.1 = false) : ∀ m : Mx, r.foldl atS (m.c, m.d) = ((r.foldl stepM m).c, (r.foldl stepM m).d) := by
  induction r with
  | nil => exact fun m => rfl
  | cons p r ih =>
    intro m
    have hp : ¬ p.1 = true := by rw [h p List.mem_cons_self]; decide
    have e : stepM m p = ⟨m.a * p.2 + m.b, m.b * p.2, m.c * p.2 + m.d, m.d * p.2⟩ := by unfold stepM; rw [if_neg hp]
    show r.foldl atS (atS (m.c, m.d) p) = _
    have e2 : atS (m.c, m.d) p = ((stepM m p).c, (stepM m p).d) := by
      rw [e]
      unfold atS
      rw [if_neg hp]
    rw [e2]
    exact ih (fun q hq => h q (List.mem_cons_of_mem _ hq)) (stepM m p)
def atP (b : Bool) (r : List Pc) (e : Int × Int) (n : Int) : Int × Int :=
  if b then (e.1 + n * (matR r).b * e.2, e.2) else (e.1 * (matR r).d, e.2 * (matR r).d + n * (matR r).c * e.1)
def OneW (b : Bool) (r : List Pc) : Prop := ∀ p ∈ r, p.1 = b
theorem one_mat {b : Bool} {r : List Pc} (ok : RowOk r) (n1 : 1 ≤ r.length) (h : OneW b r) : if b then ((matR r).c = 0 ∧ (matR r).a = 1 ∧ (matR r).d = 1 ∧ 0 < (matR r).b ∧ (matR r).b ≤ 12 * r.length) else ((matR r).b = 0 ∧ (matR r).a = (matR r).d ∧ 0 < (matR r).c ∧ (matR r).c ≤ r.length * (matR r).d) := by
  have w := way_of ok n1
  cases b
  · rw [if_neg (by decide)]
    obtain ⟨z, k⟩ := rungs_matA ok h m1 0 rfl rfl (by decide) (by decide) (by decide)
    have z : (matR r).b = 0 := z
    have ad := w.ad (.inl z)
    have ne := w.ne
    have k : (matR r).c ≤ (0 + (r.length : Int)) * (matR r).a := k
    rw [Int.zero_add, ad] at k
    exact ⟨z, ad, by omega, k⟩
  · rw [if_pos rfl]
    obtain ⟨c, d, a⟩ := rails_matW h m1 rfl rfl rfl
    have c : (matR r).c = 0 := c
    have ne := w.ne
    have k := rails_b ok h m1 rfl
    have k : (matR r).b ≤ 0 + 12 * (r.length : Int) := k
    exact ⟨c, a, d, by omega, by omega⟩
theorem at_app {b : Bool} {r : List Pc} (ok : RowOk r) (n1 : 1 ≤ r.length) (h : OneW b r) {e : Int × Int} (he : Pos2 e) (n : Nat) : ∃ j k : Int, 0 < j ∧ 0 < k ∧ sc j (appN (matR r) n (low e)) = sc k (atP b r e n) := by
  have g := gc_pos2 he
  have w := way_of ok n1
  have s := appN_scK (matR r) (gc e.1 e.2) (low e) n
  rw [← low_is he] at s
  have m := one_mat ok n1 h
  cases b
  · rw [if_neg (by decide)] at m
    obtain ⟨b0, ad, c0, _⟩ := m
    have a0 := w.a0
    have pw : 0 < (matR r).a ^ n := Int.pow_pos a0
    refine ⟨(matR r).a * gc e.1 e.2, (matR r).a ^ n, Int.mul_pos a0 g, pw, ?_⟩
    have e1 : sc ((matR r).a * gc e.1 e.2) (appN (matR r) n (low e)) = sc (matR r).a (appN (matR r) n e) := by
      rw [s]
      unfold sc
      ext <;> dsimp only <;> grind
    rw [e1, rungs_app ad b0]
    unfold atP sc
    rw [if_neg (by decide), ← ad]
    cases n with
    | zero => ext <;> simp <;> grind
    | succ n =>
      simp only [Nat.add_sub_cancel]
      have p1 : (matR r).a ^ (n + 1) = (matR r).a * (matR r).a ^ n := by rw [Int.pow_succ]; grind
      rw [p1]
      push_cast
      ext <;> dsimp only <;> grind
  · rw [if_pos rfl] at m
    obtain ⟨c0, a1, d1, b0, _⟩ := m
    refine ⟨gc e.1 e.2, 1, g, by decide, ?_⟩
    rw [← s, rails_app (by rw [a1, d1]) c0, a1]
    unfold atP sc
    rw [if_pos rfl]
    simp only [Int.one_pow, Int.one_mul]
    ext <;> dsimp only <;> grind
theorem sc_side {k : Int} (hk : 0 < k) (x b : Int × Int) : (0 ≤ crs (sc k x) b ↔ 0 ≤ crs x b) ∧ (crs (sc k x) b ≤ 0 ↔ crs x b ≤ 0) := by
  rw [crs_scK1]
  refine ⟨⟨fun h => ?_, fun h => Int.mul_nonneg (Int.le_of_lt hk) h⟩, ⟨fun h => ?_, fun h => Int.mul_nonpos_of_nonneg_of_nonpos (Int.le_of_lt hk) h⟩⟩
  · rcases Int.lt_or_le (crs x b) 0 with z | z
    · have := Int.mul_neg_of_pos_of_neg hk z
      omega
    · exact z
  · rcases Int.lt_or_le 0 (crs x b) with z | z
    · have := Int.mul_pos hk z
      omega
    · exact z
theorem at_side {b : Bool} {r : List Pc} (ok : RowOk r) (n1 : 1 ≤ r.length) (h : OneW b r) {e : Int × Int} (he : Pos2 e) (n : Nat) (x : Int × Int) : (0 ≤ crs (appN (matR r) n (low e)) x ↔ 0 ≤ crs (atP b r e n) x) ∧ (crs (appN (matR r) n (low e)) x ≤ 0 ↔ crs (atP b r e n) x ≤ 0) := by
  obtain ⟨j, k, j0, k0, eq⟩ := at_app ok n1 h he n
  have a := sc_side j0 (appN (matR r) n (low e)) x
  have b := sc_side k0 (atP b r e n) x
  rw [eq] at a
  exact ⟨a.1.symm.trans b.1, a.2.symm.trans b.2⟩
end RL

namespace RL
/-! behind 60 sections nothing that is shown has a bottom of up to 30. -/
section
variable {m : Mx} {s : Int} {e : Int × Int}
def grL (m : Mx) (s : Int) (x : Int × Int) : Int := 25 * (m.c * x.1) + (25 * m.d - 19 * s) * x.2
theorem grL_step (q : Quick m s) {x : Int × Int} (hx : Pos2 x) : 25 * (s * grL m s x) ≤ 19 * grL m s (m.app x) := by
  obtain ⟨x0, y0, _⟩ := hx
  have det := q.det
  have tr := q.tr
  have c0 : 0 ≤ m.c := by have := q.c1; have := q.s0; omega
  have d0 : 0 ≤ m.d := by have := q.d1; have := q.s0; omega
  have z : 0 ≤ m.c * x.1 + m.d * x.2 := Int.add_nonneg (Int.mul_nonneg c0 x0) (Int.mul_nonneg d0 y0)
  have k := Int.mul_nonneg (show 0 ≤ 475 * (m.a + m.d) - 986 * s by have := q.s0; omega) z
  have e1 : 19 * grL m s (m.app x) - 25 * (s * grL m s x) = (475 * (m.a + m.d) - 986 * s) * (m.c * x.1 + m.d * x.2) := by
    have bc : m.b * m.c = m.a * m.d - s * s := by omega
    have e2 : m.c * (m.a * x.1 + m.b * x.2) = m.c * m.a * x.1 + m.b * m.c * x.2 := by grind
    unfold grL Mx.app
    dsimp only
    rw [e2, bc]
    grind
  omega
theorem grL_ge (q : Quick m s) {x : Int × Int} (hx : Pos2 x) : 6 * (m.app x).2 ≤ grL m s x ∧ grL m s x ≤ 25 * (m.app x).2 := by
  obtain ⟨x0, y0, _⟩ := hx
  have s0 := q.s0
  have c0 : 0 ≤ m.c := by have := q.c1; omega
  have cx := Int.mul_nonneg c0 x0
  have dy := Int.mul_nonneg (show 0 ≤ m.d - s by have := q.d1; omega) y0
  have sy := Int.mul_nonneg (Int.le_of_lt s0) y0
  have e1 : (m.app x).2 = m.c * x.1 + m.d * x.2 := rfl
  have e2 : (25 * m.d - 19 * s) * x.2 = 25 * (m.d * x.2) - 19 * (s * x.2) := by grind
  have e3 : (m.d - s) * x.2 = m.d * x.2 - s * x.2 := by grind
  unfold grL
  rw [e1, e2]
  rw [e3] at dy
  omega
theorem grL_far {r : List Pc} {s : Int} (ok : RowOk r) (q : Quick (matR r) s) {e : Int × Int} (he : Pos2 e) : ∀ n : Nat, 25 ^ n * (s ^ n * grL (matR r) s e) ≤ 19 ^ n * grL (matR r) s (appN (matR r) n e)
  | 0 => by simp; exact Int.le_refl _
  | n + 1 => by
    have ih := grL_far ok q he n
    have st := grL_step q (appN_pos ok he n)
    have s0 := q.s0
    have p19 : (0 : Int) ≤ 19 ^ n := Int.le_of_lt (Int.pow_pos (by decide))
    have h1 := Int.mul_le_mul_of_nonneg_left st p19
    have h2 := Int.mul_le_mul_of_nonneg_left ih (show 0 ≤ 25 * s by omega)
    have a1 : (25 : Int) ^ (n + 1) * (s ^ (n + 1) * grL (matR r) s e) = 25 * s * (25 ^ n * (s ^ n * grL (matR r) s e)) := by rw [Int.pow_succ, Int.pow_succ]; grind
    have a2 : (19 : Int) ^ (n + 1) * grL (matR r) s (appN (matR r) (n + 1) e) = 19 ^ n * (19 * grL (matR r) s ((matR r).app (appN (matR r) n e))) := by rw [Int.pow_succ]; show _ * grL (matR r) s ((matR r).app (appN (matR r) n e)) = _; grind
    have a3 : 25 * s * (19 ^ n * grL (matR r) s (appN (matR r) n e)) = 19 ^ n * (25 * (s * grL (matR r) s (appN (matR r) n e))) := by grind
    rw [a1, a2]
    rw [a3] at h2
    exact Int.le_trans h2 h1
end
theorem scl_pow {r : List Pc} : RowOk r → ∀ (s k : Int), 0 ≤ s → s ≤ k → r.foldl stepS s ≤ k * 12 ^ r.length := by
  induction r with
  | nil => exact fun _ s k _ h => by simp; exact h
  | cons p r ih =>
    intro ok s k s0 h
    have p1 := ok.head.1
    have p2 := ok.head.2
    have h2 : stepS s p ≤ k * 12 := by
      unfold stepS
      split
      · omega
      · have a := Int.mul_le_mul_of_nonneg_left p2 s0
        have b := Int.mul_le_mul_of_nonneg_right h (show (0 : Int) ≤ 12 by decide)
        exact Int.le_trans a b
    have h0 : 0 ≤ stepS s p := by
      unfold stepS
      split
      · exact s0
      · exact Int.mul_nonneg s0 (by omega)
    have z := ih ok.tail (stepS s p) (k * 12) h0 h2
    have e : k * 12 * 12 ^ r.length = k * 12 ^ (p :: r).length := by
      rw [List.length_cons, Int.pow_succ]
      grind
    rw [← e]
    exact z
theorem far_num : ∀ n : Nat, 60 ≤ n → (625 * (900 * (20736 * 342732)) : Int) * 361 ^ n < 36 * 625 ^ n := by
  have st : ∀ k : Nat, (625 * (900 * (20736 * 342732)) : Int) * 361 ^ (60 + k) < 36 * 625 ^ (60 + k) := fun k => by
    induction k with
    | zero => decide +kernel
    | succ k ih =>
      have e1 : (361 : Int) ^ (60 + (k + 1)) = 361 ^ (60 + k) * 361 := Int.pow_succ ..
      have e2 : (625 : Int) ^ (60 + (k + 1)) = 625 ^ (60 + k) * 625 := Int.pow_succ ..
      have p : (0 : Int) < 625 ^ (60 + k) := Int.pow_pos (by decide)
      rw [e1, e2]
      omega
  intro n h
  obtain ⟨k, rfl⟩ := Nat.exists_eq_add_of_le h
  exact st k
theorem sq_le {a b : Int} (a0 : 0 ≤ a) (h : a ≤ b) : a * a ≤ b * b := Int.mul_le_mul h h a0 (Int.le_trans a0 h)
theorem not_far {r : List Pc} {s : Int} (ok : RowOk r) (q : Quick (matR r) s) (s4 : s ≤ 20736) {e t : Int × Int} (he : Pos2 e) (g0 : goV (matR r) e ≠ 0) (u0 : 1 ≤ t.2) (u30 : t.2 ≤ 30) {n : Nat} (hn : 60 ≤ n) : crs (appN (matR r) (n + 1) e) t ≠ 0 := by
  intro hc
  have s0 := q.s0
  have y1p := (app_ge q he).2.2
  have gf := go_far (e := e) q (n + 1)
  have gr := grL_far ok q he n
  have lo := (grL_ge q he).1
  have hi := (grL_ge q (appN_pos ok he n)).2
  have eY : ((matR r).app (appN (matR r) n e)).2 = (appN (matR r) (n + 1) e).2 := rfl
  rw [eY] at hi
  have Yp : 0 < (appN (matR r) (n + 1) e).2 := by rw [← eY]; exact (app_ge q (appN_pos ok he n)).2.2
  have first := go_first q he
  generalize hX : appN (matR r) (n + 1) e = X at *
  generalize hy1 : ((matR r).app e).2 = y1 at *
  -- the two equations
  have par : sc t.2 X = sc X.2 t := by
    unfold crs at hc
    unfold sc
    ext
    · dsimp only; grind
    · dsimp only; grind
  have gg : t.2 * t.2 * goV (matR r) X = X.2 * X.2 * goV (matR r) t := by rw [← goV_scK, ← goV_scK, par]
  rw [gf] at gg
  have sn : 0 < s ^ (n + 1) := Int.pow_pos s0
  have un : 0 < t.2 * t.2 := Int.mul_pos (by omega) (by omega)
  have Y2 : 0 < X.2 * X.2 := Int.mul_pos Yp Yp
  -- |goV t| is at least 1
  have key : s * (X.2 * X.2) ≤ t.2 * t.2 * (s ^ (n + 1) * s ^ (n + 1)) * (342732 * (y1 * y1)) := by
    have w : 0 < t.2 * t.2 * (s ^ (n + 1) * s ^ (n + 1)) := Int.mul_pos un (Int.mul_pos sn sn)
    have e1 : s * (t.2 * t.2 * (s ^ (n + 1) * s ^ (n + 1) * goV (matR r) e)) = t.2 * t.2 * (s ^ (n + 1) * s ^ (n + 1)) * (s * goV (matR r) e) := by grind
    have e2 : s * (X.2 * X.2 * goV (matR r) t) = s * (X.2 * X.2) * goV (matR r) t := by grind
    have eq : t.2 * t.2 * (s ^ (n + 1) * s ^ (n + 1)) * (s * goV (matR r) e) = s * (X.2 * X.2) * goV (matR r) t := by rw [← e1, ← e2, gg]
    have sy : 0 < s * (X.2 * X.2) := Int.mul_pos s0 Y2
    have yy : 0 ≤ y1 * y1 := Int.mul_nonneg (Int.le_of_lt y1p) (Int.le_of_lt y1p)
    rcases Int.lt_trichotomy (goV (matR r) t) 0 with z | z | z
    · have a := Int.mul_le_mul_of_nonneg_left (show goV (matR r) t ≤ -1 by omega) (Int.le_of_lt sy)
      have b := Int.mul_le_mul_of_nonneg_left (show -(s * goV (matR r) e) ≤ 342732 * (y1 * y1) by omega) (Int.le_of_lt w)
      rw [Int.mul_neg] at b
      omega
    · rw [z, Int.mul_zero] at eq
      rcases Int.mul_eq_zero.mp eq with k | k
      · omega
      · rcases Int.mul_eq_zero.mp k with k | k
        · omega
        · exact absurd k g0
    · have a := Int.mul_le_mul_of_nonneg_left (show 1 ≤ goV (matR r) t by omega) (Int.le_of_lt sy)
      have b := Int.mul_le_mul_of_nonneg_left first.1 (Int.le_of_lt w)
      omega
  -- the growth
  have g1 : 25 ^ n * (s ^ n * (6 * y1)) ≤ 19 ^ n * (25 * X.2) := by
    have p25 : (0 : Int) < 25 ^ n := Int.pow_pos (by decide)
    have p19 : (0 : Int) < 19 ^ n := Int.pow_pos (by decide)
    have ps : 0 < s ^ n := Int.pow_pos s0
    have a := Int.mul_le_mul_of_nonneg_left (Int.mul_le_mul_of_nonneg_left lo (Int.le_of_lt ps)) (Int.le_of_lt p25)
    have b := Int.mul_le_mul_of_nonneg_left hi (Int.le_of_lt p19)
    exact Int.le_trans a (Int.le_trans gr b)
  have ps : 0 < s ^ n := Int.pow_pos s0
  have p25 : (0 : Int) < 25 ^ n := Int.pow_pos (by decide)
  have g2 := sq_le (Int.mul_nonneg (Int.le_of_lt p25) (Int.mul_nonneg (Int.le_of_lt ps) (by omega))) g1
  have f25 : (25 : Int) ^ n * 25 ^ n = 625 ^ n := by rw [← Int.mul_pow, show (25 : Int) * 25 = 625 from by decide]
  have f19 : (19 : Int) ^ n * 19 ^ n = 361 ^ n := by rw [← Int.mul_pow, show (19 : Int) * 19 = 361 from by decide]
  have g3 : 36 * 625 ^ n * (s ^ n * s ^ n * (y1 * y1)) ≤ 625 * 361 ^ n * (X.2 * X.2) := by
    have e1 : 25 ^ n * (s ^ n * (6 * y1)) * (25 ^ n * (s ^ n * (6 * y1))) = 36 * (25 ^ n * 25 ^ n) * (s ^ n * s ^ n * (y1 * y1)) := by grind
    have e2 : 19 ^ n * (25 * X.2) * (19 ^ n * (25 * X.2)) = 625 * (19 ^ n * 19 ^ n) * (X.2 * X.2) := by grind
    rw [e1, e2, f25, f19] at g2
    exact g2
  have p361 : (0 : Int) < 361 ^ n := Int.pow_pos (by decide)
  have g4 := Int.mul_le_mul_of_nonneg_left g3 (Int.le_of_lt s0)
  have g5 := Int.mul_le_mul_of_nonneg_left key (show (0 : Int) ≤ 625 * 361 ^ n by omega)
  have W : 0 < s * (s ^ n * s ^ n * (y1 * y1)) := Int.mul_pos s0 (Int.mul_pos (Int.mul_pos ps ps) (Int.mul_pos y1p y1p))
  have e3 : s * (36 * 625 ^ n * (s ^ n * s ^ n * (y1 * y1))) = 36 * 625 ^ n * (s * (s ^ n * s ^ n * (y1 * y1))) := by grind
  have e4 : s * (625 * 361 ^ n * (X.2 * X.2)) = 625 * 361 ^ n * (s * (X.2 * X.2)) := by grind
  have e5 : 625 * 361 ^ n * (t.2 * t.2 * (s ^ (n + 1) * s ^ (n + 1)) * (342732 * (y1 * y1))) = 625 * (t.2 * t.2 * (s * 342732)) * 361 ^ n * (s * (s ^ n * s ^ n * (y1 * y1))) := by rw [Int.pow_succ]; grind
  rw [e3, e4] at g4
  rw [e5] at g5
  have g6 := Int.le_of_mul_le_mul_right (Int.le_trans g4 g5) W
  have un2 : t.2 * t.2 ≤ 900 := Int.mul_le_mul u30 u30 (by omega) (by decide)
  have s5 : s * 342732 ≤ 20736 * 342732 := by omega
  have c1 := Int.mul_le_mul un2 s5 (by omega) (by decide)
  have c2 := Int.mul_le_mul_of_nonneg_right (show 625 * (t.2 * t.2 * (s * 342732)) ≤ 625 * (900 * (20736 * 342732)) by omega) (Int.le_of_lt p361)
  have fn := far_num n hn
  omega
theorem mat_le4 {r : List Pc} (ok : RowOk r) (l4 : r.length ≤ 4) : MxLe 28561 (matR r) := by
  have h := fold_le (m := m1) (N := 1) ok ⟨by decide, by decide, by decide, by decide, by decide, by decide, by decide, by decide⟩
  have p : (13 : Int) ^ r.length * 1 ≤ 28561 := by
    have : r.length = 0 ∨ r.length = 1 ∨ r.length = 2 ∨ r.length = 3 ∨ r.length = 4 := by omega
    rcases this with z | z | z | z | z <;> rw [z] <;> decide
  obtain ⟨h1, h2, h3, h4, h5, h6, h7, h8⟩ := h
  exact ⟨h1, Int.le_trans h2 p, h3, Int.le_trans h4 p, h5, Int.le_trans h6 p, h7, Int.le_trans h8 p⟩
theorem not_small {r : List Pc} {s : Int} (ok : RowOk r) (l4 : r.length ≤ 4) (q : Quick (matR r) s) {e t : Int × Int} (he : Pos2 e) (t1 : t.1 = 1) (t2 : 1000000 ≤ t.2) (n : Nat) : crs (appN (matR r) (n + 1) e) t ≠ 0 := by
  intro hc
  have s0 := q.s0
  have px := appN_pos ok he n
  obtain ⟨x0, y0, xy⟩ := px
  have e1 : (appN (matR r) (n + 1) e).1 = (matR r).a * (appN (matR r) n e).1 + (matR r).b * (appN (matR r) n e).2 := rfl
  have e2 : (appN (matR r) (n + 1) e).2 = (matR r).c * (appN (matR r) n e).1 + (matR r).d * (appN (matR r) n e).2 := rfl
  unfold crs at hc
  rw [t1, e1, e2] at hc
  obtain ⟨_, _, _, _, c0, c1, d0, d1⟩ := mat_le4 ok l4
  generalize (appN (matR r) n e).1 = x at *
  generalize (appN (matR r) n e).2 = y at *
  have a1 := Int.mul_le_mul_of_nonneg_right (show 1 ≤ (matR r).a by have := q.a1; omega) x0
  have b1 := Int.mul_le_mul_of_nonneg_right (show 1 ≤ (matR r).b by have := q.b1; omega) y0
  have c2 := Int.mul_le_mul_of_nonneg_right c1 x0
  have d2 := Int.mul_le_mul_of_nonneg_right d1 y0
  have z := Int.mul_le_mul_of_nonneg_left t2 (show 0 ≤ (matR r).a * x + (matR r).b * y by omega)
  omega
theorem not_ends {r : List Pc} {s : Int} (ok : RowOk r) (q : Quick (matR r) s) {e : Int × Int} (he : Pos2 e) (n : Nat) : 0 < (appN (matR r) (n + 1) e).1 ∧ 0 < (appN (matR r) (n + 1) e).2 := by
  have s0 := q.s0
  obtain ⟨x0, y0, xy⟩ := appN_pos ok he n
  have e1 : (appN (matR r) (n + 1) e).1 = (matR r).a * (appN (matR r) n e).1 + (matR r).b * (appN (matR r) n e).2 := rfl
  have e2 : (appN (matR r) (n + 1) e).2 = (matR r).c * (appN (matR r) n e).1 + (matR r).d * (appN (matR r) n e).2 := rfl
  rw [e1, e2]
  generalize (appN (matR r) n e).1 = x at *
  generalize (appN (matR r) n e).2 = y at *
  have a1 := Int.mul_le_mul_of_nonneg_right (show 1 ≤ (matR r).a by have := q.a1; omega) x0
  have b1 := Int.mul_le_mul_of_nonneg_right (show 1 ≤ (matR r).b by have := q.b1; omega) y0
  have c1 := Int.mul_le_mul_of_nonneg_right (show 1 ≤ (matR r).c by have := q.c1; omega) x0
  have d1 := Int.mul_le_mul_of_nonneg_right (show 1 ≤ (matR r).d by have := q.d1; omega) y0
  omega
def Drawn (t : Int × Int) : Prop := t.1 = 0 ∨ t.2 = 0 ∨ (1 ≤ t.2 ∧ t.2 ≤ 30) ∨ (t.1 = 1 ∧ 1000000 ≤ t.2)
theorem not_behind {r : List Pc} (ok : RowOk r) (l4 : r.length ≤ 4) (h1 : ∃ p ∈ r, p.1 = true) (h2 : ∃ p ∈ r, p.1 = false) {e t : Int × Int} (he : Pos2 e) (g0 : goR r e ≠ 0) (ht : Pos2 t) (dr : Drawn t) {n : Nat} (hn : 60 ≤ n) : crs (appN (matR r) (n + 1) e) t ≠ 0 := by
  have q := quick ok l4 h1 h2
  obtain ⟨t0, u0, tu⟩ := ht
  obtain ⟨p1, p2⟩ := not_ends ok q he n
  rcases dr with z | z | ⟨z1, z2⟩ | ⟨z1, z2⟩
  · intro hc
    unfold crs at hc
    rw [z, Int.zero_mul] at hc
    have := Int.mul_pos p1 (show 0 < t.2 by omega)
    omega
  · intro hc
    unfold crs at hc
    rw [z, Int.mul_zero] at hc
    have := Int.mul_pos (show 0 < t.1 by omega) p2
    omega
  · refine not_far ok q ?_ he (fun z => g0 (by unfold goR; rw [z]; rfl)) z1 z2 hn
    have k := scl_pow ok 1 1 (by decide) (by decide)
    have p : (1 : Int) * 12 ^ r.length ≤ 20736 := by
      have : r.length = 0 ∨ r.length = 1 ∨ r.length = 2 ∨ r.length = 3 ∨ r.length = 4 := by omega
      rcases this with z | z | z | z | z <;> rw [z] <;> decide
    exact Int.le_trans k p
  · exact not_small ok l4 q he z1 z2 n
end RL

namespace RL
open PySem L2
/-! ### data that repr shows, put together -/
structure Tame (w h : Nat) (d : PyData) : Prop where
  s : d.showable = true
  n : d.hasDict = false
  v : d.leavesShort 300 = true
  w_ : d.weight ≤ w
  d_ : d.depth ≤ h
theorem Tame.shows {w h : Nat} {d : PyData} (t : Tame w h d) (hw : w ≤ 10000 := by decide) (hh : h ≤ 40 := by decide) : Shows d := by
  refine ⟨t.s, t.n, Nat.le_trans t.d_ hh, ?_⟩
  have e := PyData.shown_le 300 (by decide) d t.v
  have := Nat.le_trans t.w_ hw
  rw [sizeLine_eq]
  omega
theorem Tame.mono {w h w' h' : Nat} {d : PyData} (t : Tame w h d) (hw : w ≤ w' := by decide) (hh : h ≤ h' := by decide) : Tame w' h' d := ⟨t.s, t.n, t.v, Nat.le_trans t.w_ hw, Nat.le_trans t.d_ hh⟩
theorem tame_int {i : Int} (h : Sm 200 i) : Tame 200 0 (.int i) := by
  obtain ⟨a, b, c⟩ := show_int h
  exact ⟨a, by simp only [PyData.hasDict], b, c, by simp only [PyData.depth]; exact Nat.le_refl _⟩
theorem tame_all {w h : Nat} : ∀ {xs : List PyData}, (∀ d ∈ xs, Tame w h d) → PyData.showableAll xs = true ∧ PyData.hasDictAll xs = false ∧ PyData.leavesShortAll 300 xs = true ∧ PyData.weightAll xs ≤ xs.length * (w + 1) ∧ PyData.depthAll xs ≤ h
  | [], _ => ⟨by simp only [PyData.showableAll], by simp only [PyData.hasDictAll], by simp only [PyData.leavesShortAll], by simp [PyData.weightAll], by simp [PyData.depthAll]⟩
  | x :: xs, H => by
    obtain ⟨a, b, c, d, e⟩ := H x List.mem_cons_self
    obtain ⟨a', b', c', d', e'⟩ := tame_all fun z hz => H z (List.mem_cons_of_mem _ hz)
    refine ⟨by simp only [PyData.showableAll, a, a', Bool.and_self], by simp only [PyData.hasDictAll, b, b', Bool.or_self], by simp only [PyData.leavesShortAll, c, c', Bool.and_self], ?_, ?_⟩
    · simp only [PyData.weightAll, List.length_cons]
      have : (xs.length + 1) * (w + 1) = xs.length * (w + 1) + (w + 1) := Nat.succ_mul _ _
      omega
    · simp only [PyData.depthAll]
      omega
theorem tame_lst {w h : Nat} {xs : List PyData} (H : ∀ d ∈ xs, Tame w h d) : Tame (xs.length * (w + 1)) (h + 1) (.list xs) := by
  obtain ⟨a, b, c, d, e⟩ := tame_all H
  exact ⟨by simp only [PyData.showable, a], by simp only [PyData.hasDict, b], by simp only [PyData.leavesShort, c], by simp only [PyData.weight]; exact d, by simp only [PyData.depth]; omega⟩
theorem tame_l2 {w h : Nat} {x y : PyData} (hx : Tame w h x) (hy : Tame w h y) : Tame (2 * (w + 1)) (h + 1) (.list [x, y]) := tame_lst (xs := [x, y]) fun d hd => by
  simp only [List.mem_cons, List.not_mem_nil, or_false] at hd
  rcases hd with rfl | rfl
  · exact hx
  · exact hy
end RL

/-! Data that repr shows, with long integers. -/
namespace RL
open PySem
structure TamB (w h : Nat) (d : PyData) : Prop where
  s : d.showable = true
  n : d.hasDict = false
  v : d.leavesShort 1800 = true
  w_ : d.bulk ≤ w
  d_ : d.depth ≤ h
theorem TamB.shows {w h : Nat} {d : PyData} (t : TamB w h d) (hw : w ≤ 5000 := by decide) (hh : h ≤ 40 := by decide) : Shows d := by
  refine ⟨t.s, t.n, Nat.le_trans t.d_ hh, ?_⟩
  have e := PyData.shown_le_bulk 1800 (by decide) d t.v
  have := Nat.le_trans t.w_ hw
  rw [sizeLine_eq]
  omega
theorem TamB.mono {w h w' h' : Nat} {d : PyData} (t : TamB w h d) (hw : w ≤ w' := by decide) (hh : h ≤ h' := by decide) : TamB w' h' d := ⟨t.s, t.n, t.v, Nat.le_trans t.w_ hw, Nat.le_trans t.d_ hh⟩
end RL

set_option maxHeartbeats 2000000
/-! for in the body of a generator. -/
namespace PySem
section
variable {M : Model} {A : Around} {R : GenEnd} {Y : Protocol} {n : Nat} {s₀ : Shared} {c : Code} {fs : List Frame} {s : Shared} {env : Env}
  {K : Flow → Sem Fin} {J : Value → Sem Fin} {gd : Bool → Bool} {lv : List Value → List Value}
end
section
variable {prog : Program} {w : World} {A : Around} {R : GenEnd} {Y : Protocol} {n : Nat} {s₀ : Shared} {fs : List Frame} {s : Shared} {env : Env}
def notedR (env : Env) (e : Value) : Sem Fin := (do noteFrame e env; theTreesLotGoes e : Sem Unit).wrap (fun _ => .raise e) .raise id id
end
end PySem
namespace L2
open PySem PySem.Spec PyProof.Rows GenW
section
variable {X : Cx} {tg : Expr}
def tGFor (wi : TI) (g : TG) (tb : TGn) : TGn := fun D ys σ H => wi σ H fun J H1 => ∃ W : Nat → Nat → List V → St → Hp → Prop, (∃ m, W 0 m ys σ H1) ∧ ∀ i m ys σ H, W i m ys σ H →
  (J.stop i H ∧ D.nx ys σ H) ∨ (J.go i H ∧ ∃ N : List V → St → Hp → Prop, (∀ ys' σ' H', N ys' σ' H' → ∃ m', m' < m ∧ W (i + 1) m' ys' σ' H') ∧ ∀ x H', J.yld i H x H' → g x σ H' fun σ2 H2 => tb { D with nx := N, ct := N, bk := D.nx } ys σ2 H2)
end
end L2

set_option maxHeartbeats 2000000
/-! Generator methods: by keyword; no exception leaves them. -/
namespace RL
open PySem L2 PySem.Spec PyProof.Rows GenW
section
variable {X : Cx} {k : Nat} {f C : Addr} {fd : FuncData} {sp : SpG} {m p1 kw : Str} {pos' apos kpos : Pos} {o e : Expr} {ta : TE} {tk : TA}
structure MtG (P : Program) (w : World) (K : PySem.W.Frag) (mg : Str → Option Value) (base : Heap) (C : Addr) (k : Nat) (m p1 kw : Str) (sp : SpG) : Prop where
  ex : ∃ (f : Addr) (fd : FuncData), GFn P w K mg base k f fd [p1, kw] sp ∧ Meth K C m f ∧ Binds K fd [p1, kw] [] ∧ (∀ (s : Shared) (u v : Value), K.In s.heap → BindsTo s fd ⟨[u], [(kw, v)]⟩ [(p1, u), (kw, v)])
def tMethGK (C : Addr) (m : Str) (sp : SpG) (E : XK) (ta : TE) (t : TA) : TGen := fun σ H cont => ta σ H fun x H1 => ∃ a dx fs, x = .ref a ∧ H1 a = some (.ins C dx fs) ∧ fs.lookup m = none ∧ t σ H1 fun zs H2 => ∃ y, zs = [y] ∧ sp [x, y] H2 cont E
end
end RL

/-! How large the numbers of a ladder are, section by section. -/
namespace RL
theorem matR_sm15 {r : List Pc} (hr : RowOk r) (l4 : r.length ≤ 4) : MxSm 15 (matR r) := by
  have h := fold_le (N := 1) hr (m := m1) ⟨by decide, by decide, by decide, by decide, by decide, by decide, by decide, by decide⟩
  have b : (13 : Int) ^ r.length * 1 ≤ 28561 := by
    have : ∀ n : Nat, n ≤ 4 → (13 : Int) ^ n * 1 ≤ 28561 := fun n hn => by
      match n, hn with
      | 0, _ => decide
      | 1, _ => decide
      | 2, _ => decide
      | 3, _ => decide
      | 4, _ => decide
    exact this _ l4
  obtain ⟨a0, a1, b0, b1, c0, c1, d0, d1⟩ := h
  have k : ∀ {x : Int}, 0 ≤ x → x ≤ (13 : Int) ^ r.length * 1 → Sm 15 x := fun {x} h0 h1 => by
    unfold Sm
    have : (2 : Nat) ^ 15 = 32768 := by decide
    omega
  exact ⟨k a0 a1, k b0 b1, k c0 c1, k d0 d1⟩
theorem app_smk {m : Mx} {n k : Nat} {e : Int × Int} (hm : MxSm n m) (h1 : Sm k e.1) (h2 : Sm k e.2) : Sm (k + (n + 1)) (m.app e).1 ∧ Sm (k + (n + 1)) (m.app e).2 := by
  obtain ⟨a, b, c, d⟩ := hm
  unfold Mx.app
  dsimp
  exact ⟨(Sm.add (n := n + k) (a.mul h1) (b.mul h2)).mono (by omega), (Sm.add (n := n + k) (c.mul h1) (d.mul h2)).mono (by omega)⟩
theorem appN_sm15 {r : List Pc} {e : Int × Int} {k : Nat} (hr : RowOk r) (l4 : r.length ≤ 4) (h1 : Sm k e.1) (h2 : Sm k e.2) : ∀ n, Sm (k + 16 * n) (appN (matR r) n e).1 ∧ Sm (k + 16 * n) (appN (matR r) n e).2
  | 0 => ⟨h1, h2⟩
  | n + 1 => by
    obtain ⟨i1, i2⟩ := appN_sm15 hr l4 h1 h2 n
    obtain ⟨j1, j2⟩ := app_smk (matR_sm15 hr l4) i1 i2
    exact ⟨j1.mono (by omega), j2.mono (by omega)⟩
def Short (r : List Pc) (n : Nat) : Prop := (r.length ≤ 4 ∧ n ≤ 101) ∨ (r.length ≤ 8 ∧ n ≤ 26)
theorem Short.le {r : List Pc} {n k : Nat} (h : Short r n) (hk : k ≤ n) : Short r k := by
  unfold Short at *
  omega
theorem Short.l8 {r : List Pc} {n : Nat} (h : Short r n) : r.length ≤ 8 := by
  unfold Short at h
  omega
def shN (r : List Pc) (e : Int × Int) (n : Nat) : Int × Int := low (appN (matR r) n e)
theorem shN_sm {r : List Pc} {e : Int × Int} {n : Nat} (hr : RowOk r) (he : Pos2 e) (h1 : Sm 41 e.1) (h2 : Sm 41 e.2) (h : Short r n) : Sm 1700 (shN r e n).1 ∧ Sm 1700 (shN r e n).2 := by
  have P := appN_pos hr he n
  rcases h with ⟨l4, hn⟩ | ⟨l8, hn⟩
  · obtain ⟨i1, i2⟩ := appN_sm15 hr l4 h1 h2 n
    exact low_sm P (i1.mono (by omega)) (i2.mono (by omega))
  · obtain ⟨i1, i2⟩ := appN_sm hr l8 h1 h2 n
    exact low_sm P (i1.mono (by omega)) (i2.mono (by omega))
theorem shN_pos {r : List Pc} {e : Int × Int} (hr : RowOk r) (he : Pos2 e) (n : Nat) : Pos2 (shN r e n) := low_pos (appN_pos hr he n)
theorem shN_low {r : List Pc} {e : Int × Int} (hr : RowOk r) (he : Pos2 e) (n : Nat) : low (shN r e n) = shN r e n := low_low (appN_pos hr he n)
theorem shN_succ {r : List Pc} {e : Int × Int} (hr : RowOk r) (he : Pos2 e) (n : Nat) : low ((matR r).app (shN r e n)) = shN r e (n + 1) := low_app (appN_pos hr he n)
theorem shN_front {r : List Pc} {e : Int × Int} (hr : RowOk r) (he : Pos2 e) (n : Nat) : low (frtR r (shN r e n)) = shN r e (n + 1) := by
  rw [low_frt hr (shN_pos hr he n)]
  exact shN_succ hr he n
theorem shN_zero {r : List Pc} {e : Int × Int} (hl : low e = e) : shN r e 0 = e := hl
def goB (e f : Int × Int) : Int := if below e f = true then 1 else if below f e = true then -1 else 0
end RL

set_option maxHeartbeats 4000000
namespace RL
open PySem L2 PySem.Spec PyProof.Rows
theorem low_cop {w l : Int} (h : gc w l = 1) : low (w, l) = (w, l) := by
  unfold low
  dsimp only
  rw [h, Int.ediv_one, Int.ediv_one]
def spBelow : Sp := fun vs H Q _ => ∃ (a b : Addr) (e f : Int × Int), vs = [.ref a, .ref b] ∧ PairAt H a e ∧ PairAt H b f ∧ Sm 4000 e.1 ∧ Sm 4000 e.2 ∧ Sm 4000 f.1 ∧ Sm 4000 f.2 ∧ Q (.bl (below e f)) H
def PairsAt (H : Hp) (vs : List V) (es : List (Int × Int)) : Prop := vs.length = es.length ∧ ∀ (i : Nat) (e : Int × Int), es[i]? = some e → ∃ t, vs[i]? = some (.ref t) ∧ PairAt H t e
theorem PairsAt.same {H H' : Hp} {vs : List V} {es : List (Int × Int)} (h : PairsAt H vs es) (s : Same H H') : PairsAt H' vs es := ⟨h.1, fun i e he => let ⟨t, ht, q⟩ := h.2 i e he; ⟨t, ht, s _ _ q⟩⟩
theorem PairsAt.but {H H' : Hp} {x : Addr} {vs : List V} {es : List (Int × Int)} (h : PairsAt H vs es) (s : But x H H') (hx : ∀ xs, H x ≠ some (.tup xs)) : PairsAt H' vs es :=
  ⟨h.1, fun i e he => let ⟨t, ht, q⟩ := h.2 i e he; ⟨t, ht, s _ _ (fun z => hx _ (z ▸ q)) q⟩⟩
theorem PairsAt.snoc {H : Hp} {vs : List V} {es : List (Int × Int)} {t : Addr} {e : Int × Int} (h : PairsAt H vs es) (ht : PairAt H t e) : PairsAt H (vs ++ [.ref t]) (es ++ [e]) := by
  refine ⟨by rw [List.length_append, List.length_append, h.1]; rfl, fun i f hf => ?_⟩
  by_cases hi : i < es.length
  · rw [List.getElem?_append_left hi] at hf
    obtain ⟨u, hu, q⟩ := h.2 i f hf
    exact ⟨u, by rw [List.getElem?_append_left (by rw [h.1]; exact hi)]; exact hu, q⟩
  · rw [List.getElem?_append_right (by omega)] at hf
    have h0 : i - es.length = 0 := by
      have := (List.getElem?_eq_some_iff.mp hf).1
      simp at this
      omega
    rw [h0] at hf
    cases hf
    exact ⟨t, by rw [List.getElem?_append_right (by rw [h.1]; omega), h.1, h0]; rfl, ht⟩
def shL (r : List Pc) (e : Int × Int) (n : Nat) : List (Int × Int) := (List.range n).map (shN r e)
theorem shL_succ (r : List Pc) (e : Int × Int) (n : Nat) : shL r e (n + 1) = shL r e n ++ [shN r e n] := by
  unfold shL
  rw [List.range_succ, List.map_append]
  rfl
theorem shL_len (r : List Pc) (e : Int × Int) (n : Nat) : (shL r e n).length = n := by
  unfold shL
  rw [List.length_map, List.length_range]
theorem shL_at {r : List Pc} {e : Int × Int} {n i : Nat} (h : i < n) : (shL r e n)[i]? = some (shN r e i) := by
  unfold shL
  rw [List.getElem?_map, List.getElem?_range h]
  rfl
def spWalk : Sp := fun vs H Q _ => ∃ (a p : Addr) (r : List Pc) (e : Int × Int) (n : Nat), vs = [.ref a, .ref p, .int (n : Int)] ∧ RowL H a r ∧ RowOk r ∧ Short r n ∧ PairAt H p e ∧ Pos2 e ∧ low e = e ∧ Sm 41 e.1 ∧ Sm 41 e.2 ∧
  ∀ H' l ys, Same H H' → H' l = some (.lst ys) → PairsAt H' ys (shL r e (n + 1)) → Q (.ref l) H'
def spEndL : Sp := fun vs H Q _ => ∃ c : Addr, vs = [.ref c] ∧ CupAt c H ∧ ∀ H' t e, But c H H' → CupAt c H' → PairAt H' t e → ResP e.1 e.2 → low e = e → Drawn e → Q (.ref t) H'
theorem make_lad {C aO Ce Cl : Addr} {H : Hp} {x z dz : Addr} {v : V} {r : List Pc} {e : Int × Int} {Q : Hp → Prop} (nz : H z = none) (ndz : H dz = none) (hx : PatAt C H x r) (hok : RowOk r) (l8 : r.length ≤ 8) (hL : LoadAt H v e) (k : ∀ H', Same H H' → LadAt C aO Ce Cl H' z r (low e) → Q H') :
    spLad C aO Ce Cl [.ref z, .ref x, v] (upd (upd H dz (.own z)) z (.ins Cl dz [])) (fun v H3 => v = .non ∧ Q H3) E0 := by
  have s0 : Same H (upd (upd H dz (.own z)) z (.ins Cl dz [])) := fun b o e => by
    rw [upd_ne (ne_of_none e nz), upd_ne (ne_of_none e ndz)]
    exact e
  refine ⟨z, dz, x, v, r, e, rfl, upd_same, hx.same s0, hok, l8, ?_, fun H' bz hE => ⟨rfl, k H' (fun b' o e => bz _ _ (ne_of_none e nz) (s0 _ _ e)) hE⟩⟩
  rcases hL with ⟨i, e1, h1, h2, h3⟩ | ⟨p, e1, hp, hR⟩
  · exact .inl ⟨i, e1, h1, h2, h3⟩
  · exact .inr ⟨p, e1, s0 _ _ hp, hR⟩
section
variable {P : Program} {w : World} {K : PySem.W.Frag} {mg : Str → Option Value} {base : Heap} {tG t1 t2 t3 tP tC : Tok} {aO aW J C Ce Cl fP fJ : Addr} {fdJ : FuncData}
abbrev s_law_below : Stmt := top 89
theorem low_drawn {t b : Int} (t0 : 0 ≤ t) (b0 : 1 ≤ b) (b1 : b ≤ 30) : Drawn (low (t, b)) := by
  have p : Pos2 (t, b) := ⟨t0, by show 0 ≤ b; omega, .inr (by show 0 < b; omega)⟩
  have g := gc_pos2 p
  have h := congrArg Prod.snd (low_is p)
  have e : b = gc t b * (low (t, b)).2 := h
  have l := (low_pos p).2.1
  have z := Int.mul_le_mul_of_nonneg_right (show 1 ≤ gc t b from g) l
  refine .inr (.inr (.inl ⟨?_, by omega⟩))
  rcases Int.lt_or_le 0 (low (t, b)).2 with q | q
  · exact q
  · have q : (low (t, b)).2 = 0 := by omega
    rw [q] at e
    omega
theorem ok_endL {f : Addr} {fd : FuncData} (F : Fun K "_law_end" "_law_end" s_law_end f fd) (D_law_sip : Df P w K mg base 1 "_law_sip" ["_law_cup_here", "_law_many"] spSip) (D_law_pair : Df P w K mg base 1 "_law_pair" ["_law_top", "_law_bottom"] spPair) : FnOk P w K mg base CX0 2 f fd ["_law_cup_here"] spEndL := by
  refine F.ok sc_law_end (fun vs H Q E h => ?_) (fun cdv A outer s H vs Q E hr h => ?_)
  · obtain ⟨c, rfl, _⟩ := h
    rfl
  · obtain ⟨c, rfl, hc, k⟩ := h
    refine ⟨_, (pss_cons (ps_par (by rfl) sc_law_end.nd (i := 1) (j := 2) rfl rfl (by decide) rfl rfl (pa_cons (pe_df D_law_sip (hr.mono (by decide)) (by rfl) (pa_cons (pv 0) (pa_cons pe_int pa_nil))) (pa_cons (pe_op op_add pe_int (pe_df D_law_sip (hr.mono (by decide)) (by rfl) (pa_cons (pv 0) (pa_cons pe_int pa_nil)))) pa_nil)) (by rfl))
      (pss_cons (ps_if (pt_cmpR op_lt (pv 1) pe_int (nomark _)) (pss_one (ps_ret (pe_ix ix_list (pe_lst (pa_cons (pe_tup (pa_cons pe_int (pa_cons pe_int pa_nil))) (pa_cons (pe_tup (pa_cons pe_int (pa_cons pe_int pa_nil))) pa_nil))) (pv 1) (fun _ _ => rfl)))) pss_nil)
      (pss_cons (ps_if (pt_cmpR op_lt (pv 1) pe_int (nomark _)) (pss_one (ps_ret (pe_df D_law_pair (hr.mono (by decide)) (by rfl) (pa_cons (pe_df D_law_sip (hr.mono (by decide)) (by rfl) (pa_cons (pv 0) (pa_cons pe_int pa_nil))) (pa_cons (pv 2) pa_nil))))) pss_nil)
      (pss_one (ps_ret (pe_ix ix_list (pe_lst (pa_cons (pe_df D_law_pair (hr.mono (by decide)) (by rfl) (pa_cons (pv 2) (pa_cons (pe_op op_add pe_int (pe_df D_law_sip (hr.mono (by decide)) (by rfl) (pa_cons (pv 0) (pa_cons pe_int pa_nil)))) pa_nil))) (pa_cons (pe_df D_law_pair (hr.mono (by decide)) (by rfl) (pa_cons (pe_op op_sub (pe_op op_pow pe_int pe_int) (pv 2)) (pa_cons (pv 2) pa_nil))) (pa_cons (pe_tup (pa_cons pe_int (pa_cons (pe_op op_add (pe_op op_pow pe_int pe_int) (pv 2)) pa_nil))) pa_nil)))) (pe_op op_sub (pv 1) pe_int) (fun _ _ => rfl))))))), ?_⟩
    have e12 : (10 : Int) ^ Int.toNat 12 = 1000000000000 := by decide
    have e6 : (10 : Int) ^ Int.toNat 6 = 1000000 := by decide
    have sm : ∀ z : Int, 0 ≤ z → z ≤ 1000000000000 → Sm 4000 z := fun z h1 h2 => (sm_lt (n := 41) h1 (by
      have e : (2 : Int) ^ 41 = 2199023255552 := by decide
      rw [e]
      omega)).mono (by decide)
    refine ⟨_, rfl, c, 8, rfl, hc, by decide, (by unfold Sm; decide), fun H1 wy b1 hc1 w0 w1 => ⟨_, rfl, c, 30, rfl, hc1, by decide, (by unfold Sm; decide), fun H2 sl b2 hc2 s0 s1 => ⟨_, _, rfl, rfl, _, _, rfl, ?_⟩⟩⟩
    have b12 := b1.trans b2
    refine ⟨_, rfl, _, _, rfl, rfl, _, rfl, ite2 (fun e => ?_) (fun e => ?_)⟩
    · have e0 : wy < 2 := of_decide_eq_true e
      refine ⟨(by show 2 ≤ sizeLine; decide), fun t1 nt1 => ⟨(by show 2 ≤ sizeLine; decide), fun t2 nt2 => ⟨(by show 2 ≤ sizeLine; decide), fun l nl => ⟨_, rfl, ?_⟩⟩⟩⟩
      have q1 := same_upd (o := .tup [.int 0, .int 1]) nt1
      have q2 := same_upd (o := .tup [.int 1, .int 0]) nt2
      have q3 := same_upd (o := .lst [.ref t1, .ref t2]) nl
      have q123 := (q1.trans q2).trans q3
      have hl : (upd (upd (upd H2 t1 (.tup [.int 0, .int 1])) t2 (.tup [.int 1, .int 0])) l (.lst [.ref t1, .ref t2])) l = some (.lst [.ref t1, .ref t2]) := upd_same
      have g1 : (upd (upd (upd H2 t1 (.tup [.int 0, .int 1])) t2 (.tup [.int 1, .int 0])) l (.lst [.ref t1, .ref t2])) t1 = some (.tup [.int 0, .int 1]) := q3 _ _ (q2 _ _ upd_same)
      have g2 : (upd (upd (upd H2 t1 (.tup [.int 0, .int 1])) t2 (.tup [.int 1, .int 0])) l (.lst [.ref t1, .ref t2])) t2 = some (.tup [.int 1, .int 0]) := q3 _ _ upd_same
      rcases (show wy = 0 ∨ wy = 1 by omega) with rfl | rfl
      · exact ⟨l, _, _, _, rfl, rfl, SqL.of hl, atI_nat (j := 0) rfl, k _ t1 (0, 1) (b12.trans (But.of q123)) (hc2.same q123) g1 (.inl ⟨by decide, by decide, by decide, by decide⟩) (by decide +kernel) (.inl rfl)⟩
      · exact ⟨l, _, _, _, rfl, rfl, SqL.of hl, atI_nat (j := 1) rfl, k _ t2 (1, 0) (b12.trans (But.of q123)) (hc2.same q123) g2 (.inr ⟨rfl, rfl⟩) (by decide +kernel) (.inr (.inl rfl))⟩
    have e0 : ¬ wy < 2 := fun z => e (decide_eq_true z)
    refine ⟨_, rfl, _, _, rfl, rfl, _, rfl, ite2 (fun e => ?_) (fun e => ?_)⟩
    · refine ⟨_, rfl, c, 40, rfl, hc2, by decide, (by unfold Sm; decide), fun H3 t b3 hc3 t0 t1 => ⟨_, rfl, t, 1 + sl, rfl, ⟨t0, by show 0 ≤ 1 + sl; omega, .inr (by show 0 < 1 + sl; omega)⟩, sm _ t0 (by omega), sm _ (by omega) (by omega), fun H4 p s4 np hp => ?_⟩⟩
      exact k _ p (low (t, 1 + sl)) ((b12.trans b3).trans (But.of s4)) (hc3.same s4) hp (low_res t0 (by omega) (by omega) (by omega)) (low_low ⟨t0, by show 0 ≤ 1 + sl; omega, .inr (by show 0 < 1 + sl; omega)⟩) (low_drawn t0 (by omega) (by omega))
    have e1 : ¬ wy < 5 := fun z => e (decide_eq_true z)
    refine ⟨_, rfl, _, rfl, c, 9, rfl, hc2, by decide, (by unfold Sm; decide), fun H3 n b3 hc3 n0 n1 => ⟨_, _, rfl, rfl, 1 + sl, 1 + n, rfl, ⟨by show 0 ≤ 1 + sl; omega, by show 0 ≤ 1 + n; omega, .inr (by show 0 < 1 + n; omega)⟩, sm _ (by omega) (by omega), sm _ (by omega) (by omega), fun H4 p1 s4 np1 hp1 => ?_⟩⟩
    refine ⟨_, _, rfl, rfl, ⟨by decide, by decide, by decide⟩, _, rfl, _, _, rfl, rfl, _, rfl, (10 : Int) ^ Int.toNat 12 - (1 + sl), 1 + sl, rfl, ?_⟩
    rw [e12]
    refine ⟨⟨by show 0 ≤ 1000000000000 - (1 + sl); omega, by show 0 ≤ 1 + sl; omega, .inr (by show 0 < 1 + sl; omega)⟩, sm _ (by omega) (by omega), sm _ (by omega) (by omega), fun H5 p2 s5 np2 hp2 => ?_⟩
    refine ⟨_, _, rfl, rfl, ⟨by decide, by decide, by decide⟩, _, rfl, _, _, rfl, rfl, (by show 2 ≤ sizeLine; decide), fun p3 np3 => ?_⟩
    rw [e6]
    refine ⟨(by show 3 ≤ sizeLine; decide), fun l nl => ⟨_, rfl, _, _, rfl, rfl, ?_⟩⟩
    have q3 := same_upd (o := .tup [.int 1, .int (1000000 + (1 + sl))]) np3
    have q4 := same_upd (o := .lst [.ref p1, .ref p2, .ref p3]) nl
    have hl : (upd (upd H5 p3 (.tup [.int 1, .int (1000000 + (1 + sl))])) l (.lst [.ref p1, .ref p2, .ref p3])) l = some (.lst [.ref p1, .ref p2, .ref p3]) := upd_same
    have g3 : (upd (upd H5 p3 (.tup [.int 1, .int (1000000 + (1 + sl))])) l (.lst [.ref p1, .ref p2, .ref p3])) p3 = some (.tup [.int 1, .int (1000000 + (1 + sl))]) := q4 _ _ upd_same
    have q34 := q3.trans q4
    have bb := (b12.trans b3).trans (But.of ((s4.trans s5).trans q34))
    have hcc := hc3.same ((s4.trans s5).trans q34)
    rcases (show wy = 5 ∨ wy = 6 ∨ wy = 7 by omega) with rfl | rfl | rfl
    · exact ⟨l, _, _, _, rfl, rfl, SqL.of hl, atI_nat (j := 0) rfl, k _ p1 _ bb hcc ((s5.trans q34) _ _ hp1) (low_res (by omega) (by omega) (by omega) (by omega)) (low_low ⟨by show 0 ≤ 1 + sl; omega, by show 0 ≤ 1 + n; omega, .inr (by show 0 < 1 + n; omega)⟩) (low_drawn (by omega) (by omega) (by omega))⟩
    · exact ⟨l, _, _, _, rfl, rfl, SqL.of hl, atI_nat (j := 1) rfl, k _ p2 _ bb hcc (q34 _ _ hp2) (low_res (by omega) (by omega) (by omega) (by omega)) (low_low ⟨by show 0 ≤ 1000000000000 - (1 + sl); omega, by show 0 ≤ 1 + sl; omega, .inr (by show 0 < 1 + sl; omega)⟩) (low_drawn (by omega) (by omega) (by omega))⟩
    · exact ⟨l, _, _, _, rfl, rfl, SqL.of hl, atI_nat (j := 2) rfl, k _ p3 (1, 1000000 + (1 + sl)) bb hcc g3 (.inl ⟨by dsimp; omega, by dsimp; omega, by dsimp; omega, by dsimp; omega⟩) (low_cop (by show ((Int.gcd 1 (1000000 + (1 + sl)) : Nat) : Int) = 1; rw [Int.gcd_comm, Int.gcd_one]; rfl)) (.inr (.inr (.inr ⟨rfl, by show 1000000 ≤ 1000000 + (1 + sl); omega⟩)))⟩
theorem sc_law_walk : FnScope ["_law_row_here", "_law_pair_here", "_law_many", "_law_found", "_law_turn"] ["_law_row_here", "_law_pair_here", "_law_many"] (defScope s_law_walk) := ⟨rfl, rfl, rfl, by decide +kernel, rfl, by decide +kernel, by decide +kernel⟩

theorem ok_walk {f : Addr} {fd : FuncData} (F : Fun K "_law_walk" "_law_walk" s_law_walk f fd) (T : Txt K mg) (D_law_front : Df P w K mg base 2 "_law_front" ["_law_row_here", "_law_pair_here"] spFront) : FnOk P w K mg base CX0 3 f fd ["_law_row_here", "_law_pair_here", "_law_many"] spWalk := by
  refine F.ok sc_law_walk (fun vs H Q E h => ?_) (fun cdv A outer s H vs Q E hr h => ?_)
  · obtain ⟨a, p, r, e, n, rfl, _⟩ := h
    rfl
  · obtain ⟨a, p, r, e, n, rfl, hR, hok, hSh, hp, ep, el, e1, e2, k⟩ := h
    refine ⟨_, (pss_cons (ps_set (i := 3) sc_law_walk.nd rfl (.inl rfl) (pe_lst (pa_cons (pv 1) pa_nil)))
      (pss_cons (ps_for PassesOwn.never rfl (pi_range1 rfl T.range (pa_cons (pv 2) pa_nil)) (pg_name (i := 4) sc_law_walk.nd rfl (.inl rfl)) (pss_one (ps_expr (pe_bm PySem.F.plainAttrs_list PySem.F.slot_list_append PySem.F.type_list_append mt_append (pv 3) (pa_cons (pe_df D_law_front (hr.mono (by decide)) (by rfl) (pa_cons (pv 0) (pa_cons (pe_ix ix_list (pv 3) (pe_un un_neg pe_int) (fun _ _ => rfl)) pa_nil))) pa_nil)))))
      (pss_one (ps_ret (pv 3))))), ?_⟩
    have l8 := hSh.l8
    have n101 : n ≤ 101 := by unfold Short at hSh; omega
    refine ⟨_, rfl, (by show 1 ≤ sizeLine; decide), fun l nl => ?_⟩
    have s1 := same_upd (o := .lst [.ref p]) nl
    refine ⟨_, rfl, (n : Int), rfl, by omega, by omega, ?_⟩
    have z0 : PairsAt (upd H l (.lst [.ref p])) [.ref p] (shL r e 1) := by
      have h0 : PairsAt (upd H l (.lst [.ref p])) [] [] := ⟨rfl, fun i e z => by simp at z⟩
      have := h0.snoc (t := p) (e := e) (s1 _ _ hp)
      rw [shL_succ, shN_zero el]
      exact this
    refine for_range (lo := 0) (n := Int.toNat (n : Int)) (fun i σ H' => Same H H' ∧ (∃ v, σ = [some (.ref a), some (.ref p), some (.int (n : Int)), some (.ref l), v]) ∧ ∃ ys, H' l = some (.lst ys) ∧ PairsAt H' ys (shL r e (i + 1))) ⟨s1, ⟨none, rfl⟩, _, upd_same, z0⟩ ?_ ?_
    · rintro i σ H2 hi ⟨s2, ⟨v, rfl⟩, ys, hl, hys⟩
      have hi : i < n := by omega
      obtain ⟨t, ht, hpt⟩ := hys.2 i (shN r e i) (shL_at (by omega))
      have ly : ys.length = i + 1 := by rw [hys.1, shL_len]
      obtain ⟨us, rfl⟩ : ∃ us, ys = us ++ [.ref t] := by
        refine ⟨ys.take i, ?_⟩
        have := List.take_append_drop i ys
        have d : ys.drop i = [.ref t] := by
          rw [List.drop_eq_getElem_cons (by omega)]
          have g : ys[i] = .ref t := by
            have := List.getElem?_eq_getElem (l := ys) (i := i) (by omega)
            rw [ht] at this
            exact (Option.some.inj this).symm
          rw [g, List.drop_eq_nil_of_le (by omega)]
        rw [← d]
        exact this.symm
      obtain ⟨m1, m2⟩ := shN_sm hok ep e1 e2 (hSh.le (show i ≤ n by omega))
      refine ⟨_, rfl, .inl ⟨rfl, _, SqL.of hl⟩, _, rfl, _, rfl, 1, rfl, l, _, _, _, rfl, rfl, SqL.of hl, atI_last _ _, a, t, r, shN r e i, rfl, hR.same s2, hok, l8, hpt, shN_pos hok ep i, m1.mono (by decide), m2.mono (by decide), fun H3 t' s3 nt' ht' => ?_⟩
      rw [shN_front hok ep i] at ht'
      have hl3 := s3 _ _ hl
      refine ⟨l, _, _, rfl, rfl, hl3, small1000 (by omega), ?_⟩
      have bl : But l H3 (upd H3 l (.lst (us ++ [.ref t] ++ [.ref t']))) := But.upd
      refine ⟨fun b o h => bl _ _ (ne_of_none h nl) (s3 _ _ (s2 _ _ h)), ⟨_, rfl⟩, _, upd_same, ?_⟩
      rw [shL_succ r e (i + 1)]
      exact ((hys.same s3).snoc ht').but bl (fun xs z => by rw [hl3] at z; cases z)
    · rintro σ H2 ⟨s2, ⟨v, rfl⟩, ys, hl, hys⟩
      rw [show Int.toNat (n : Int) = n by omega] at hys
      exact ⟨_, rfl, k _ l ys s2 hl hys⟩
end
end RL

set_option maxHeartbeats 2000000
/-! a def called by keywords in another order -/
namespace RL
open PySem L2 PySem.Spec PyProof.Rows
structure DfKw (P : Program) (w : World) (K : PySem.W.Frag) (mg : Str → Option Value) (base : Heap) (k : Nat) (x : Str) (ps ks : List Str) (g : List Value → List Value → List Value) (gV : List V → List V → List V) (sp : Sp) : Prop where
  ex : ∃ (f : Addr) (fd : FuncData), FnOk P w K mg base CX0 k f fd ps sp ∧ mg x = some (.ref f) ∧ PySem.W.keepIn K (.ref f) = true ∧ KBinds K fd ps ks g gV
def tCallKw (gV : List V → List V → List V) (sp : Sp) (tk : TA) : TE := fun σ H Q => tk σ H fun zs H2 => sp (gV [] zs) H2 Q E0
theorem pe_dfKw {X : Cx} {k : Nat} {x : Str} {ps ks : List Str} {g : List Value → List Value → List Value} {gV : List V → List V → List V} {sp : Sp} {p pos : Pos} {kws : List Keyword} {tk : TA} (D : DfKw X.prog X.w X.K X.mg X.base k x ps ks g gV sp) (hr : Room k X.A) (hg : Gl X x) (hkw : PK X kws tk)
    (hall : (backToKw pos (keywordEach kws X.env)).all (·.1.isSome) = true := by rfl) (hks : (backToKw pos (keywordEach kws X.env)).filterMap (·.1) = ks := by rfl) (hdb : (x == ("__debug__" : Str)) = false := by decide)
    (hpl : ((backTo pos (starEach [] X.env)).any (·.1) || (backToKw pos (keywordEach kws X.env)).any (·.1.isNone)) = false := by rfl) : PE X (.Call (.Name x p) [] kws pos) (tCallKw gV sp tk) := by
  obtain ⟨f, fd, F, hm, hk, hb⟩ := D.ex
  refine ⟨fun pins s σ H Q I h => ?_⟩
  refine wpAny_Call_Name_kw (ld_glob I hg hm ?_ hdb)
  refine PySem.W.callWith_KW0 (h₀ := X.base) I.ok.mod.kin hk hall (thn (hkw.run pos pins s σ H _ I h) fun ws s2 ⟨zs, H2, I2, rz, q2⟩ => ⟨I2.kIn, ?_⟩) hpl
  rw [hks]
  exact run_fnk (us := []) (vs := []) F hr hb pass0 I2 .nil rz q2
def gSwW {α : Type} : List α → List α → List α := fun us ws => match us, ws with | [], [x, y] => [y, x] | _, _ => []
theorem kb_swW {K : PySem.W.Frag} {fd : FuncData} {k1 k2 : Str} (h : ∀ (s : Shared) (x y : Value), BindsTo s fd ⟨[], [(k1, x), (k2, y)]⟩ [(k2, y), (k1, x)]) : KBinds K fd [k2, k1] [k1, k2] gSwW gSwW where
  to := fun s us ws _ hl => match us, ws, hl with
    | [], [x, y], _ => h s x y
  rel := fun {vs us zs ws} r rz => by
    cases r with
    | cons _ _ => exact .nil
    | nil =>
      cases rz with
      | nil => exact .nil
      | cons a rz =>
        cases rz with
        | nil => exact .nil
        | cons b rz =>
          cases rz with
          | nil => exact .cons b (.cons a .nil)
          | cons _ _ => exact .nil
def gRot {α : Type} : List α → List α → List α := fun us ws => match us, ws with | [], [z, x, y] => [x, y, z] | _, _ => []
end RL

set_option maxHeartbeats 4000000
namespace RL
open PySem L2 PySem.Spec PyProof.Rows
def CoOk (r : List Pc) (e b : Int × Int) : Option Nat → Prop
  | none => ∀ n, crs (appN (matR r) n e) b ≠ 0
  | some n => crs (appN (matR r) n e) b = 0 ∧ ∀ k, k < n → crs (appN (matR r) k e) b ≠ 0
theorem CoOk.uniq {r : List Pc} {e b : Int × Int} : ∀ {o o' : Option Nat}, CoOk r e b o → CoOk r e b o' → o = o'
  | none, none, _, _ => rfl
  | none, some n, h, h' => absurd h'.1 (h n)
  | some n, none, h, h' => absurd h.1 (h' n)
  | some n, some k, h, h' => by
    rcases Nat.lt_trichotomy n k with z | z | z
    · exact absurd h.1 (h'.2 n z)
    · rw [z]
    · exact absurd h'.1 (h.2 k z)
theorem co_of {r : List Pc} {e b : Int × Int} {o1 o2 : Option Nat} (ok : RowOk r) (n1 : 1 ≤ r.length) (he : Pos2 e) (hb : Pos2 b) (g0 : goR r e ≠ 0) (h1 : IsFirst r e b false o1) (h2 : IsFirst r e b true o2) : CoOk r e b (if o1 = o2 then none else o1) := by
  have zero : ∀ n, crs (appN (matR r) n e) b = 0 → holdB (goR r e) b false (appN (matR r) n e) = true ∧ holdB (goR r e) b true (appN (matR r) n e) = false := fun n z => by
    unfold holdB
    rw [z, Int.mul_zero]
    exact ⟨rfl, rfl⟩
  cases o1 with
  | none =>
    have : CoOk r e b none := fun n z => by
      have := (zero n z).1
      rw [never_hold ok n1 he hb g0 h1 n false] at this
      cases this
    split <;> exact this
  | some f =>
    cases o2 with
    | none => exact absurd h1.1 h2
    | some k =>
      by_cases fk : f = k
      · rw [if_pos (by rw [fk])]
        intro n z
        obtain ⟨a, c⟩ := zero n z
        rw [h1.2 n] at a
        rw [h2.2 n] at c
        have a := of_decide_eq_true a
        have c := of_decide_eq_false c
        omega
      · rw [if_neg (fun z => fk (Option.some.inj z))]
        have mono : ∀ n, holdB (goR r e) b true (appN (matR r) n e) = true → holdB (goR r e) b false (appN (matR r) n e) = true := fun n h => by
          unfold holdB at *
          rw [if_pos rfl] at h
          rw [if_neg (by decide)]
          have := of_decide_eq_true h
          exact decide_eq_true (by omega)
        have fk2 : f < k := by
          have a := mono k (by rw [h2.2 k]; exact decide_eq_true (Nat.le_refl _))
          rw [h1.2 k] at a
          have a := of_decide_eq_true a
          omega
        refine ⟨?_, fun j hj z => ?_⟩
        · have a := h1.2 f
          rw [decide_eq_true (Nat.le_refl f)] at a
          have c := h2.2 f
          rw [decide_eq_false (by omega)] at c
          unfold holdB at a c
          rw [if_neg (by decide)] at a
          rw [if_pos rfl] at c
          have a := of_decide_eq_true a
          have c := of_decide_eq_false c
          rcases go_pm g0 with g | g <;> rw [g] at a c <;> omega
        · have a := (zero j z).1
          rw [h1.2 j] at a
          have a := of_decide_eq_true a
          omega
theorem co_stay {r : List Pc} {e b : Int × Int} (ok : RowOk r) (he : Pos2 e) (hb : Pos2 b) (g0 : goR r e = 0) : CoOk r e b (if crs e b = 0 then some 0 else none) := by
  have s : ∀ n, crs (appN (matR r) n e) b = 0 ↔ crs e b = 0 := fun n => by
    have := same_side (appN_pos ok he n) he hb (stay_crs ok he g0 n)
    omega
  split
  · next z => exact ⟨z, fun k hk => absurd hk (Nat.not_lt_zero k)⟩
  · next z => exact fun n q => z ((s n).mp q)
def spCo (TT : List (Addr × Str)) (C aO Ce Cl : Addr) : Sp := fun vs H Q _ => ∃ (x : Addr) (v : V) (r : List Pc) (e b : Int × Int), vs = [.ref x, v] ∧ LadAt C aO Ce Cl H x r e ∧ LoadAt H v b ∧ LamX.Tabs TT H ∧ RowOk r ∧ 1 ≤ r.length ∧ KindOk r ∧ Pos2 e ∧ Sm 41 e.1 ∧ Sm 41 e.2 ∧
  ∀ H' o, LamX.ExtN H H' → LamX.Tabs TT H' → CoOk r e b o → Q (optV o) H'
theorem optV_inj {o o' : Option Nat} : decide (optV o = optV o') = decide (o = o') := by
  cases o <;> cases o' <;> simp [optV] <;> omega
section
variable {P : Program} {w : World} {K : PySem.W.Frag} {mg : Str → Option Value} {base : Heap} {tG t1 t2 t3 tP tC : Tok} {aO aW J C Ce Cl Cg Cs pg gg pl gl : Addr} {fg fl : FuncData} {TT : List (Addr × Str)}
theorem sc_count_of : FnScope ["run", "target", "pair", "reached"] ["run", "target"] (defScope s_count_of) := ⟨rfl, rfl, rfl, by decide +kernel, rfl, by decide +kernel, by decide +kernel⟩

theorem ok_countOf {f : Addr} {fd : FuncData} (F : Fun K "count_of" "count_of" s_count_of f fd) (T : TxtS K mg tG t1 t2 t3 tP tC aO aW J C Ce Cl Cg Cs) (OG : OwG P w K mg base C aO Ce Cl pg gg fg) (OLo : OwLo P w K mg base C aO Ce Cl pl gl fl)
    (D_check_run : Df P w K mg base 1 "check_run" ["value"] (spChkRun Cl)) (D_check_resistance : Df P w K mg base 4 "check_resistance" ["value"] spChkR) (D_pair_of : Df P w K mg base 2 "pair_of" ["fraction_or_open"] spPairOf) (D_pair_order : Df P w K mg base 2 "pair_order" ["first", "second"] (spPOK K))
    (D_first_reaching : Df P w K mg base 11 "first_reaching" ["run", "bound"] (spFirst TT C aO Ce Cl false)) (D_first_passing : Df P w K mg base 11 "first_passing" ["run", "bound"] (spFirst TT C aO Ce Cl true)) : FnOk P w K mg base CX0 12 f fd ["run", "target"] (spCo TT C aO Ce Cl) := by
  refine F.ok sc_count_of (fun vs H Q E h => ?_) (fun cdv A outer s H vs Q E hr h => ?_)
  · obtain ⟨x, v, r, e, b, rfl, _⟩ := h
    rfl
  · obtain ⟨x, v, r, e, b, rfl, hx, h1, hT, ok, n1, kd, pe, se1, se2, k⟩ := h
    refine ⟨_, (pss_cons (ps_expr (pe_df D_check_run (hr.mono (by decide)) (by rfl) (pa_cons (pv 0) pa_nil)))
      (pss_cons (ps_expr (pe_df D_check_resistance (hr.mono (by decide)) (by rfl) (pa_cons (pv 1) pa_nil)))
      (pss_cons (ps_set (i := 2) sc_count_of.nd rfl (.inl rfl) (pe_df D_pair_of (hr.mono (by decide)) (by rfl) (pa_cons (pv 1) pa_nil)))
      (pss_cons (ps_if (pt_cmpR op_eq (pe_prop (pv 0) T.clL OG.pr OG.ok (hr.mono (by decide)) OG.b .nil pass0 rfl) pe_int (nomark _)) (pss_one (ps_ret (pe_ifExp (pt_cmpR op_eq (pe_df D_pair_order (hr.mono (by decide)) (by rfl) (pa_cons (pe_prop (pv 0) T.clL OLo.pr OLo.ok (hr.mono (by decide)) OLo.b .nil pass0 rfl) (pa_cons (pv 2) pa_nil))) pe_int (nomark _)) pe_int pe_non))) pss_nil)
      (pss_cons (ps_set (i := 3) sc_count_of.nd rfl (.inl rfl) (pe_df D_first_reaching (hr.mono (by decide)) (by rfl) (pa_cons (pv 0) (pa_cons (pv 2) pa_nil))))
      (pss_one (ps_ret (pe_ifExp (pt_cmpR op_eq (pv 3) (pe_df D_first_passing (hr.mono (by decide)) (by rfl) (pa_cons (pv 0) (pa_cons (pv 2) pa_nil))) (nomark _)) pe_non (pv 3))))))))), ?_⟩
    obtain ⟨dx, p0, q0, v0, hix, _⟩ := id hx
    refine ⟨_, rfl, x, dx, _, rfl, hix, fun H1 s1 => ?_⟩
    refine ⟨_, rfl, v, b, rfl, h1.sameW s1, ?_⟩
    refine ⟨_, rfl, ?_⟩
    unfold tNil
    refine po_of (h1.sameW s1) fun H2 p1 s2 hp1 => ?_
    have s12 := s1.trans s2
    have hx2 := hx.same s12
    have q1 := (load_bnd h1).pos
    have m1 := (load_bnd h1).sm
    have ge : sg (((matR r).app e).1 * e.2 - e.1 * ((matR r).app e).2) = goR r e := rfl
    have l8 := kd.l8
    refine ⟨_, rfl, x, dx, _, rfl, s12 _ _ hix, x, r, e, rfl, hx2, ok, l8, se1.mono (by decide), se2.mono (by decide), fun H4 s4 => ?_⟩
    rw [ge]
    have hx4 := hx2.same s4
    have s04 := s12.trans s4
    have hp1' := s4 _ _ hp1
    have x04 : LamX.ExtN H H4 := .of s04
    have t04 := tabs_same hT s04
    refine ⟨rfl, _, rfl, ite2 (fun w => ?_) (fun w => ?_)⟩
    · have w0 : goR r e = 0 := V.int.inj (of_decide_eq_true w)
      have cs := co_stay ok pe q1 w0
      refine ⟨_, rfl, x, dx, _, rfl, s04 _ _ hix, x, r, e, rfl, hx4, fun pl hpl => ⟨_, rfl, ?_⟩⟩
      refine ⟨pl, p1, e, b, rfl, SqT.of hpl, SqT.of hp1', se1.mono (by decide), se2.mono (by decide), m1.1.mono (by decide), m1.2.mono (by decide), rfl, _, rfl, ite2 (fun c1 => ?_) (fun c1 => ?_)⟩
      · have c1 : sgn (crs e b) = 0 := V.int.inj (of_decide_eq_true c1)
        have z : crs e b = 0 := by
          have := @sgn_lt (crs e b)
          have := @sgn_gt (crs e b)
          omega
        rw [if_pos z] at cs
        exact k H4 (some 0) x04 t04 cs
      · have z : ¬ crs e b = 0 := fun z => c1 (decide_eq_true (by
          show V.int (sgn (crs e b)) = V.int 0
          rw [z]
          rfl))
        rw [if_neg z] at cs
        exact k H4 none x04 t04 cs
    · have g0 : goR r e ≠ 0 := fun z => w (decide_eq_true (by rw [z]))
      refine ⟨_, rfl, _, rfl, x, p1, r, e, b, rfl, hx4, hp1', t04, ok, n1, kd, pe, se1, se2, load_bnd h1, g0, fun H6 o1 x6 T6 i1 => ?_⟩
      have hx6 := hx4.ext x6
      refine ⟨_, rfl, _, rfl, _, rfl, x, p1, r, e, b, rfl, hx6, ext_tup x6 hp1', T6, ok, n1, kd, pe, se1, se2, load_bnd h1, g0, fun H7 o2 x7 T7 i2 => ?_⟩
      have cs := co_of ok n1 pe q1 g0 i1 i2
      have x07 := (x04.trans x6).trans x7
      refine ⟨?_, _, rfl, ite2 (fun c1 => ?_) (fun c1 => ?_)⟩
      · cases o1 <;> cases o2 <;> rfl
      · rw [optV_inj] at c1
        rw [if_pos (of_decide_eq_true c1)] at cs
        exact k H7 none x07 T7 cs
      · rw [optV_inj] at c1
        rw [if_neg (fun z => c1 (decide_eq_true z))] at cs
        exact ⟨_, rfl, k H7 o1 x07 T7 cs⟩
end
end RL

set_option maxHeartbeats 1000000
/-! max of a tuple -/
namespace PySem
section
variable {prog : Program} {w : World} {A : Around} {E : Value → Shared → Prop} {s : Shared} {l : Addr} {xs : Array (Int × Tok)}
theorem rl_max_intTup {Q : Value → Shared → Prop} (hh : A.handled = none) (hl : s.heap.IsTuple l (intItems xs)) (hne : 0 < xs.size)
    (h : ∀ v h' tk, (intItems xs)[argBest (fun i j => decide (numAt xs i > numAt xs j)) (xs.size - 1)]? = some v → (∀ b o, s.heap.get? b = some o → h'.get? b = some o) → Q v { s with heap := h', toks := tk }) :
    wpAny (model prog w) A (call (.builtin "max") [.ref l]) Q E s := by
  have hlt : l < s.heap.objs.size := by obtain ⟨_, e, _⟩ := hl; exact Heap.lt_size e
  refine call_max_walk (wpAny_pyIter_tuple hl ?_)
  refine ⟨_, _, _, _, _, _, _, rfl, Walks.tuple (A := A.in1) hh _ l (Nat.ne_of_lt hlt) (intItems xs), ⟨⟨_, Heap.get?_push_size _ rfl, rfl, rfl⟩, hl.push _⟩, (fun b hb => ?_), by simpa [intItems] using hne, CmpOf.ints_gt (numAt xs) (fun _ _ => intItems_at), fun v h' tk hP hk => ?_⟩
  · show b < (s.heap.push _).objs.size
    rw [Heap.size_push]
    rcases List.mem_cons.mp hb with rfl | hb
    · exact Nat.lt_succ_self _
    · rcases List.mem_cons.mp hb with rfl | hb
      · exact Nat.lt_succ_of_lt hlt
      · cases hb
  · refine h v h' tk (by simpa [intItems] using hP) fun b o e => hk b o (fun hm => ?_) (Heap.get?_push_of_some _ e)
    rcases List.mem_cons.mp hm with e1 | hm
    · exact absurd (e1 ▸ Heap.lt_size e) (Nat.lt_irrefl _)
    · cases hm
end
end PySem
namespace RL
open PySem L2 PyProof.Rows
theorem max_rawT {prog : Program} {w : World} {A : Around} {E : Value → Shared → Prop} {s : Shared} {l : Addr} {its : List Value} {ns : List Int} {Q : Value → Shared → Prop} (hh : A.handled = none) (hl : IsTup s.heap l its.toArray) (hi : IntsAre its ns) (hne : 0 < ns.length)
    (h : ∀ h' tk M t', (∀ b o, s.heap.get? b = some o → h'.get? b = some o) → M ∈ ns → (∀ a, a ∈ ns → a ≤ M) → Q (.int M t') { s with heap := h', toks := tk }) : wpAny (model prog w) A (call (.builtin "max") [.ref l]) Q E s := by
  obtain ⟨xs, e⟩ := hi.allInts.items
  have hn : numsOf (intItems xs).toList = ns := by rw [← e]; exact hi.numsOf
  rw [nums_intItems] at hn
  subst hn
  rw [e] at hl
  have hsz : 0 < xs.size := by simpa using hne
  refine PySem.rl_max_intTup hh hl hsz fun v h' tk hv hk => ?_
  obtain ⟨t, rfl⟩ := intItems_at hv
  obtain ⟨h1, h2⟩ := argBest_gt (numAt xs) (xs.size - 1)
  refine h h' tk _ t hk ?_ fun a ha => ?_
  · rw [numAt_eq]; exact PySem.getD_mem (by rw [List.length_map, Array.length_toList]; omega)
  · obtain ⟨j, hj, rfl⟩ := mem_getD ha
    rw [List.length_map, Array.length_toList] at hj
    rw [← numAt_eq]; exact h2 j (by omega)
def rMaxT (K : PySem.W.Frag) : List V → Hp → VK → Prop := fun vs H Q => ∃ (a : Addr) (ns : List Int), vs = [V.ref a] ∧ SqT K H a (ns.map V.int) ∧ 0 < ns.length ∧ ∀ m, m ∈ ns → (∀ y, y ∈ ns → y ≤ m) → Q (.int m) H
theorem cr_maxT {X : Cx} (hc : X.calm = true) : CallR X (.builtin "max") (rMaxT X.K) := by
  intro pins s σ H vs us Q I r h
  obtain ⟨a, ns, rfl, hs, hne, q⟩ := h
  obtain ⟨its, rv, hl, _⟩ := I.tuple hs
  rw [Vals.ref1 r]
  exact max_rawT (I.ok.hd hc) hl rv.ints hne fun h' tk m t' hk h1 h2 => ⟨.int _, H, I.kept hk, ⟨_, rfl⟩, q m h1 h2⟩
end RL

namespace RL
open PySem L2 PySem.Spec PyProof.Rows
theorem ix_listK {X : Cx} {K : PySem.W.Frag} (hK : X.K = K := by rfl) : IxR X (rIxL K) := by
  subst hK
  exact ix_list
end RL

set_option maxHeartbeats 4000000
namespace RL
open PySem L2 PySem.Spec PyProof.Rows
def spTold : Sp := fun vs H Q _ => ∃ (c p : Addr) (e : Int × Int), vs = [.ref c, .ref p] ∧ CupAt c H ∧ PairAt H p e ∧ ResP e.1 e.2 ∧
  ∀ H' v k, But c H H' → CupAt c H' → 0 < k → LoadAt H' v (sc k e) → Q v H'
theorem sc_one (e : Int × Int) : sc 1 e = e := by
  unfold sc
  ext <;> dsimp <;> omega
def spLines : Sp := fun vs H Q _ => ∃ c : Addr, vs = [.ref c] ∧ CupAt c H ∧ ∀ H' a r b, But c H H' → CupAt c H' → a ≠ c → RowL H' a r → RowOk r → 1 ≤ r.length → r.length ≤ 3 → OneW b r → Q (.ref a) H'
theorem low_side {x b : Int × Int} (hx : Pos2 x) : (0 ≤ crs (low x) b ↔ 0 ≤ crs x b) ∧ (crs (low x) b ≤ 0 ↔ crs x b ≤ 0) := by
  have g := gc_pos2 hx
  have e : crs x b = gc x.1 x.2 * crs (low x) b := by
    have := crs_scK1 (gc x.1 x.2) (low x) b
    rw [← low_is hx] at this
    exact this
  rw [e]
  refine ⟨⟨fun h => Int.mul_nonneg (Int.le_of_lt g) h, fun h => ?_⟩, ⟨fun h => Int.mul_nonpos_of_nonneg_of_nonpos (Int.le_of_lt g) h, fun h => ?_⟩⟩
  · rcases Int.lt_or_le (crs (low x) b) 0 with z | z
    · have := Int.mul_neg_of_pos_of_neg g z
      omega
    · exact z
  · rcases Int.lt_or_le 0 (crs (low x) b) with z | z
    · have := Int.mul_pos g z
      omega
    · exact z
def prDt (e : Int × Int) : PyData := .tuple [.int e.1, .int e.2]
theorem dp_pair {K : PySem.W.Frag} {H : Hp} {t : Addr} {e : Int × Int} (h : PairAt H t e) : Dp K H (.ref t) (prDt e) := .tup (SqT.of h) (.cons (.int _) (.cons (.int _) .nil))
theorem eqv_pair (e f : Int × Int) : PyData.eqv (prDt e) (prDt f) = decide (e = f) := by
  rw [Bool.eq_iff_iff]
  simp [prDt, PyData.eqv, PyData.eqvAll, Prod.ext_iff]
theorem LimAt.but {aO Ce : Addr} {H H' : Hp} {c : Addr} {v : V} {r : List Pc} (h : LimAt aO Ce H v r) (hc : CupAt c H) (s : But c H H') : LimAt aO Ce H' v r := by
  obtain ⟨u, y, hc', _⟩ := id hc
  rcases h with h | ⟨h, x, e, dx, p, hx, hp⟩
  · exact .inl h
  · exact .inr ⟨h, x, e, dx, p, s _ _ (ne_of hx hc' (by intro z; cases z)) hx, s.tup hc hp⟩
theorem LadAt.but {C aO Ce Cl : Addr} {H H' : Hp} {c x : Addr} {r : List Pc} {e : Int × Int} (h : LadAt C aO Ce Cl H x r e) (hc : CupAt c H) (s : But c H H') : LadAt C aO Ce Cl H' x r e := by
  obtain ⟨u, y, hc', _⟩ := id hc
  obtain ⟨dx, p, q, v, h1, h2, h3, h4⟩ := h
  exact ⟨dx, p, q, v, s _ _ (ne_of h1 hc' (by intro z; cases z)) h1, h2.but hc s, s.tup hc h3, h4.but hc s⟩
theorem low_z {x : Int} (h : 0 < x) : low (x, 0) = (1, 0) := by
  have h1 := low_sc h ((1 : Int), (0 : Int))
  have h2 : sc x ((1 : Int), (0 : Int)) = (x, 0) := by
    unfold sc
    ext <;> dsimp <;> omega
  rw [h2] at h1
  rw [h1]
  decide +kernel
theorem low_crs {x y : Int × Int} (hx : Pos2 x) (hy : Pos2 y) (lx : low x = x) (ly : low y = y) (h : crs x y = 0) : x = y := by
  obtain ⟨a, b⟩ := x
  obtain ⟨c, d⟩ := y
  obtain ⟨a0, b0, ab⟩ := hx
  obtain ⟨c0, d0, cd⟩ := hy
  unfold crs at h
  dsimp only at a0 b0 ab c0 d0 cd h
  rcases Int.lt_or_le 0 b with bp | bp
  · rcases Int.lt_or_le 0 d with dp | dp
    · rw [← lx, ← ly]
      exact low_frac_iff bp dp (by omega)
    · exfalso
      have d1 : d = 0 := by omega
      rw [d1, Int.mul_zero] at h
      have := Int.mul_pos (show 0 < c by omega) bp
      omega
  · have b1 : b = 0 := by omega
    have ap : 0 < a := by omega
    subst b1
    rcases Int.lt_or_le 0 d with dp | dp
    · exfalso
      rw [Int.mul_zero] at h
      have := Int.mul_pos ap dp
      omega
    · have d1 : d = 0 := by omega
      subst d1
      rw [← lx, ← ly, low_z ap, low_z (by omega)]
theorem tabs_butL {T : List (Addr × Str)} {c : Addr} {xs : List V} {H H' : Hp} (t : LamX.Tabs T H) (hc : H c = some (.lst xs)) (s : But c H H') : LamX.Tabs T H' := fun p hp => by
  obtain ⟨ps, h1, h2, h3⟩ := t p hp
  refine ⟨ps, s _ _ (ne_of h1 hc (by intro z; cases z)) h1, h2, fun pos cv hcv => ?_⟩
  obtain ⟨c', e1, e2⟩ := h3 pos cv hcv
  exact ⟨c', e1, s _ _ (ne_of e2 hc (by intro z; unfold LamX.CodeO at z; cases z)) e2⟩
theorem res_of {e : Int × Int} (p : Pos2 e) (l : low e = e) (h : ∀ y, y ∈ [e.1, e.2] → y ≤ 1000000000000) : ResP e.1 e.2 := by
  have h1 := h e.1 (by simp)
  have h2 := h e.2 (by simp)
  obtain ⟨p1, p2, p3⟩ := p
  by_cases z : e.2 = 0
  · right
    refine ⟨?_, z⟩
    have l1 := congrArg Prod.fst l
    have e1 : (low e).1 = e.1 / gc e.1 e.2 := rfl
    rw [e1, z, gc_zero (by omega)] at l1
    rw [Int.ediv_self (by omega)] at l1
    omega
  · left
    omega
theorem op_eqDK {X : Cx} {K : PySem.W.Frag} (hu : X.A.units + 64 < cLine) (hK : X.K = K := by rfl) : OpR X (compareOp .Eq) (rEqD K) := by
  subst hK
  exact op_eqD hu
def Tgt (r : List Pc) (e b : Int × Int) : Prop := ∀ n, 60 < n → goR r e ≠ 0 → crs (appN (matR r) n e) b ≠ 0
theorem shows_iff {r : List Pc} {e b : Int × Int} (ok : RowOk r) (he : Pos2 e) (hb : Pos2 b) (lb : low b = b) (n : Nat) : shN r e n = b ↔ crs (appN (matR r) n e) b = 0 := by
  have s := low_side (b := b) (appN_pos ok he n)
  have e1 : low (appN (matR r) n e) = shN r e n := rfl
  rw [e1] at s
  constructor
  · intro h
    rw [h] at s
    have : crs b b = 0 := by unfold crs; omega
    omega
  · intro h
    exact low_crs (shN_pos ok he n) hb (shN_low ok he n) lb (by omega)
def firstS (r : List Pc) (e b : Int × Int) : Option Nat := (List.range 61).find? fun n => decide (shN r e n = b)
theorem co_first {r : List Pc} {e b : Int × Int} (ok : RowOk r) (he : Pos2 e) (hb : Pos2 b) (lb : low b = b) (T : Tgt r e b) : CoOk r e b (firstS r e b) := by
  have sh := shows_iff ok he hb lb
  cases h : firstS r e b with
  | none =>
    intro n z
    have hn : ∀ k, k < 61 → ¬ shN r e k = b := fun k hk q => by
      have := List.find?_eq_none.mp h k (List.mem_range.mpr hk)
      rw [decide_eq_true q] at this
      exact this rfl
    by_cases k : n < 61
    · exact hn n k ((sh n).mpr z)
    · by_cases g : goR r e = 0
      · have s := same_side (appN_pos ok he n) he hb (stay_crs ok he g n)
        have c0 : crs e b = 0 := by omega
        exact hn 0 (by decide) ((sh 0).mpr c0)
      · exact T n (by omega) g z
  | some k =>
    have h := List.find?_range_eq_some.mp h
    refine ⟨(sh k).mp (of_decide_eq_true h.1), fun j hj z => ?_⟩
    have := h.2.2 j hj
    rw [decide_eq_true ((sh j).mpr z)] at this
    cases this
theorem co_sc {r : List Pc} {e b : Int × Int} {k : Int} (hk : 0 < k) {o : Option Nat} (h : CoOk r e (sc k b) o) : CoOk r e b o := by
  have e1 : ∀ x : Int × Int, crs x (sc k b) = k * crs x b := fun x => by rw [crs_anti, crs_scK1, crs_anti b x]; grind
  have z : ∀ n, crs (appN (matR r) n e) (sc k b) = 0 ↔ crs (appN (matR r) n e) b = 0 := fun n => by
    rw [e1]
    constructor
    · intro q
      rcases Int.mul_eq_zero.mp q with q | q
      · omega
      · exact q
    · intro q
      rw [q, Int.mul_zero]
  cases o with
  | none => exact fun n q => h n ((z n).mpr q)
  | some n => exact ⟨(z n).mp h.1, fun j hj q => h.2 j hj ((z j).mpr q)⟩
theorem tgt_way {r : List Pc} {e : Int × Int} (ok : RowOk r) (n1 : 1 ≤ r.length) (he : Pos2 e) {j : Nat} (hj : j ≤ 60) : Tgt r e (shN r e j) := by
  intro n hn g z
  have o := way_order ok n1 he g n j
  rw [if_neg (by omega), if_neg (by omega)] at o
  have s := low_side (b := appN (matR r) n e) (appN_pos ok he j)
  have e1 : low (appN (matR r) j e) = shN r e j := rfl
  rw [e1] at s
  have a1 := crs_anti (appN (matR r) n e) (shN r e j)
  have a2 := crs_anti (appN (matR r) n e) (appN (matR r) j e)
  have z0 : crs (appN (matR r) n e) (appN (matR r) j e) = 0 := by omega
  rw [z0] at o
  have : sg 0 = 0 := rfl
  rcases go_pm g with q | q <;> omega
theorem tgt_between {r : List Pc} {e : Int × Int} (ok : RowOk r) (n1 : 1 ≤ r.length) (he : Pos2 e) {j : Nat} {x y : Int × Int} (hx : Pos2 x) (hy : Pos2 y) (cx : crs x (appN (matR r) j e) = 0) (cy : crs y (appN (matR r) (j + 1) e) = 0) {b : Int × Int} (hb : crs b (x.1 + y.1, x.2 + y.2) = 0) (pb : Pos2 b) (j60 : j + 1 ≤ 60) : Tgt r e b := by
  intro n hn g z
  have o1 := way_order ok n1 he g j (j + 1)
  have o2 := way_order ok n1 he g (j + 1) n
  rw [if_neg (by omega), if_pos (by omega)] at o1 o2
  have p0 := appN_pos ok he j
  have p1 := appN_pos ok he (j + 1)
  have pn := appN_pos ok he n
  have sp : Pos2 (x.1 + y.1, x.2 + y.2) := by
    obtain ⟨x1, x2, x3⟩ := hx
    obtain ⟨y1, y2, y3⟩ := hy
    refine ⟨by show 0 ≤ _ + _; omega, by show 0 ≤ _ + _; omega, ?_⟩
    show 0 < _ + _ ∨ 0 < _ + _
    omega
  generalize appN (matR r) j e = A at *
  generalize appN (matR r) (j + 1) e = B at *
  generalize appN (matR r) n e = N at *
  have e1 : crs (x.1 + y.1, x.2 + y.2) y = crs x y := by unfold crs; dsimp only; grind
  have e2 : crs (x.1 + y.1, x.2 + y.2) x = crs y x := by unfold crs; dsimp only; grind
  have ax := crs_anti A x
  have by_ := crs_anti B y
  have bs := crs_anti b (x.1 + y.1, x.2 + y.2)
  have bn := crs_anti b N
  have xy := crs_anti x y
  rcases go_pm g with q | q <;> rw [q] at o1 o2
  · have l1 : crs A B < 0 := sg_m1'.mp o1
    have l2 : crs B N < 0 := sg_m1'.mp o2
    have l3 := crsT_t hx p0 p1 (by omega) l1
    have l4 : crs x y < 0 := by
      rcases Int.lt_or_le (crs x y) 0 with w | w
      · exact w
      · have a := crsT_le p1 hy hx (by omega) (by omega)
        have b := crs_anti x B
        omega
    have l5 := crsT_t pb sp hy (by omega) (by omega)
    have l6 := crsT_t hy p1 pn (by omega) l2
    have l7 := crsT_t pb hy pn (by omega) l6
    omega
  · have l1 : 0 < crs A B := sg_one.mp (by omega)
    have l2 : 0 < crs B N := sg_one.mp (by omega)
    have ab := crs_anti A B
    have bn2 := crs_anti B N
    have l3 := crsT_t hy p1 p0 (by omega) (by omega)
    have l4 : crs y x < 0 := by
      rcases Int.lt_or_le (crs y x) 0 with w | w
      · exact w
      · have a := crsT_le p0 hx hy (by omega) (by omega)
        have b := crs_anti y A
        omega
    have ns : crs (x.1 + y.1, x.2 + y.2) N ≤ 0 := crsT_le sp pb pn (by omega) (by omega)
    have ny : crs N y ≤ 0 := crsT_le pn p1 hy (by omega) (by omega)
    have l5 := crsT_t pn hy sp ny (by have := crs_anti (x.1 + y.1, x.2 + y.2) y; omega)
    have := crs_anti N (x.1 + y.1, x.2 + y.2)
    omega
structure SM (TT : List (Addr × Str)) (C aO Ce Cl : Addr) (H0 : Hp) (c l x : Addr) (ys : List V) (r : List Pc) (e : Int × Int) (H : Hp) : Prop where
  but : ButT c H0 H
  cup : CupAt c H
  tabs : LamX.Tabs TT H
  lad : LadAt C aO Ce Cl H x r e
  way : H l = some (.lst ys)
  wayP : PairsAt H ys (shL r e 61)
  ncl : c ≠ l
section
variable {TT : List (Addr × Str)} {C aO Ce Cl : Addr} {H0 H H' : Hp} {c l x : Addr} {ys : List V} {r : List Pc} {e : Int × Int}
theorem SM.ext (S : SM TT C aO Ce Cl H0 c l x ys r e H) (s : LamX.ExtN H H') (t : LamX.Tabs TT H') : SM TT C aO Ce Cl H0 c l x ys r e H' :=
  ⟨S.but.trans (.ext s), S.cup.ext s, t, S.lad.ext s, ext_lst s S.way, ⟨S.wayP.1, fun i e he => let ⟨t, ht, q⟩ := S.wayP.2 i e he; ⟨t, ht, ext_tup s q⟩⟩, S.ncl⟩
theorem SM.same (S : SM TT C aO Ce Cl H0 c l x ys r e H) (s : Same H H') : SM TT C aO Ce Cl H0 c l x ys r e H' := S.ext (.of s) (tabs_same S.tabs s)
theorem SM.step (S : SM TT C aO Ce Cl H0 c l x ys r e H) (s : But c H H') (hc : CupAt c H') : SM TT C aO Ce Cl H0 c l x ys r e H' := by
  obtain ⟨u, v, hcc, _⟩ := id S.cup
  exact ⟨S.but.trans (.but s), hc, tabs_butL S.tabs hcc s, S.lad.but S.cup s, s _ _ S.ncl.symm S.way, S.wayP.but s (fun xs z => by rw [hcc] at z; cases z), S.ncl⟩
theorem SM.tup (S : SM TT C aO Ce Cl H0 c l x ys r e H) (s : But c H H') {p : Addr} {xs : List V} (h : H p = some (.tup xs)) : H' p = some (.tup xs) := by
  obtain ⟨u, v, hcc, _⟩ := id S.cup
  exact s _ _ (ne_of h hcc (by intro z; cases z)) h
end
def spTurnT (TT : List (Addr × Str)) : Sp := fun vs H Q _ => ∃ c : Addr, vs = [.ref c] ∧ CupAt c H ∧ LamX.Tabs TT H ∧ ∀ H', ButT c H H' → CupAt c H' → LamX.Tabs TT H' → Q (.bl true) H'
def intsD (l : List Nat) : List PyData := l.map fun (i : Nat) => PyData.int (i : Int)
theorem sh_ints (l : List Nat) : SeqAt.shaped (.list (intsD l)) = true := by
  have h1 : ∀ l : List Nat, PyData.canLayAll0 (intsD l) = true := fun l => by
    induction l with
    | nil => simp [intsD, PyData.canLayAll0]
    | cons i r ih =>
      show PyData.canLayAll0 (PyData.int (i : Int) :: intsD r) = true
      simp [PyData.canLayAll0, PyData.canLay0, ih]
  have h2 : ∀ l : List Nat, PyData.depthAll (intsD l) = 0 := fun l => by
    induction l with
    | nil => simp [intsD, PyData.depthAll]
    | cons i r ih =>
      show PyData.depthAll (PyData.int (i : Int) :: intsD r) = 0
      simp [PyData.depthAll, PyData.depth, ih]
  unfold SeqAt.shaped
  simp [PyData.canLay0, PyData.depth, h1, h2]
theorem first_lt (r : List Pc) (e b : Int × Int) : ∀ n, firstS r e b = some n → n ≤ 1000000000000 := fun n h => by
  have := List.find?_range_eq_some.mp h
  have := List.mem_range.mp this.2.1
  omega
def optD : Option Nat → PyData
  | none => .none
  | some n => .int (n : Int)
theorem opt_show {o o' : Option Nat} (h : ∀ n, o = some n → n ≤ 1000000000000) (h' : ∀ n, o' = some n → n ≤ 1000000000000) : (PyData.list [optD o, optD o']).showable = true ∧ (PyData.list [optD o, optD o']).hasDict = false ∧ (PyData.list [optD o, optD o']).depth ≤ 40 ∧ (PyData.list [optD o, optD o']).shown.length ≤ sizeLine := by
  have one : ∀ {o : Option Nat}, (∀ n, o = some n → n ≤ 1000000000000) → Tame 200 0 (optD o) := fun {o} h => by
    cases o with
    | none => exact ⟨by decide +kernel, by decide +kernel, by decide +kernel, by decide +kernel, by decide +kernel⟩
    | some n =>
      have := h n rfl
      refine tame_int ((sm_lt (n := 41) (by omega) ?_).mono (by decide))
      have e : (2 : Int) ^ 41 = 2199023255552 := by decide
      rw [e]
      omega
  obtain ⟨a, b, c, d⟩ := (tame_l2 (one h) (one h')).shows
  exact ⟨a, b, c, d⟩
theorem dp_opt {K : PySem.W.Frag} {H : Hp} (o : Option Nat) : Dp K H (optV o) (optD o) := by
  cases o with
  | none => exact .non
  | some n => exact .int _
section
variable {P : Program} {w : World} {K : PySem.W.Frag} {mg : Str → Option Value} {base : Heap} {tG t1 t2 t3 tP tC : Tok} {aO aW J C Ce Cl Cg Cs fL : Addr} {fdL : FuncData} {TT : List (Addr × Str)}
theorem sc_law_told : FnScope ["_law_cup_here", "_law_pair_here", "_law_by"] ["_law_cup_here", "_law_pair_here"] (defScope s_law_told) := ⟨rfl, rfl, rfl, by decide +kernel, rfl, by decide +kernel, by decide +kernel⟩

theorem ok_told {f : Addr} {fd : FuncData} (F : Fun K "_law_told" "_law_told" s_law_told f fd) (D_law_sip : Df P w K mg base 1 "_law_sip" ["_law_cup_here", "_law_many"] spSip) : FnOk P w K mg base CX0 2 f fd ["_law_cup_here", "_law_pair_here"] spTold := by
  refine F.ok sc_law_told (fun vs H Q E h => ?_) (fun cdv A outer s H vs Q E hr h => ?_)
  · obtain ⟨c, p, e, rfl, _⟩ := h
    rfl
  · obtain ⟨c, p, e, rfl, hc, hp, hR, k⟩ := h
    refine ⟨_, (pss_cons (ps_if (pt_cmpR op_eq (pe_ix ix_tup (pv 1) pe_int (fun _ _ => rfl)) pe_int (nomark _)) (pss_one (ps_ret (pv 1))) pss_nil)
      (C8.pss_cut (ps_if (PW.pt (pw_and (pt_cmpR op_eq (pe_ix ix_tup (pv 1) pe_int (fun _ _ => rfl)) pe_int (nomark _)) (pw_and1 (pt_cmpR op_eq (pe_df D_law_sip (hr.mono (by decide)) (by rfl) (pa_cons (pv 0) (pa_cons pe_int pa_nil))) pe_int (nomark _))))) (pss_one (ps_ret (pe_ix ix_tup (pv 1) pe_int (fun _ _ => rfl)))) pss_nil)
      (pss_cons (ps_set (i := 2) sc_law_told.nd rfl (.inl rfl) (pe_op op_add pe_int (pe_df D_law_sip (hr.mono (by decide)) (by rfl) (pa_cons (pv 0) (pa_cons pe_int pa_nil)))))
      (pss_one (ps_ret (pe_ifExp (PW.pt (pw_or (pt_cmpR op_gt (pe_ix ix_tup (pv 1) pe_int (fun _ _ => rfl)) (pe_op op_pow pe_int pe_int) (nomark _)) (pw_or1 (pt_cmpR op_gt (pe_ix ix_tup (pv 1) pe_int (fun _ _ => rfl)) (pe_op op_pow pe_int pe_int) (nomark _))))) (pv 1) (pe_tup (pa_cons (pe_op op_mulX (pv 2) (pe_ix ix_tup (pv 1) pe_int (fun _ _ => rfl))) (pa_cons (pe_op op_mulX (pv 2) (pe_ix ix_tup (pv 1) pe_int (fun _ _ => rfl))) pa_nil))))))))), ?_⟩
    have same : ∀ H' : Hp, PairAt H' p e → LoadAt H' (.ref p) (sc 1 e) := fun H' h => by
      rw [sc_one]
      exact .inr ⟨p, rfl, h, hR⟩
    refine ⟨_, rfl, p, _, _, _, rfl, rfl, SqT.of hp, atI_nat (j := 1) rfl, rfl, _, rfl, ite2 (fun e0 => ?_) (fun e0 => ?_)⟩
    · exact ⟨_, rfl, k _ _ 1 (But.refl _ _) hc (by decide) (same _ hp)⟩
    have z0 : ¬ e.2 = 0 := fun z => e0 (decide_eq_true (congrArg V.int z))
    obtain ⟨t0, t1, b0, b1⟩ : 0 ≤ e.1 ∧ e.1 ≤ 1000000000000 ∧ 1 ≤ e.2 ∧ e.2 ≤ 1000000000000 := by
      rcases hR with h | h
      · exact h
      · exact absurd h.2 z0
    obtain ⟨sm1, sm2⟩ := ResP.sm hR
    refine ⟨fun σ' H1 => σ' = [some (.ref c), some (.ref p), none] ∧ But c H H1 ∧ CupAt c H1, ?_, ?_⟩
    ·
      refine ⟨_, rfl, p, _, _, _, rfl, rfl, SqT.of hp, atI_nat (j := 1) rfl, rfl, _, rfl, ite2 (fun e1 => ?_) (fun _ => ⟨rfl, But.refl _ _, hc⟩)⟩
      have o1 : e.2 = 1 := V.int.inj (of_decide_eq_true e1)
      refine ⟨_, rfl, c, 2, rfl, hc, by decide, (by unfold Sm; decide), fun H1 n b1' hc1 n0 n1 => ⟨rfl, _, rfl, ite2 (fun e2 => ?_) (fun _ => ⟨rfl, b1', hc1⟩)⟩⟩
      refine ⟨_, rfl, p, _, _, _, rfl, rfl, SqT.of (b1'.tup hc hp), atI_nat (j := 0) rfl, k _ _ 1 b1' hc1 (by decide) (.inl ⟨e.1, rfl, t0, t1, ?_⟩)⟩
      rw [sc_one]
      ext
      · rfl
      · exact o1
    · rintro σ' H1 ⟨rfl, b1', hc1⟩
      refine ⟨_, rfl, c, 3, rfl, hc1, by decide, (by unfold Sm; decide), fun H2 n b2 hc2 n0 n1 => ⟨_, _, rfl, rfl, ?_⟩⟩
      have hp2 : PairAt H2 p e := b2.tup hc1 (b1'.tup hc hp)
      have bb := b1'.trans b2
      have ten : (10 : Int) ^ Int.toNat 11 = 100000000000 := by decide
      refine ⟨_, rfl, p, _, _, _, rfl, rfl, SqT.of hp2, atI_nat (j := 0) rfl, _, _, rfl, rfl, ⟨by decide, by decide, by decide⟩, _, _, rfl, rfl, _, rfl, ite2 (fun _ => iteT ⟨_, rfl, k _ _ 1 bb hc2 (by decide) (same _ hp2)⟩) (fun e3 => ?_)⟩
      have l1 : ¬ 100000000000 < e.1 := fun z => e3 (decide_eq_true (by rw [ten]; exact z))
      refine ⟨_, rfl, p, _, _, _, rfl, rfl, SqT.of hp2, atI_nat (j := 1) rfl, _, _, rfl, rfl, ⟨by decide, by decide, by decide⟩, _, _, rfl, rfl, _, rfl, ite2 (fun _ => ⟨_, rfl, k _ _ 1 bb hc2 (by decide) (same _ hp2)⟩) (fun e4 => ?_)⟩
      have l2 : ¬ 100000000000 < e.2 := fun z => e4 (decide_eq_true (by rw [ten]; exact z))
      have nS : Sm 10 (1 + n) := sm_lt (by omega) (by show 1 + n < 1024; omega)
      refine ⟨_, rfl, _, rfl, p, _, _, _, rfl, rfl, SqT.of hp2, atI_nat (j := 0) rfl, _, _, rfl, rfl, mx nS sm1, _, rfl, _, rfl, p, _, _, _, rfl, rfl, SqT.of hp2, atI_nat (j := 1) rfl, _, _, rfl, rfl, mx nS sm2, (by show 2 ≤ sizeLine; decide), fun t nt => ?_⟩
      have st := same_upd (o := .tup [.int ((1 + n) * e.1), .int ((1 + n) * e.2)]) nt
      refine k _ _ (1 + n) (bb.trans (But.of st)) (hc2.same st) (by omega) (.inr ⟨t, rfl, upd_same, .inl ?_⟩)
      unfold sc
      dsimp
      rcases (show n = 0 ∨ n = 1 ∨ n = 2 by omega) with rfl | rfl | rfl <;> omega
theorem sc_law_lines : FnScope ["_law_cup_here", "_law_word", "_law_turn"] ["_law_cup_here"] (defScope s_law_lines) := ⟨rfl, rfl, rfl, by decide +kernel, rfl, by decide +kernel, by decide +kernel⟩

theorem ok_lines {f : Addr} {fd : FuncData} (F : Fun K "_law_lines" "_law_lines" s_law_lines f fd) (T : Txt K mg) (D_law_sip : Df P w K mg base 1 "_law_sip" ["_law_cup_here", "_law_many"] spSip) (D_law_pick : Df P w K mg base 2 "_law_pick" ["_law_cup_here", "_law_things"] spPick) : FnOk P w K mg base CX0 3 f fd ["_law_cup_here"] spLines := by
  refine F.ok sc_law_lines (fun vs H Q E h => ?_) (fun cdv A outer s H vs Q E hr h => ?_)
  · obtain ⟨c, rfl, _⟩ := h
    rfl
  · obtain ⟨c, rfl, hc, k⟩ := h
    refine ⟨_, (pss_cons (ps_set (i := 1) sc_law_lines.nd rfl (.inr rfl) (pe_df D_law_pick (hr.mono (by decide)) (by rfl) (pa_cons (pv 0) (pa_cons (pe_lst (pa_cons pe_str (pa_cons pe_str pa_nil))) pa_nil))))
      (pss_one (ps_ret (pe_lc (own := [("_law_turn", 2)]) (g := gName 2) (tt := tYes) rfl sc_law_lines.nd (pi_range1 rfl T.range (pa_cons (pe_op op_add pe_int (pe_df D_law_sip (hr.mono (by decide)) (by rfl) (pa_cons (pv 0) (pa_cons pe_int pa_nil)))) pa_nil)) (blkOk_by (N := ["_law_cup_here", "_law_word", "_law_turn"]) (sc := defScope s_law_lines) (by decide +kernel)) (fun _ _ _ _ _ => pg_name (i := 2) sc_law_lines.nd rfl (Or.inl rfl)) (fun _ _ _ _ _ => pts_nil) (fun _ _ _ _ _ => (pe_tup (pa_cons (pv 1) (pa_cons (pe_op op_add pe_int (pe_df D_law_sip (hr.mono (by decide)) (by rfl) (pa_cons (pv 0) (pa_cons pe_int pa_nil)))) pa_nil)))))))), ?_⟩
    refine ⟨_, rfl, (by show 2 ≤ sizeLine; decide), fun L nL => ?_⟩
    have sL := same_upd (o := .lst [.str (Str.ofString "rail"), .str (Str.ofString "rung")]) nL
    refine ⟨c, L, _, rfl, hc.same sL, hc.ne nL, upd_same, by show 0 < 2; decide, by show 2 ≤ 100; decide, fun H1 v b1 hc1 hv => ?_⟩
    obtain ⟨b, rfl⟩ : ∃ b : Bool, v = .str (wd b) := by
      simp only [List.mem_cons, List.not_mem_nil, or_false] at hv
      rcases hv with rfl | rfl
      · exact ⟨true, rfl⟩
      · exact ⟨false, rfl⟩
    refine ⟨_, rfl, c, 3, rfl, hc1, by decide, (by unfold Sm; decide), fun H2 m b2 hc2 m0 m3 => ?_⟩
    refine ⟨_, _, rfl, rfl, ?_⟩
    refine ⟨_, rfl, by omega, by omega, fun D hD => ?_⟩
    have nDc : D ≠ c := (hc2.ne hD).symm
    refine lc_range (lo := 0) (n := (1 + m).toNat) (fun i H' => But c H2 H' ∧ CupAt c H' ∧ ∃ vs ps, H' D = some (.lst vs) ∧ PiecesAt H' vs ps ∧ RowOk ps ∧ ps.length = i ∧ OneW b ps) ⟨.of (same_upd hD), hc2.same (same_upd hD), [], [], upd_same, ⟨rfl, fun i p h => by simp at h⟩, (fun p hp => by cases hp), rfl, (fun p hp => by cases hp)⟩ ?_ ?_
    · rintro i H' hi ⟨bD, hcD, vs, ps, hDv, hps, hok, rfl, ho⟩
      refine ⟨rfl, ?_⟩
      unfold tYes
      refine iteT ?_
      refine ⟨_, rfl, _, rfl, c, 12, rfl, hcD, by decide, (by unfold Sm; decide), fun H3 y b3 hc3 y0 y1 => ?_⟩
      refine ⟨_, _, rfl, rfl, (by show 2 ≤ sizeLine; decide), fun p np => ?_⟩
      have sp := same_upd (o := .tup [.str (wd b), .int (1 + y)]) np
      have bA : But c H' (upd H3 p (.tup [.str (wd b), .int (1 + y)])) := b3.trans (.of sp)
      have hD3 := bA _ _ nDc hDv
      have pz : PcOk (b, 1 + y) := ⟨by dsimp; omega, by dsimp; omega⟩
      obtain ⟨u, v, hcc, _⟩ := id hcD
      refine ⟨vs, hD3, ?_, ?_, ?_, vs ++ [.ref p], ps ++ [(b, 1 + y)], upd_same, ?_, hok.app (fun q hq => by rw [List.mem_singleton.mp hq]; exact pz), by simp, fun q hq => ?_⟩
      · rw [hps.1]
        exact small1000 (by omega)
      · intro b o nb e
        rw [upd_ne (ne_of_none e hD)]
        exact bA _ _ nb (bD _ _ nb e)
      · obtain ⟨u, v, hcc, q⟩ := hc3.same sp
        refine ⟨u, v, ?_, q⟩
        rw [upd_ne nDc.symm]
        exact hcc
      · have h1 := hps.but bA (fun xs z => by rw [hcc] at z; cases z)
        have nD : ∀ xs, (upd H3 p (.tup [.str (wd b), .int (1 + y)])) D ≠ some (.tup xs) := fun xs z => by rw [hD3] at z; cases z
        have h2 := h1.but (x := D) (H' := upd (upd H3 p (.tup [.str (wd b), .int (1 + y)])) D (.lst (vs ++ [.ref p]))) But.upd nD
        have hD30 := b3 _ _ nDc hDv
        have npD : p ≠ D := (ne_of_none hD30 np).symm
        have one : PieceAt (upd (upd H3 p (.tup [.str (wd b), .int (1 + y)])) D (.lst (vs ++ [.ref p]))) (.ref p) (b, 1 + y) := ⟨p, rfl, by rw [upd_ne npD]; exact upd_same⟩
        exact h2.app ⟨rfl, fun j q hq => by
          match j, hq with
          | 0, hq => cases hq; exact ⟨_, rfl, one⟩⟩
      · rcases List.mem_append.mp hq with z | z
        · exact ho q z
        · rw [List.mem_singleton.mp z]
    · rintro H' ⟨bD, hcD, vs, ps, hDv, hps, hok, hl, ho⟩
      refine k _ D ps b (((But.of sL).trans b1).trans (b2.trans bD)) hcD nDc ⟨vs, hDv, hps⟩ hok (by omega) (by omega) ho
theorem sc_law_near : FnScope ["_law_cup_here", "_law_row_here", "_law_end_here", "_law_run_here", "_law_way", "_law_turn", "_law_at", "_law_part", "_law_shown_at", "_law_spot", "_law_due", "_law_told_here"] ["_law_cup_here"] (defScope s_law_near) := ⟨rfl, rfl, rfl, by decide +kernel, rfl, by decide +kernel, by decide +kernel⟩

theorem ok_near {f : Addr} {fd : FuncData} (F : Fun K "_law_near" "_law_near" s_law_near f fd) (T : TxtS K mg tG t1 t2 t3 tP tC aO aW J C Ce Cl Cg Cs) (X_lad : LadD P w K mg base C aO Ce Cl fL fdL)
    (D_law_mixed : Df P w K mg base 4 "_law_mixed" ["_law_cup_here", "_law_most"] spMixed) (D_law_end : Df P w K mg base 2 "_law_end" ["_law_cup_here"] spEndL) (D_law_read : Df P w K mg base 8 "_law_read" ["_law_row_here"] (spReadL C)) (D_law_walk : Df P w K mg base 3 "_law_walk" ["_law_row_here", "_law_pair_here", "_law_many"] spWalk)
    (D_law_sip : Df P w K mg base 1 "_law_sip" ["_law_cup_here", "_law_many"] spSip) (D_law_pair : Df P w K mg base 1 "_law_pair" ["_law_top", "_law_bottom"] spPair) (D_law_told : Df P w K mg base 2 "_law_told" ["_law_cup_here", "_law_pair_here"] spTold)
    (D_count_of : Df P w K mg base 12 "count_of" ["run", "target"] (spCo TT C aO Ce Cl)) (D_count_ofK : DfKw P w K mg base 12 "count_of" ["run", "target"] ["target", "run"] gSwW gSwW (spCo TT C aO Ce Cl)) : FnG P w K mg base 13 f fd ["_law_cup_here"] (spTurnT TT) := by
  refine okG F sc_law_near (fun vs H Q E h => ?_) (fun cdv A outer s H vs Q E hg hr h => ?_)
  · obtain ⟨c, rfl, _⟩ := h
    rfl
  · obtain ⟨c, rfl, hc, hT, k⟩ := h
    refine ⟨_, (C8.pss_cut (ps_par (by rfl) sc_law_near.nd (i := 1) (j := 2) rfl rfl (by decide) rfl rfl (pa_cons (pe_df D_law_mixed (hr.mono (by decide)) (by rfl) (pa_cons (pv 0) (pa_cons pe_int pa_nil))) (pa_cons (pe_df D_law_end (hr.mono (by decide)) (by rfl) (pa_cons (pv 0) pa_nil)) pa_nil)) (by rfl))
      (C8.pss_cut (ps_asg (pe_tup (pa_cons (pe_make X_lad.m X_lad.fn (hr.mono (by decide)) rfl T.mgL X_lad.bd .nil pass0 (pa_cons (pe_df D_law_read (hr.mono (by decide)) (by rfl) (pa_cons (pv 1) pa_nil)) (pa_cons (pv 2) pa_nil))) (pa_cons (pe_df D_law_walk (hr.mono (by decide)) (by rfl) (pa_cons (pv 1) (pa_cons (pv 2) (pa_cons pe_int pa_nil)))) pa_nil))) (pg_tup rfl (pgs_cons (pg_name (i := 3) sc_law_near.nd rfl (.inl rfl)) (pgs_cons (pg_name (i := 4) sc_law_near.nd rfl (.inr rfl)) pgs_nil))))
      (C8.pss_cut (ps_for PassesOwn.never rfl (pi_range1 rfl T.range (pa_cons pe_int pa_nil)) (pg_name (i := 5) sc_law_near.nd rfl (.inl rfl)) (C8.pss_cut (ps_set (i := 6) sc_law_near.nd rfl (.inl rfl) (pe_df D_law_sip (hr.mono (by decide)) (by rfl) (pa_cons (pv 0) (pa_cons pe_int pa_nil))))
      (C8.pss_cut (ps_set (i := 7) sc_law_near.nd rfl (.inr rfl) (pe_ix ix_list (pv 4) (pv 6) (fun _ _ => rfl)))
      (C8.pss_cut (ps_if (pt_cmpR op_eq (pe_df D_law_sip (hr.mono (by decide)) (by rfl) (pa_cons (pv 0) (pa_cons pe_int pa_nil))) pe_int (nomark _)) (pss_one (ps_set (i := 7) sc_law_near.nd rfl (.inr rfl) (pe_df D_law_pair (hr.mono (by decide)) (by rfl) (pa_cons (pe_op op_add (pe_ix ix_tup (pv 7) pe_int (fun _ _ => rfl)) (pe_ix ix_tup (pe_ix ix_list (pv 4) (pe_op op_add (pv 6) pe_int) (fun _ _ => rfl)) pe_int (fun _ _ => rfl))) (pa_cons (pe_op op_add (pe_ix ix_tup (pv 7) pe_int (fun _ _ => rfl)) (pe_ix ix_tup (pe_ix ix_list (pv 4) (pe_op op_add (pv 6) pe_int) (fun _ _ => rfl)) pe_int (fun _ _ => rfl))) pa_nil))))) pss_nil)
      (C8.pss_cut (ps_if (PW.pt (pw_or (pt_cmpR op_eq (pe_df D_law_sip (hr.mono (by decide)) (by rfl) (pa_cons (pv 0) (pa_cons pe_int pa_nil))) pe_int (nomark _)) (pw_or1 (pt_cmpR op_gt (pe_callB (cr_maxT rfl) (by rfl) T.max (by decide +kernel) (pa_cons (pv 7) pa_nil)) (pe_op op_pow pe_int pe_int) (nomark _))))) (pss_one (ps_set (i := 7) sc_law_near.nd rfl (.inr rfl) (pe_df D_law_end (hr.mono (by decide)) (by rfl) (pa_cons (pv 0) pa_nil)))) pss_nil)
      (C8.pss_cut (ps_setLc (i := 8) (own := [("_law_spot", 9)]) (g := gName 9) rfl sc_law_near.nd rfl rfl (sw_true rfl rfl rfl (by decide +kernel)) (pi_range1 rfl T.range (pa_cons pe_int pa_nil)) (blkOk_by (N := ["_law_cup_here", "_law_row_here", "_law_end_here", "_law_run_here", "_law_way", "_law_turn", "_law_at", "_law_part", "_law_shown_at", "_law_spot", "_law_due", "_law_told_here"]) (sc := defScope s_law_near) (by decide +kernel)) (fun _ _ _ _ _ => pg_name (i := 9) sc_law_near.nd rfl (Or.inl rfl)) (fun _ _ _ _ _ => (pts_one (pt_cmpR (op_eqDK (K := K) hr.units) (pe_ix (ix_listK (K := K)) (pv 4) (pv 9) (fun _ _ => rfl)) (pv 7) (nomark _)))) (fun _ _ _ _ _ => (pv 9)))
      (C8.pss_cut (ps_set (i := 10) sc_law_near.nd rfl (.inl rfl) (pe_ifExp (pt_cmpR (op_neD hr.units) (pv 8) (pe_lst pa_nil) (nomark _)) (pe_ix ix_list (pv 8) pe_int (fun _ _ => rfl)) pe_non))
      (C8.pss_cut (ps_set (i := 11) sc_law_near.nd rfl (.inl rfl) (pe_lst (pa_cons (pe_df D_count_of (hr.mono (by decide)) (by rfl) (pa_cons (pv 3) (pa_cons (pe_df D_law_told (hr.mono (by decide)) (by rfl) (pa_cons (pv 0) (pa_cons (pv 7) pa_nil))) pa_nil))) (pa_cons (pe_dfKw D_count_ofK (hr.mono (by decide)) (by rfl) (pk_cons (pv 7) (pk_cons (pv 3) pk_nil))) pa_nil))))
      (pss_one (ps_if (pt_cmpR op_ne (pe_callB (cr_repr hg hr.units) (by rfl) T.repr (by decide +kernel) (pa_cons (pv 11) pa_nil)) (pe_callB (cr_repr hg hr.units) (by rfl) T.repr (by decide +kernel) (pa_cons (pe_lst (pa_cons (pv 10) (pa_cons (pv 10) pa_nil))) pa_nil)) (nomark _)) (pss_one (ps_ret pe_bl)) pss_nil))))))))))
      (pss_one (ps_ret pe_bl))))), ?_⟩
    refine ⟨fun σ' H' => ∃ a t r e, σ' = [some (.ref c), some (.ref a), some (.ref t), none, none, none, none, none, none, none, none, none] ∧ But c H H' ∧ CupAt c H' ∧ LamX.Tabs TT H' ∧ RowL H' a r ∧ RowOk r ∧ 1 ≤ r.length ∧ r.length ≤ 4 ∧ Mixed r ∧ PairAt H' t e ∧ ResP e.1 e.2 ∧ low e = e, ?_, ?_⟩
    · refine ⟨_, rfl, c, 4, rfl, hc, by decide, by decide, fun H1 a r b1 hc1 nac hA ok n1 l3 mx => ⟨_, rfl, c, rfl, hc1, fun H2 t e b2 hc2 ht hR le _ => ?_⟩⟩
      obtain ⟨u, v, hcc, _⟩ := id hc
      obtain ⟨u1, v1, hcc1, _⟩ := id hc1
      exact ⟨_, _, rfl, a, t, r, e, rfl, b1.trans b2, hc2, tabs_butL (tabs_butL hT hcc b1) hcc1 b2, hA.but hc1 nac b2, ok, n1, by omega, mx, ht, hR, le⟩
    rintro σ' H1 ⟨a, t, r, e, rfl, b1, hc1, hT1, hA, ok, n1, l4, ⟨mx1, mx2⟩, ht, hR, le⟩
    have l8 : r.length ≤ 8 := by omega
    have ep := ResP.pos hR
    obtain ⟨es1, es2⟩ := ResP.sm hR
    have kd : KindOk r := .inl ⟨l4, mx1, mx2⟩
    have S6 : Short r 60 := .inl ⟨l4, by decide⟩
    refine ⟨fun σ' H' => ∃ x l ys, σ' = [some (.ref c), some (.ref a), some (.ref t), some (.ref x), some (.ref l), none, none, none, none, none, none, none] ∧ SM TT C aO Ce Cl H c l x ys r e H', ?_, ?_⟩
    · refine ⟨_, rfl, a, r, rfl, hA, ok, n1, l8, fun H3 x s3 nx hx => ⟨_, rfl, fun z dz nz ndz nez => make_lad nz ndz hx ok l8 (.inr ⟨t, rfl, s3 _ _ ht, hR⟩) fun H4 s4 hz => ?_⟩⟩
      have s34 := s3.trans s4
      rw [le] at hz
      refine ⟨_, rfl, _, rfl, a, t, r, e, 60, rfl, hA.same s34, ok, S6, s34 _ _ ht, ep, le, es1, es2, fun H5 l ys s5 hl hys => ⟨(by show 2 ≤ sizeLine; decide), fun u nu => ⟨u, _, rfl, SqT.of upd_same, rfl, _, _, rfl, _, _, rfl, rfl, ?_⟩⟩⟩
      have s35 := s34.trans s5
      have su := same_upd (o := .tup [.ref z, .ref l]) nu
      have hc5 := hc1.same (s35.trans su)
      obtain ⟨u', v', hcc, _⟩ := id hc5
      have hl' := su _ _ hl
      have ncl : c ≠ l := fun q => by
        rw [q, hl'] at hcc
        have e1 := hys.1
        rw [shL_len] at e1
        cases hcc
        cases e1
      exact ⟨z, l, ys, rfl, .but (b1.trans (.of (s35.trans su))), hc5, tabs_same hT1 (s35.trans su), hz.same (s5.trans su), hl', hys.same su, ncl⟩
    clear b1 hc1 hT1 hA ht
    rintro σ' H3 ⟨x, l, ys, rfl, S3⟩
    have ly : ys.length = 61 := by rw [S3.wayP.1, shL_len]
    refine ⟨fun σ' H' => (∃ v5 v6 v7 v8 v9 v10 v11, σ' = [some (.ref c), some (.ref a), some (.ref t), some (.ref x), some (.ref l), v5, v6, v7, v8, v9, v10, v11]) ∧ SM TT C aO Ce Cl H c l x ys r e H', ?_, ?_⟩
    · refine ⟨5, rfl, by decide, by decide, ?_⟩
      refine for_range (lo := 0) (n := Int.toNat 5) (fun i σ H' => (∃ v5 v6 v7 v8 v9 v10 v11, σ = [some (.ref c), some (.ref a), some (.ref t), some (.ref x), some (.ref l), v5, v6, v7, v8, v9, v10, v11]) ∧ SM TT C aO Ce Cl H c l x ys r e H') ⟨⟨none, none, none, none, none, none, none, rfl⟩, S3⟩ ?_ ?_
      · rintro i σ H4 hi ⟨⟨v5, v6, v7, v8, v9, v10, v11, rfl⟩, S4⟩
        clear S3
        refine ⟨fun σ' H' => ∃ j : Nat, σ' = [some (.ref c), some (.ref a), some (.ref t), some (.ref x), some (.ref l), some (.int (0 + i)), some (.int (j : Int)), v7, v8, v9, v10, v11] ∧ j < 8 ∧ SM TT C aO Ce Cl H c l x ys r e H', ?_, ?_⟩
        · refine ⟨_, rfl, c, 8, rfl, S4.cup, by decide, (by unfold Sm; decide), fun H5 v b5 hc5 v0 v8' => ⟨v.toNat, ?_, by omega, S4.step b5 hc5⟩⟩
          rw [Int.toNat_of_nonneg v0]
          rfl
        rintro σ' H5 ⟨j, rfl, j8, S5⟩
        clear S4
        refine ⟨fun σ' H' => ∃ p, σ' = [some (.ref c), some (.ref a), some (.ref t), some (.ref x), some (.ref l), some (.int (0 + i)), some (.int (j : Int)), some (.ref p), v8, v9, v10, v11] ∧ PairAt H' p (shN r e j) ∧ SM TT C aO Ce Cl H c l x ys r e H', ?_, ?_⟩
        · obtain ⟨p, hp, pp⟩ := S5.wayP.2 j (shN r e j) (shL_at (by omega))
          exact ⟨_, rfl, _, rfl, l, _, _, _, rfl, rfl, SqL.of S5.way, atI_nat hp, p, rfl, pp, S5⟩
        rintro σ' H6 ⟨p, rfl, hp, S6'⟩
        clear S5
        obtain ⟨w1, w2⟩ := shN_sm ok ep es1 es2 (.inl ⟨l4, by omega⟩ : Short r j)
        obtain ⟨w3, w4⟩ := shN_sm ok ep es1 es2 (.inl ⟨l4, by omega⟩ : Short r (j + 1))
        refine ⟨fun σ' H' => ∃ p b, σ' = [some (.ref c), some (.ref a), some (.ref t), some (.ref x), some (.ref l), some (.int (0 + i)), some (.int (j : Int)), some (.ref p), v8, v9, v10, v11] ∧ PairAt H' p b ∧ Pos2 b ∧ low b = b ∧ Tgt r e b ∧ SM TT C aO Ce Cl H c l x ys r e H', ?_, ?_⟩
        · refine ⟨_, rfl, c, 3, rfl, S6'.cup, by decide, (by unfold Sm; decide), fun H7 v b7 hc7 v0 v3 => ⟨rfl, _, rfl, ite2 (fun w => ?_) (fun _ => ?_)⟩⟩
          · have S7 := S6'.step b7 hc7
            have hp7 : PairAt H7 p (shN r e j) := S6'.tup b7 hp
            obtain ⟨q, hq, pq⟩ := S7.wayP.2 (j + 1) (shN r e (j + 1)) (shL_at (by omega))
            have ej : ((j : Int) + 1) = ((j + 1 : Nat) : Int) := by push_cast; rfl
            have aq : atI ys ((j : Int) + 1) = some (.ref q) := by rw [ej]; exact atI_nat hq
            refine ⟨_, rfl, p, _, _, _, rfl, rfl, SqT.of hp7, atI_nat (j := 0) rfl, _, rfl, _, rfl, _, _, rfl, rfl, l, _, _, _, rfl, rfl, SqL.of S7.way, aq, q, _, _, _, rfl, rfl, SqT.of pq, atI_nat (j := 0) rfl, _, _, rfl, rfl, ?_⟩
            refine ⟨_, rfl, p, _, _, _, rfl, rfl, SqT.of hp7, atI_nat (j := 1) rfl, _, rfl, _, rfl, _, _, rfl, rfl, l, _, _, _, rfl, rfl, SqL.of S7.way, aq, q, _, _, _, rfl, rfl, SqT.of pq, atI_nat (j := 1) rfl, _, _, rfl, rfl, ?_⟩
            have px := shN_pos ok ep j
            have py := shN_pos ok ep (j + 1)
            have ps : Pos2 ((shN r e j).1 + (shN r e (j + 1)).1, (shN r e j).2 + (shN r e (j + 1)).2) := by
              obtain ⟨x1, x2, x3⟩ := px
              obtain ⟨y1, y2, y3⟩ := py
              refine ⟨by show 0 ≤ _ + _; omega, by show 0 ≤ _ + _; omega, ?_⟩
              show 0 < _ + _ ∨ 0 < _ + _
              omega
            refine ⟨_, _, rfl, ps, (Sm.add (n := 1700) w1 w3).mono (by decide), (Sm.add (n := 1700) w2 w4).mono (by decide), fun H8 u s8 nu hu => ?_⟩
            refine ⟨u, _, rfl, hu, low_pos ps, low_low ps, ?_, S7.same s8⟩
            have cxy : ∀ n, crs (shN r e n) (appN (matR r) n e) = 0 := fun n => by
              have s := low_side (b := appN (matR r) n e) (appN_pos ok ep n)
              have e1 : low (appN (matR r) n e) = shN r e n := rfl
              rw [e1] at s
              have : crs (appN (matR r) n e) (appN (matR r) n e) = 0 := by unfold crs; omega
              omega
            refine tgt_between ok n1 ep px py (cxy j) (cxy (j + 1)) ?_ (low_pos ps) (by omega)
            have s := low_side (b := ((shN r e j).1 + (shN r e (j + 1)).1, (shN r e j).2 + (shN r e (j + 1)).2)) ps
            have c0 : crs ((shN r e j).1 + (shN r e (j + 1)).1, (shN r e j).2 + (shN r e (j + 1)).2) ((shN r e j).1 + (shN r e (j + 1)).1, (shN r e j).2 + (shN r e (j + 1)).2) = 0 := by unfold crs; omega
            omega
          · exact ⟨p, _, rfl, S6'.tup b7 hp, shN_pos ok ep j, shN_low ok ep j, tgt_way ok n1 ep (by omega), S6'.step b7 hc7⟩
        clear hp S6' w1 w2 w3 w4
        rintro σ' H7 ⟨p, b, rfl, hp, pb, lb, tb, S7⟩
        refine ⟨fun σ' H' => ∃ p b, σ' = [some (.ref c), some (.ref a), some (.ref t), some (.ref x), some (.ref l), some (.int (0 + i)), some (.int (j : Int)), some (.ref p), v8, v9, v10, v11] ∧ PairAt H' p b ∧ ResP b.1 b.2 ∧ low b = b ∧ Tgt r e b ∧ SM TT C aO Ce Cl H c l x ys r e H', ?_, ?_⟩
        · have e12 : (10 : Int) ^ Int.toNat 12 = 1000000000000 := by decide
          have drawn : ∀ b : Int × Int, Pos2 b → Drawn b → Tgt r e b := fun b pb db n hn g => by
            obtain ⟨m, rfl⟩ : ∃ m, n = m + 1 := ⟨n - 1, by omega⟩
            exact not_behind ok l4 mx1 mx2 ep g pb db (by omega)
          refine ⟨_, rfl, c, 6, rfl, S7.cup, by decide, (by unfold Sm; decide), fun H8 v b8 hc8 v0 v6' => ?_⟩
          have S8 := S7.step b8 hc8
          refine ⟨rfl, _, rfl, ite2 (fun _ => ?_) (fun _ => ?_)⟩
          · refine ⟨_, rfl, c, rfl, S8.cup, fun H9 u y b9 hc9 hu hy yl dr => ?_⟩
            exact ⟨u, y, rfl, hu, hy, yl, drawn y (ResP.pos hy) dr, S8.step b9 hc9⟩
          · have hp8 : PairAt H8 p b := S7.tup b8 hp
            refine ⟨_, rfl, p, [b.1, b.2], rfl, SqT.of hp8, Nat.succ_pos _, fun M hM hmax => ⟨_, _, rfl, rfl, ⟨by decide, by decide, by decide⟩, _, _, rfl, rfl, _, rfl, ite2 (fun _ => ?_) (fun w1 => ?_)⟩⟩
            · refine ⟨_, rfl, c, rfl, S8.cup, fun H9 u y b9 hc9 hu hy yl dr => ?_⟩
              exact ⟨u, y, rfl, hu, hy, yl, drawn y (ResP.pos hy) dr, S8.step b9 hc9⟩
            · have mx12 : M ≤ 1000000000000 := by
                rcases Int.lt_or_le 1000000000000 M with z | z
                · exact absurd (decide_eq_true (by rw [e12]; exact z)) w1
                · exact z
              exact ⟨p, b, rfl, hp8, res_of pb lb fun y hy => Int.le_trans (hmax y hy) mx12, lb, tb, S8⟩
        clear hp pb lb tb S7
        rintro σ' H8 ⟨p, b, rfl, hp, rb, lb, tb, S8⟩
        have pb := ResP.pos rb
        refine ⟨fun σ' H' => ∃ L, σ' = [some (.ref c), some (.ref a), some (.ref t), some (.ref x), some (.ref l), some (.int (0 + i)), some (.int (j : Int)), some (.ref p), some (.ref L), v9, v10, v11] ∧ H' L = some (.lst (((List.range 61).filter fun n => decide (shN r e n = b)).map fun n => V.int ((n : Nat) : Int))) ∧ PairAt H' p b ∧ SM TT C aO Ce Cl H c l x ys r e H', ?_, ?_⟩
        · refine ⟨61, rfl, by decide, by decide, fun D hD => ?_⟩
          refine lc_range (lo := 0) (n := Int.toNat 61) (fun m H' => But D H8 H' ∧ H' D = some (.lst (((List.range m).filter fun n => decide (shN r e n = b)).map fun n => V.int ((n : Nat) : Int)))) ⟨But.upd, upd_same⟩ ?_ ?_
          · rintro m H' hm ⟨bD, hDi⟩
            have hm : m < 61 := hm
            have S8' : H' l = some (.lst ys) := bD _ _ (ne_of_none S8.way hD) S8.way
            obtain ⟨q, hq, pq⟩ := S8.wayP.2 m (shN r e m) (shL_at hm)
            have pq' : PairAt H' q (shN r e m) := bD _ _ (ne_of_none pq hD) pq
            have hp' : PairAt H' p b := bD _ _ (ne_of_none hp hD) hp
            have e0 : (0 : Int) + (m : Int) = (m : Int) := by omega
            have fr : (List.range (m + 1)).filter (fun n => decide (shN r e n = b)) = (List.range m).filter (fun n => decide (shN r e n = b)) ++ (if shN r e m = b then [m] else []) := by
              rw [List.range_succ, List.filter_append]
              by_cases z : shN r e m = b
              · rw [if_pos z]
                simp [z]
              · rw [if_neg z]
                simp [z]
            refine ⟨rfl, _, rfl, _, rfl, l, _, _, _, rfl, rfl, SqL.of S8', (by rw [e0]; exact atI_nat hq), _, rfl, _, _, dp_pair pq', dp_pair hp', rfl, rfl, decide (shN r e m = b), congrArg V.bl (eqv_pair _ _), ite2 (fun w => ?_) (fun w => ?_)⟩
            · have w := of_decide_eq_true w
              rw [if_pos w] at fr
              refine ⟨_, rfl, _, hDi, ?_, ?_, ?_⟩
              · rw [List.length_map]
                have := List.length_filter_le (fun n => decide (shN r e n = b)) (List.range m)
                rw [List.length_range] at this
                exact small1000 (by omega)
              · exact fun y o ny e => by rw [upd_ne ny]; exact bD _ _ ny e
              · rw [fr, upd_same, List.map_append]
                show _ = some (HO.lst (_ ++ [V.int ((m : Nat) : Int)]))
                rw [e0]
            · have w : ¬ shN r e m = b := fun z => w (decide_eq_true z)
              rw [if_neg w, List.append_nil] at fr
              refine ⟨bD, ?_⟩
              rw [fr]
              exact hDi
          · rintro H' ⟨bD, hDn⟩
            have s8 : Same H8 H' := fun y o h => bD _ _ (ne_of_none h hD) h
            exact ⟨D, rfl, hDn, s8 _ _ hp, S8.same s8⟩
        clear hp S8
        rintro σ' H9 ⟨L, rfl, hL, hp, S9⟩
        refine ⟨fun σ' H' => σ' = [some (.ref c), some (.ref a), some (.ref t), some (.ref x), some (.ref l), some (.int (0 + i)), some (.int (j : Int)), some (.ref p), some (.ref L), v9, some (optV (firstS r e b)), v11] ∧ PairAt H' p b ∧ SM TT C aO Ce Cl H c l x ys r e H', ?_, ?_⟩
        · have hf : firstS r e b = ((List.range 61).filter fun n => decide (shN r e n = b)).head? := (List.head?_filter ..).symm
          rw [hf]
          generalize (List.range 61).filter (fun n => decide (shN r e n = b)) = ks at *
          refine ⟨_, rfl, (by show 0 ≤ sizeLine; decide), fun u nu => ?_⟩
          have su := same_upd (o := .lst []) nu
          have dks : Dp K (upd H9 u (.lst [])) (.ref L) (.list (ks.map fun n => .int ((n : Nat) : Int))) := by
            refine .lst (SqL.of (su _ _ hL)) ?_
            clear hL hf
            induction ks with
            | nil => exact .nil
            | cons k ks ih => exact .cons (.int _) ih
          refine ⟨_, _, dks, .lst (SqL.of upd_same) .nil, sh_ints ks, by decide +kernel, _, rfl, ite2 (fun w => ?_) (fun w => ?_)⟩
          · cases ks with
            | nil => exact absurd w (by decide +kernel)
            | cons k ks => exact ⟨_, rfl, L, _, _, _, rfl, rfl, SqL.of (su _ _ hL), atI_nat (j := 0) rfl, rfl, su _ _ hp, S9.same su⟩
          · cases ks with
            | nil => exact ⟨rfl, su _ _ hp, S9.same su⟩
            | cons k ks => exact absurd (by rfl) w
        clear hL hp S9
        rintro σ' H9b ⟨rfl, hp, S9⟩
        have cf := co_first ok ep pb lb tb
        refine ⟨fun σ' H' => ∃ M, σ' = [some (.ref c), some (.ref a), some (.ref t), some (.ref x), some (.ref l), some (.int (0 + i)), some (.int (j : Int)), some (.ref p), some (.ref L), v9, some (optV (firstS r e b)), some (.ref M)] ∧ H' M = some (.lst [optV (firstS r e b), optV (firstS r e b)]) ∧ SM TT C aO Ce Cl H c l x ys r e H', ?_, ?_⟩
        · refine ⟨_, rfl, _, rfl, _, rfl, c, p, b, rfl, S9.cup, hp, rb, fun H10 v k10 b10 hc10 kp hv => ?_⟩
          have S10 := S9.step b10 hc10
          refine ⟨x, v, r, e, sc k10 b, rfl, S10.lad, hv, S10.tabs, ok, n1, kd, ep, es1, es2, fun H11 o1 x11 T11 c1 => ?_⟩
          have S11 := S10.ext x11 T11
          have hp11 := ext_tup x11 (S9.tup b10 hp)
          refine ⟨_, rfl, _, rfl, x, .ref p, r, e, b, rfl, S11.lad, .inr ⟨p, rfl, hp11, rb⟩, S11.tabs, ok, n1, kd, ep, es1, es2, fun H12 o2 x12 T12 c2 => ?_⟩
          rw [(co_sc kp c1).uniq cf, c2.uniq cf]
          exact ⟨(by show 2 ≤ sizeLine; decide), fun M nM => ⟨M, rfl, upd_same, (S11.ext x12 T12).same (same_upd nM)⟩⟩
        clear hp S9
        rintro σ' H10 ⟨M, rfl, hM, S10⟩
        have dl : ∀ {HH : Hp} {u : Addr}, HH u = some (.lst [optV (firstS r e b), optV (firstS r e b)]) → Dp K HH (.ref u) (.list [optD (firstS r e b), optD (firstS r e b)]) := fun h => .lst (SqL.of h) (.cons (dp_opt _) (.cons (dp_opt _) .nil))
        obtain ⟨d1, d2, d3, d4⟩ := opt_show (o := firstS r e b) (o' := firstS r e b) (first_lt r e b) (first_lt r e b)
        refine ⟨_, rfl, M, _, rfl, dl hM, d1, d2, d3, d4, _, rfl, _, rfl, (by show 2 ≤ sizeLine; decide), fun u nu => ?_⟩
        have su := same_upd (o := .lst [optV (firstS r e b), optV (firstS r e b)]) nu
        exact ⟨u, _, rfl, dl upd_same, d1, d2, d3, d4, rfl, _, rfl, ite2 (fun w => absurd w (by simp)) (fun _ => ⟨⟨_, _, _, _, _, _, _, rfl⟩, S10.same su⟩)⟩
      · rintro σ H4 ⟨⟨v5, v6, v7, v8, v9, v10, v11, rfl⟩, S4⟩
        exact ⟨⟨_, _, _, _, _, _, _, rfl⟩, S4⟩
    rintro σ' H4 ⟨⟨v5, v6, v7, v8, v9, v10, v11, rfl⟩, S4⟩
    exact k _ S4.but S4.cup S4.tabs
end
end RL

set_option maxHeartbeats 4000000
namespace RL
open PySem L2 PySem.Spec PyProof.Rows
theorem fold_at {b : Bool} {r : List Pc} (ok : RowOk r) (l3 : r.length ≤ 3) (h : OneW b r) : (r.foldl atS (0, 1) = if b then ((matR r).b, 1) else ((matR r).c, (matR r).d)) ∧ Sm 41 (r.foldl atS (0, 1)).1 ∧ Sm 41 (r.foldl atS (0, 1)).2 := by
  have ms : MxSm 41 (matR r) := (fold_sm ok m1_sm).mono (by omega)
  obtain ⟨sa, sb, sc, sd⟩ := ms
  cases b
  · have e : r.foldl atS (0, 1) = ((matR r).c, (matR r).d) := atS_rungs h m1
    rw [e, if_neg (by decide)]
    exact ⟨rfl, sc, sd⟩
  · have e : r.foldl atS (0, 1) = ((matR r).b, 1) := atS_rails h m1 rfl rfl rfl
    rw [e, if_pos rfl]
    exact ⟨rfl, sb, by show Sm 41 1; unfold Sm; decide⟩
structure SF (TT : List (Addr × Str)) (H0 : Hp) (c a t : Addr) (r : List Pc) (e : Int × Int) (H : Hp) : Prop where
  but : ButT c H0 H
  cup : CupAt c H
  tabs : LamX.Tabs TT H
  row : RowL H a r
  en : PairAt H t e
  nac : a ≠ c
section
variable {TT : List (Addr × Str)} {H0 H H' : Hp} {c a t : Addr} {r : List Pc} {e : Int × Int}
theorem SF.ext (S : SF TT H0 c a t r e H) (s : LamX.ExtN H H') (T : LamX.Tabs TT H') : SF TT H0 c a t r e H' := ⟨S.but.trans (.ext s), S.cup.ext s, T, S.row.ext s, ext_tup s S.en, S.nac⟩
theorem SF.same (S : SF TT H0 c a t r e H) (s : Same H H') : SF TT H0 c a t r e H' := S.ext (.of s) (tabs_same S.tabs s)
theorem SF.step (S : SF TT H0 c a t r e H) (s : But c H H') (hc : CupAt c H') : SF TT H0 c a t r e H' := by
  obtain ⟨u, v, hcc, _⟩ := id S.cup
  exact ⟨S.but.trans (.but s), hc, tabs_butL S.tabs hcc s, S.row.but S.cup S.nac s, s _ _ (ne_of S.en hcc (by intro z; cases z)) S.en, S.nac⟩
end
def spLaw (K : PySem.W.Frag) (TT : List (Addr × Str)) : Sp := fun vs H Q _ => ∃ (a : Addr) (ns : List Int), vs = [.ref a] ∧ SqL K H a (ns.map V.int) ∧ ns.length ≤ 63 ∧ LamX.Tabs TT H ∧ ∀ H', Q (.bl true) H'
theorem seq_butT {K : PySem.W.Frag} {H H' : Hp} {D a : Addr} {xs : List V} (h : SqL K H a xs) (n : H D = none) (b : ButT D H H') : SqL K H' a xs := by
  rcases h with (h | ⟨o, h⟩) | h
  · exact .inl (.inl (b _ _ (ne_of_none h n) (by intro ps z; cases z) h))
  · exact .inl (.inr ⟨o, b _ _ (ne_of_none h n) (by intro ps z; cases z) h⟩)
  · exact .inr h
theorem sql_extW {K : PySem.W.Frag} {H H' : Hp} {a : Addr} {xs : List V} (h : SqL K H a xs) (b : LamX.ExtN H H') : SqL K H' a xs := by
  rcases h with (h | ⟨o, h⟩) | h
  · exact .inl (.inl (b _ _ h (by intro ps z; cases z)))
  · exact .inl (.inr ⟨o, b _ _ h (by intro ps z; cases z)⟩)
  · exact .inr h
theorem tabs_updL {TT : List (Addr × Str)} {H : Hp} {D : Addr} {xs : List V} {o : HO} (t : LamX.Tabs TT H) (h : H D = some (.lst xs)) : LamX.Tabs TT (upd H D o) := tabs_butL t h But.upd
theorem all_rep : ∀ n : Nat, (List.replicate n true).all id = true := fun n => by
  rw [List.all_eq_true]
  intro z hz
  rw [List.eq_of_mem_replicate hz]
  rfl
abbrev rA : List Pc := [(true, 1), (false, 1)]
abbrev rB : List Pc := [(true, 1), (false, 2)]
abbrev rC : List Pc := [(false, 2)]
theorem okA' : RowOk rA := (RowOk.one ⟨by decide, by decide⟩ : RowOk [(true, 1)]).app (RowOk.one ⟨by decide, by decide⟩ : RowOk [(false, 1)])
theorem okB' : RowOk rB := (RowOk.one ⟨by decide, by decide⟩ : RowOk [(true, 1)]).app (RowOk.one ⟨by decide, by decide⟩ : RowOk [(false, 2)])
theorem okC' : RowOk rC := (RowOk.one ⟨by decide, by decide⟩ : RowOk [(false, 2)])
theorem kdA : KindOk rA := .inl ⟨by decide, ⟨(true, 1), by decide, rfl⟩, ⟨(false, 1), by decide, rfl⟩⟩
theorem kdB : KindOk rB := .inl ⟨by decide, ⟨(true, 1), by decide, rfl⟩, ⟨(false, 2), by decide, rfl⟩⟩
theorem kdC : KindOk rC := .inr ⟨by decide, .inr fun p hp => by rw [List.mem_singleton.mp hp]⟩
theorem pos01 : Pos2 ((0 : Int), (1 : Int)) := ⟨by decide, by decide, .inr (by decide)⟩
theorem pos11 : Pos2 ((1 : Int), (1 : Int)) := ⟨by decide, by decide, .inr (by decide)⟩
theorem smal {z : Int} (h : z.natAbs < 10) : Sm 41 z := Nat.lt_of_lt_of_le h (by decide)
theorem co_none {r : List Pc} {e b : Int × Int} (ok : RowOk r) (n1 : 1 ≤ r.length) (he : Pos2 e) (hb : Pos2 b) (g0 : goR r e ≠ 0) (h : sg (goV (matR r) b) ≠ goR r e) : CoOk r e b none := fun n z => by
  have := never_hold ok n1 he hb g0 h n false
  unfold holdB at this
  rw [z, Int.mul_zero] at this
  cases this
theorem sql_keep {K : PySem.W.Frag} {H : Hp} {a l : Addr} {ns : List Int} {ys : List V} {o : HO} (h : SqL K H a (ns.map V.int)) (hl : H l = some (.lst ys)) (hn : V.non ∈ ys) : SqL K (upd H l o) a (ns.map V.int) := by
  rcases h with (h | ⟨o', h⟩) | h
  · refine .inl (.inl ?_)
    rw [upd_ne (fun e => ?_)]
    · exact h
    · rw [e, hl] at h
      cases h
      obtain ⟨_, _, z⟩ := List.mem_map.mp hn
      cases z
  · refine .inl (.inr ⟨o', ?_⟩)
    rw [upd_ne (fun e => ?_)]
    · exact h
    · rw [e, hl] at h
      cases h
  · exact .inr h
theorem mul_ne {a b : Int} (h : a ≠ 0) (h' : b ≠ 0) : a * b ≠ 0 := fun z => by
  rcases Int.mul_eq_zero.mp z with q | q
  · exact h q
  · exact h' q
theorem at_zero {b : Bool} {r : List Pc} (ok : RowOk r) (n1 : 1 ≤ r.length) (h : OneW b r) {e : Int × Int} (he : Pos2 e) (n : Nat) (x : Int × Int) : crs (appN (matR r) n (low e)) x = 0 ↔ crs (atP b r e n) x = 0 := by
  have := at_side ok n1 h he n x
  omega
theorem co_at {b : Bool} {r : List Pc} {e x y : Int × Int} (ok : RowOk r) (n1 : 1 ≤ r.length) (h : OneW b r) (he : Pos2 e) (n : Nat) (h1 : crs (atP b r e n) x = 0) (h2 : ∀ m : Nat, m ≠ n → crs (atP b r e m) x ≠ 0) (h3 : ∀ m : Nat, crs (atP b r e m) y ≠ 0) : CoOk r (low e) x (some n) ∧ CoOk r (low e) y none :=
  ⟨⟨(at_zero ok n1 h he n x).mpr h1, fun k hk z => h2 k (by omega) ((at_zero ok n1 h he k x).mp z)⟩, fun m z => h3 m ((at_zero ok n1 h he m y).mp z)⟩
section
variable {P : Program} {w : World} {K : PySem.W.Frag} {mg : Str → Option Value} {base : Heap} {tG t1 t2 t3 tP tC : Tok} {aO aW J C Ce Cl Cg Cs fL fP : Addr} {fdL : FuncData} {TT : List (Addr × Str)}
theorem sc_law_far : FnScope ["_law_cup_here", "_law_row_here", "_law_at", "_law_top", "_law_bottom", "_law_word", "_law_ohms", "_law_start", "_law_run_here", "_law_part", "_law_beside", "_law_over"] ["_law_cup_here"] (defScope s_law_far) := ⟨rfl, rfl, rfl, by decide +kernel, rfl, by decide +kernel, by decide +kernel⟩

theorem ok_farC {f : Addr} {fd : FuncData} (F : Fun K "_law_far" "_law_far" s_law_far f fd) (T : TxtS K mg tG t1 t2 t3 tP tC aO aW J C Ce Cl Cg Cs) (X_lad : LadD P w K mg base C aO Ce Cl fL fdL)
    (D_law_sip : Df P w K mg base 1 "_law_sip" ["_law_cup_here", "_law_many"] spSip) (D_law_pick : Df P w K mg base 2 "_law_pick" ["_law_cup_here", "_law_things"] spPick) (D_law_pair : Df P w K mg base 1 "_law_pair" ["_law_top", "_law_bottom"] spPair) (D_law_lines : Df P w K mg base 3 "_law_lines" ["_law_cup_here"] spLines) (D_law_read : Df P w K mg base 8 "_law_read" ["_law_row_here"] (spReadL C))
    (D_count_of : Df P w K mg base 12 "count_of" ["run", "target"] (spCo TT C aO Ce Cl)) : FnG P w K mg base 13 f fd ["_law_cup_here"] (spTurnT TT) := by
  refine okG F sc_law_far (fun vs H Q E h => ?_) (fun cdv A outer s H vs Q E hg hr h => ?_)
  · obtain ⟨c, rfl, _⟩ := h
    rfl
  · obtain ⟨c, rfl, hc, hT, k⟩ := h
    refine ⟨_, (C8.pss_cut (ps_par (by rfl) sc_law_far.nd (i := 1) (j := 2) rfl rfl (by decide) rfl rfl (pa_cons (pe_df D_law_lines (hr.mono (by decide)) (by rfl) (pa_cons (pv 0) pa_nil)) (pa_cons (pe_df D_law_pick (hr.mono (by decide)) (by rfl) (pa_cons (pv 0) (pa_cons (pe_lst (pa_cons pe_int (pa_cons (pe_op op_add pe_int (pe_df D_law_sip (hr.mono (by decide)) (by rfl) (pa_cons (pv 0) (pa_cons pe_int pa_nil)))) (pa_cons (pe_op op_add (pe_op op_pow pe_int pe_int) (pe_df D_law_sip (hr.mono (by decide)) (by rfl) (pa_cons (pv 0) (pa_cons (pe_op op_pow pe_int pe_int) pa_nil)))) (pa_cons (pe_op op_pow pe_int pe_int) pa_nil))))) pa_nil))) pa_nil)) (by rfl))
      (C8.pss_cut (ps_asg (pe_tup (pa_cons pe_int (pa_cons pe_int pa_nil))) (pg_tup rfl (pgs_cons (pg_name (i := 3) sc_law_far.nd rfl (.inl rfl)) (pgs_cons (pg_name (i := 4) sc_law_far.nd rfl (.inl rfl)) pgs_nil))))
      (C8.pss_cut (ps_for PassesOwn.never rfl (pi_list (pv 1)) (pg_tup rfl (pgs_cons (pg_name (i := 5) sc_law_far.nd rfl (.inl rfl)) (pgs_cons (pg_name (i := 6) sc_law_far.nd rfl (.inl rfl)) pgs_nil))) (pss_one (ps_asg (pe_ifExp (pt_cmpR op_eq (pv 5) pe_str (nomark _)) (pe_tup (pa_cons (pe_op op_add (pv 3) (pv 6)) (pa_cons pe_int pa_nil))) (pe_tup (pa_cons (pe_op op_add (pe_op op_mulX (pv 3) (pv 6)) (pv 4)) (pa_cons (pe_op op_mulX (pv 4) (pv 6)) pa_nil)))) (pg_tup rfl (pgs_cons (pg_name (i := 3) sc_law_far.nd rfl (.inl rfl)) (pgs_cons (pg_name (i := 4) sc_law_far.nd rfl (.inl rfl)) pgs_nil))))))
      (C8.pss_cut (ps_set (i := 7) sc_law_far.nd rfl (.inl rfl) (pe_df D_law_sip (hr.mono (by decide)) (by rfl) (pa_cons (pv 0) (pa_cons pe_int pa_nil))))
      (C8.pss_cut (ps_if (pt_cmpR op_eq (pe_ix ix_tup (pe_ix ix_list (pv 1) pe_int (fun _ _ => rfl)) pe_int (fun _ _ => rfl)) pe_str (nomark _)) (pss_cons (ps_set (i := 8) sc_law_far.nd rfl (.inl rfl) (pe_make X_lad.m X_lad.fn (hr.mono (by decide)) rfl T.mgL X_lad.bd .nil pass0 (pa_cons (pe_df D_law_read (hr.mono (by decide)) (by rfl) (pa_cons (pv 1) pa_nil)) (pa_cons (pe_tup (pa_cons (pv 7) (pa_cons pe_int pa_nil))) pa_nil))))
      (pss_one (ps_par (by rfl) sc_law_far.nd (i := 9) (j := 10) rfl rfl (by decide) rfl rfl (pa_cons (pe_tup (pa_cons (pe_op op_add (pv 7) (pe_op op_mulX (pe_op op_mul pe_int (pv 2)) (pv 3))) (pa_cons pe_int pa_nil))) (pa_cons (pe_tup (pa_cons (pe_op op_add (pe_op op_add (pe_op op_mul pe_int (pv 7)) (pe_op op_mulX (pe_op op_mul pe_int (pv 2)) (pv 3))) pe_int) (pa_cons pe_int pa_nil))) pa_nil)) (by rfl)))) (pss_cons (ps_set (i := 8) sc_law_far.nd rfl (.inl rfl) (pe_make X_lad.m X_lad.fn (hr.mono (by decide)) rfl T.mgL X_lad.bd .nil pass0 (pa_cons (pe_df D_law_read (hr.mono (by decide)) (by rfl) (pa_cons (pv 1) pa_nil)) (pa_cons (pe_ifExp (pt_cmpR op_gt (pv 7) pe_int (nomark _)) (pe_tup (pa_cons pe_int (pa_cons (pv 7) pa_nil))) (pe_tup (pa_cons pe_int (pa_cons pe_int pa_nil)))) pa_nil))))
      (pss_cons (ps_set (i := 11) sc_law_far.nd rfl (.inl rfl) (pe_op op_add (pe_op op_mulX (pv 7) (pv 4)) (pe_op op_mulX (pv 2) (pv 3))))
      (pss_one (ps_par (by rfl) sc_law_far.nd (i := 9) (j := 10) rfl rfl (by decide) rfl rfl (pa_cons (pe_df D_law_pair (hr.mono (by decide)) (by rfl) (pa_cons (pv 4) (pa_cons (pv 11) pa_nil))) (pa_cons (pe_df D_law_pair (hr.mono (by decide)) (by rfl) (pa_cons (pe_op op_mul pe_int (pv 4)) (pa_cons (pe_op op_add (pe_op op_mul pe_int (pv 11)) pe_int) pa_nil))) pa_nil)) (by rfl))))))
      (C8.pss_cut (ps_if (PW.pt (pw_or (pt_cmpR op_gt (pe_callB (cr_maxT rfl) (by rfl) T.max (by decide +kernel) (pa_cons (pv 9) pa_nil)) (pe_op op_pow pe_int pe_int) (nomark _)) (pw_or1 (pt_cmpR op_gt (pe_callB (cr_maxT rfl) (by rfl) T.max (by decide +kernel) (pa_cons (pv 10) pa_nil)) (pe_op op_pow pe_int pe_int) (nomark _))))) (pss_one (ps_ret pe_bl)) pss_nil)
      (pss_one (ps_ret (pe_cmpR op_eq (pe_callB (cr_repr hg hr.units) (by rfl) T.repr (by decide +kernel) (pa_cons (pe_lst (pa_cons (pe_df D_count_of (hr.mono (by decide)) (by rfl) (pa_cons (pv 8) (pa_cons (pv 9) pa_nil))) (pa_cons (pe_df D_count_of (hr.mono (by decide)) (by rfl) (pa_cons (pv 8) (pa_cons (pv 10) pa_nil))) pa_nil))) pa_nil)) (pe_callB (cr_repr hg hr.units) (by rfl) T.repr (by decide +kernel) (pa_cons (pe_lst (pa_cons (pv 2) (pa_cons pe_non pa_nil))) pa_nil)) (nomark _)))))))))), ?_⟩
    have e6 : (10 : Int) ^ Int.toNat 6 = 1000000 := by decide
    have e9 : (10 : Int) ^ Int.toNat 9 = 1000000000 := by decide
    have e12 : (10 : Int) ^ Int.toNat 12 = 1000000000000 := by decide
    refine ⟨fun σ' H' => ∃ a r b, ∃ n : Nat, σ' = [some (.ref c), some (.ref a), some (.int (n : Int)), none, none, none, none, none, none, none, none, none] ∧ But c H H' ∧ CupAt c H' ∧ LamX.Tabs TT H' ∧ a ≠ c ∧ RowL H' a r ∧ RowOk r ∧ 1 ≤ r.length ∧ r.length ≤ 3 ∧ OneW b r ∧ n ≤ 1000000000, ?_, ?_⟩
    · refine ⟨_, rfl, c, rfl, hc, fun H1 a r b b1 hc1 nac hA ok n1 l3 ho => ⟨_, rfl, _, rfl, c, 40, rfl, hc1, by decide, (by unfold Sm; decide), fun H2 x b2 hc2 x0 x1 => ⟨_, _, rfl, rfl, _, _, rfl, rfl, ⟨by decide, by decide, by decide⟩, _, rfl, _, _, rfl, rfl, ⟨by decide, by decide, by decide⟩, c, _, rfl, hc2, by decide, (by unfold Sm; decide), fun H3 y b3 hc3 y0 y1 => ⟨_, _, rfl, rfl, _, _, rfl, rfl, ⟨by decide, by decide, by decide⟩, (by show 4 ≤ sizeLine; decide), fun L nL => ?_⟩⟩⟩⟩
      rw [e6] at y1
      refine ⟨c, L, _, rfl, hc3.same (same_upd nL), hc3.ne nL, upd_same, by show 0 < 4; decide, by show 4 ≤ 100; decide, fun H4 v b4 hc4 hv => ?_⟩
      simp only [List.mem_cons, List.not_mem_nil, or_false] at hv
      rw [e6, e9] at hv
      have hv : ∃ n : Nat, v = .int (n : Int) ∧ n ≤ 1000000000 := by
        rcases hv with rfl | rfl | rfl | rfl
        · exact ⟨0, rfl, by decide⟩
        · exact ⟨(1 + x).toNat, by rw [Int.toNat_of_nonneg (by omega)], by omega⟩
        · exact ⟨(1000000 + y).toNat, by rw [Int.toNat_of_nonneg (by omega)], by omega⟩
        · exact ⟨1000000000, rfl, by decide⟩
      obtain ⟨n, rfl, hn⟩ := hv
      obtain ⟨u, v, hcc, _⟩ := id hc
      obtain ⟨u1, v1, hcc1, _⟩ := id hc1
      obtain ⟨u2, v2, hcc2, _⟩ := id hc2
      have sL := same_upd (o := .lst [.int 0, .int (1 + x), .int ((10 : Int) ^ Int.toNat 6 + y), .int ((10 : Int) ^ Int.toNat 9)]) nL
      obtain ⟨u3, v3, hcc3, _⟩ := id (hc3.same sL)
      exact ⟨_, _, rfl, a, r, b, n, rfl, (((b1.trans b2).trans b3).trans (.of sL)).trans b4, hc4, tabs_butL (tabs_same (tabs_butL (tabs_butL (tabs_butL hT hcc b1) hcc1 b2) hcc2 b3) sL) hcc3 b4, nac, ((((hA.but hc1 nac b2).but hc2 nac b3).same sL).but (hc3.same sL) nac b4), ok, n1, l3, ho, hn⟩
    clear hc hT
    rintro σ' H1 ⟨a, r, b, n, rfl, b1, hc1, hT1, nac, hA, ok, n1, l3, ho, nn⟩
    have l8 : r.length ≤ 8 := by omega
    have kd : KindOk r := by
      refine .inr ⟨l8, ?_⟩
      cases b
      · exact .inr ho
      · exact .inl ho
    refine ⟨fun σ' H' => σ' = [some (.ref c), some (.ref a), some (.int (n : Int)), some (.int 0), some (.int 1), none, none, none, none, none, none, none] ∧ But c H H' ∧ CupAt c H' ∧ LamX.Tabs TT H' ∧ RowL H' a r, ?_, ?_⟩
    · refine ⟨(by show 2 ≤ sizeLine; decide), fun u nu => ⟨u, _, rfl, SqT.of upd_same, rfl, _, _, rfl, _, _, rfl, rfl, ?_⟩⟩
      have s0 := same_upd (o := .tup [.int 0, .int 1]) nu
      exact ⟨rfl, b1.trans (.of s0), hc1.same s0, tabs_same hT1 s0, hA.same s0⟩
    clear b1 hc1 hT1 hA
    rintro σ' H2 ⟨rfl, b2, hc2, hT2, hA⟩
    refine ⟨fun σ' H' => (∃ v5 v6, σ' = [some (.ref c), some (.ref a), some (.int (n : Int)), some (.int (r.foldl atS (0, 1)).1), some (.int (r.foldl atS (0, 1)).2), v5, v6, none, none, none, none, none]) ∧ Same H2 H', ?_, ?_⟩
    · obtain ⟨ws, ha, hw⟩ := id hA
      refine ⟨_, rfl, a, rfl, ⟨_, SqL.of ha⟩, ?_⟩
      refine for_list (K := K) (a := a) (xs := ws) (fun i σ H' => Same H2 H' ∧ ∃ v5 v6, σ = [some (.ref c), some (.ref a), some (.int (n : Int)), some (.int ((r.take i).foldl atS (0, 1)).1), some (.int ((r.take i).foldl atS (0, 1)).2), v5, v6, none, none, none, none, none]) ⟨.refl _, none, none, rfl⟩ (fun i σ H' _ h => SqL.of (h.1 _ _ ha)) ?_ ?_
      · rintro i x σ H' hx ⟨sm, v1, v2, rfl⟩
        obtain ⟨pc, hpc, p, rfl, hp⟩ := hw.at_ hx
        have tk : r.take (i + 1) = r.take i ++ [pc] := by
          rw [List.take_succ, hpc]
          rfl
        have f1 : (r.take (i + 1)).foldl atS (0, 1) = atS ((r.take i).foldl atS (0, 1)) pc := by rw [tk, List.foldl_append]; rfl
        obtain ⟨_, z1, z2⟩ := fold_at (b := b) (r := r.take i) (fun z hz => ok z (List.mem_of_mem_take hz)) (by rw [List.length_take]; omega) (fun z hz => ho z (List.mem_of_mem_take hz))
        have po := ohm_sm (ok.at_ hpc)
        rw [f1]
        generalize (r.take i).foldl atS (0, 1) = g at *
        refine ⟨p, _, rfl, SqT.of (sm _ _ hp), rfl, _, _, rfl, _, _, rfl, rfl, ?_⟩
        refine ⟨_, rfl, rfl, _, rfl, ite2 (fun e => ?_) (fun e => ?_)⟩
        · have r1 : pc.1 = true := wd_inj (r' := true) (V.str.inj (of_decide_eq_true e))
          unfold atS
          rw [if_pos r1]
          exact ⟨_, rfl, _, rfl, _, _, rfl, rfl, (by show 2 ≤ sizeLine; decide), fun q nq => ⟨q, _, rfl, SqT.of upd_same, rfl, _, _, rfl, _, _, rfl, rfl, sm.trans (same_upd nq), _, _, rfl⟩⟩
        · have r1 : ¬ pc.1 = true := fun z => e (decide_eq_true (by rw [z]; rfl))
          unfold atS
          rw [if_neg r1]
          exact ⟨_, rfl, _, rfl, _, _, rfl, rfl, mx z1 po, _, rfl, _, _, rfl, rfl, _, rfl, _, rfl, _, _, rfl, rfl, mx z2 po, (by show 2 ≤ sizeLine; decide), fun q nq => ⟨q, _, rfl, SqT.of upd_same, rfl, _, _, rfl, _, _, rfl, rfl, sm.trans (same_upd nq), _, _, rfl⟩⟩
      · rintro σ H' ⟨sm, v1, v2, rfl⟩
        rw [hw.1, List.take_length]
        exact ⟨⟨_, _, rfl⟩, sm⟩
    rintro σ' H3 ⟨⟨v5, v6, rfl⟩, s3⟩
    obtain ⟨fe, z1, z2⟩ := fold_at ok l3 ho
    refine ⟨fun σ' H' => ∃ st : Int, σ' = [some (.ref c), some (.ref a), some (.int (n : Int)), some (.int (r.foldl atS (0, 1)).1), some (.int (r.foldl atS (0, 1)).2), v5, v6, some (.int st), none, none, none, none] ∧ 0 ≤ st ∧ st < 12 ∧ But c H H' ∧ CupAt c H' ∧ LamX.Tabs TT H' ∧ RowL H' a r, ?_, ?_⟩
    · refine ⟨_, rfl, c, 12, rfl, hc2.same s3, by decide, (by unfold Sm; decide), fun H4 st b4 hc4 s0 s12 => ?_⟩
      obtain ⟨u, v, hcc, _⟩ := id (hc2.same s3)
      exact ⟨st, rfl, s0, s12, (b2.trans (.of s3)).trans b4, hc4, tabs_butL (tabs_same hT2 s3) hcc b4, (hA.same s3).but (hc2.same s3) nac b4⟩
    clear b2 hc2 hT2 hA s3
    rintro σ' H4 ⟨st, rfl, st0, st12, b4, hc4, hT4, hA⟩
    have sst : Sm 41 st := (sm_lt (n := 5) st0 (by have : (2 : Int) ^ 5 = 32 := by decide
                                                   rw [this]; omega)).mono (by decide)
    have sn : Sm 41 (n : Int) := sm_lt (by omega) (by
      have e : (2 : Int) ^ 41 = 2199023255552 := by decide
      rw [e]
      omega)
    refine ⟨fun σ' H' => ∃ x p q b1 b2 e v11, σ' = [some (.ref c), some (.ref a), some (.int (n : Int)), some (.int (r.foldl atS (0, 1)).1), some (.int (r.foldl atS (0, 1)).2), v5, v6, some (.int st), some (.ref x), some (.ref p), some (.ref q), v11] ∧ But c H H' ∧ CupAt c H' ∧ LamX.Tabs TT H' ∧ LadAt C aO Ce Cl H' x r (low e) ∧ Pos2 e ∧ Sm 41 (low e).1 ∧ Sm 41 (low e).2 ∧ PairAt H' p b1 ∧ PairAt H' q b2 ∧
        CoOk r (low e) b1 (some n) ∧ CoOk r (low e) b2 none ∧ ((∀ y, y ∈ [b1.1, b1.2] → y ≤ 1000000000000) → ResP b1.1 b1.2) ∧ ((∀ y, y ∈ [b2.1, b2.2] → y ≤ 1000000000000) → ResP b2.1 b2.2), ?_, ?_⟩
    · obtain ⟨ws, ha, hw⟩ := id hA
      obtain ⟨q0, hq0⟩ : ∃ q0, r[0]? = some q0 := ⟨r[0], List.getElem?_eq_getElem n1⟩
      obtain ⟨y0, hy0, q, rfl, hq⟩ := hw.2 0 q0 hq0
      have b0 : q0.1 = b := ho q0 (List.mem_of_getElem? hq0)
      have om := one_mat ok n1 ho
      refine ⟨_, rfl, a, _, _, _, rfl, rfl, SqL.of ha, atI_nat (j := 0) hy0, q, _, _, _, rfl, rfl, SqT.of hq, atI_nat (j := 0) rfl, rfl, _, rfl, ite2 (fun w => ?_) (fun w => ?_)⟩
      · have r1 : b = true := by
          rw [← b0]
          exact wd_inj (r' := true) (V.str.inj (of_decide_eq_true w))
        subst r1
        rw [if_pos rfl] at fe om
        rw [fe] at z1 z2 ⊢
        obtain ⟨_, _, _, bp, _⟩ := om
        have hR : ResP st 7 := .inl ⟨st0, by omega, by decide, by decide⟩
        refine ⟨_, rfl, a, r, rfl, hA, ok, n1, l8, fun H5 z s5 nz hz => ⟨_, rfl, (by show 2 ≤ sizeLine; decide), fun t nt => fun x dx nx ndx nex => ?_⟩⟩
        have st_ := same_upd (o := .tup [.int st, .int 7]) nt
        refine make_lad (e := (st, 7)) nx ndx (hz.same st_) ok l8 (.inr ⟨t, rfl, upd_same, hR⟩) fun H6 s6 hx => ?_
        have s46 := (s5.trans st_).trans s6
        have pe : Pos2 (st, (7 : Int)) := ResP.pos hR
        obtain ⟨es1, es2⟩ := ResP.sm (e := (st, 7)) hR
        obtain ⟨y1, y2⟩ := low_sm pe es1 es2
        refine ⟨_, rfl, _, rfl, _, _, rfl, rfl, .inl ⟨by decide, by decide⟩, _, rfl, _, _, rfl, rfl, mx ((show Sm 4 7 by unfold Sm; decide).mul sn) z1, _, _, rfl, rfl, (by show 2 ≤ sizeLine; decide), fun u nu => ?_⟩
        have su := same_upd (o := .tup [.int (st + 7 * (n : Int) * (matR r).b), .int 7]) nu
        refine ⟨_, rfl, _, _, rfl, rfl, .inl ⟨by decide, by decide⟩, _, rfl, _, _, rfl, rfl, .inl ⟨by decide, by decide⟩, _, rfl, _, _, rfl, rfl, mx ((show Sm 5 14 by unfold Sm; decide).mul sn) z1, _, _, rfl, rfl, _, _, rfl, rfl, (by show 2 ≤ sizeLine; decide), fun v nv => ?_⟩
        have sv := same_upd (o := .tup [.int (2 * st + 14 * (n : Int) * (matR r).b + 1), .int 14]) nv
        have s4v := (s46.trans su).trans sv
        have nb : 0 ≤ (n : Int) * (matR r).b := Int.mul_nonneg (by omega) (by omega)
        have co := co_at (x := (st + 7 * (n : Int) * (matR r).b, 7)) (y := (2 * st + 14 * (n : Int) * (matR r).b + 1, 14)) ok n1 ho pe n
          (by unfold crs atP; rw [if_pos rfl]; dsimp only; grind)
          (fun m hm z => by
            unfold crs atP at z
            rw [if_pos rfl] at z
            dsimp only at z
            have e1 : (st + (m : Int) * (matR r).b * 7) * 7 - (st + 7 * (n : Int) * (matR r).b) * 7 = 49 * (((m : Int) - n) * (matR r).b) := by grind
            rw [e1] at z
            exact mul_ne (show (m : Int) - n ≠ 0 by omega) (show (matR r).b ≠ 0 by omega) (by omega))
          (fun m z => by
            unfold crs atP at z
            rw [if_pos rfl] at z
            dsimp only at z
            have e1 : (st + (m : Int) * (matR r).b * 7) * 14 - (2 * st + 14 * (n : Int) * (matR r).b + 1) * 7 = 98 * (((m : Int) - n) * (matR r).b) - 7 := by grind
            rw [e1] at z
            omega)
        refine ⟨_, _, rfl, x, u, v, (st + 7 * (n : Int) * (matR r).b, 7), (2 * st + 14 * (n : Int) * (matR r).b + 1, 14), (st, 7), _, rfl, b4.trans (.of s4v), hc4.same s4v, tabs_same hT4 s4v, hx.same (su.trans sv), pe, y1, y2, sv _ _ upd_same, upd_same, co.1, co.2, fun h => .inl ⟨?_, h _ (by simp), by show (1 : Int) ≤ 7; decide, by show (7 : Int) ≤ 1000000000000; decide⟩, fun h => .inl ⟨?_, h _ (by simp), by show (1 : Int) ≤ 14; decide, by show (14 : Int) ≤ 1000000000000; decide⟩⟩
        · show 0 ≤ st + 7 * (n : Int) * (matR r).b
          rw [Int.mul_assoc]
          omega
        · show 0 ≤ 2 * st + 14 * (n : Int) * (matR r).b + 1
          rw [Int.mul_assoc]
          omega
      · have r1 : b = false := by
          rw [← b0]
          cases hh : q0.1 with
          | false => rfl
          | true => exact absurd (decide_eq_true (by rw [hh]; rfl)) w
        subst r1
        rw [if_neg (by decide)] at fe om
        rw [fe] at z1 z2 ⊢
        obtain ⟨_, _, cp, _⟩ := om
        have dp := (way_of ok n1).d0
        have hR : ResP 1 st := by
          by_cases z : st = 0
          · exact .inr ⟨rfl, z⟩
          · exact .inl ⟨by decide, by decide, by omega, by omega⟩
        have pe : Pos2 ((1 : Int), st) := ResP.pos hR
        obtain ⟨es1, es2⟩ := ResP.sm (e := (1, st)) hR
        obtain ⟨y1, y2⟩ := low_sm pe es1 es2
        have nc : 0 ≤ (n : Int) * (matR r).c := Int.mul_nonneg (by omega) (by omega)
        have sd : 0 ≤ st * (matR r).d := Int.mul_nonneg st0 (by omega)
        have so : Sm 100 (st * (matR r).d + (n : Int) * (matR r).c) := (Sm.add (n := 90) ((sst.mul z2).mono (by decide)) ((sn.mul z1).mono (by decide))).mono (by decide)
        have rest : ∀ {H5 : Hp} {x : Addr}, Same H4 H5 → LadAt C aO Ce Cl H5 x r (low (1, st)) → _ := fun {H5 x} s5 hx => (trivial : True)
        refine ⟨_, rfl, a, r, rfl, hA, ok, n1, l8, fun H5 z s5 nz hz => ⟨_, rfl, _, _, rfl, rfl, _, rfl, ite2 (fun w1 => ?_) (fun w1 => ?_)⟩⟩
        · refine ⟨_, rfl, (by show 2 ≤ sizeLine; decide), fun t nt => fun x dx nx ndx nex => ?_⟩
          have st_ := same_upd (o := .tup [.int 1, .int st]) nt
          refine make_lad (e := (1, st)) nx ndx (hz.same st_) ok l8 (.inr ⟨t, rfl, upd_same, hR⟩) fun H6 s6 hx => ?_
          have s46 := (s5.trans st_).trans s6
          refine ⟨_, rfl, _, rfl, _, _, rfl, rfl, mx sst z2, _, rfl, _, rfl, _, _, rfl, rfl, mx sn z1, _, _, rfl, rfl, ?_⟩
          refine ⟨_, rfl, _, rfl, _, _, rfl, ⟨by show 0 ≤ (matR r).d; omega, by show 0 ≤ st * (matR r).d + (n : Int) * (matR r).c; omega, .inl (by show 0 < (matR r).d; omega)⟩, z2.mono (by decide), so.mono (by decide), fun H7 u s7 nu hu => ?_⟩
          refine ⟨_, rfl, _, _, rfl, rfl, .inl ⟨by decide, by decide⟩, _, rfl, _, _, rfl, rfl, .inl ⟨by decide, by decide⟩, _, _, rfl, rfl, _, _, rfl, ⟨by show 0 ≤ 2 * (matR r).d; omega, by show 0 ≤ 2 * (st * (matR r).d + (n : Int) * (matR r).c) + 1; omega, .inl (by show 0 < 2 * (matR r).d; omega)⟩, ((show Sm 2 2 by unfold Sm; decide).mul z2).mono (by decide), (Sm.add (n := 110) (((show Sm 2 2 by unfold Sm; decide).mul so).mono (by decide)) (by unfold Sm; decide)).mono (by decide), fun H8 v s8 nv hv => ?_⟩
          have s4v := (s46.trans s7).trans s8
          have pu : Pos2 ((matR r).d, st * (matR r).d + (n : Int) * (matR r).c) := ⟨by show 0 ≤ (matR r).d; omega, by show 0 ≤ st * (matR r).d + (n : Int) * (matR r).c; omega, .inl (by show 0 < (matR r).d; omega)⟩
          have pv : Pos2 (2 * (matR r).d, 2 * (st * (matR r).d + (n : Int) * (matR r).c) + 1) := ⟨by show 0 ≤ 2 * (matR r).d; omega, by show 0 ≤ 2 * (st * (matR r).d + (n : Int) * (matR r).c) + 1; omega, .inl (by show 0 < 2 * (matR r).d; omega)⟩
          have zl : ∀ {b : Int × Int}, Pos2 b → ∀ y : Int × Int, crs y (low b) = 0 ↔ crs y b = 0 := fun {b} hb y => by
            have s := low_side (b := y) hb
            have a1 := crs_anti y (low b)
            have a2 := crs_anti y b
            omega
          have co := co_at (x := low ((matR r).d, st * (matR r).d + (n : Int) * (matR r).c)) (y := low (2 * (matR r).d, 2 * (st * (matR r).d + (n : Int) * (matR r).c) + 1)) ok n1 ho pe n
            (by rw [zl pu]; unfold crs atP; rw [if_neg (by decide)]; dsimp only; grind)
            (fun m hm z => by
              rw [zl pu] at z
              unfold crs atP at z
              rw [if_neg (by decide)] at z
              dsimp only at z
              have e1 : 1 * (matR r).d * (st * (matR r).d + (n : Int) * (matR r).c) - (matR r).d * (st * (matR r).d + (m : Int) * (matR r).c * 1) = (matR r).d * (((n : Int) - m) * (matR r).c) := by grind
              rw [e1] at z
              exact mul_ne (show (matR r).d ≠ 0 by omega) (mul_ne (show (n : Int) - m ≠ 0 by omega) (show (matR r).c ≠ 0 by omega)) z)
            (fun m z => by
              rw [zl pv] at z
              unfold crs atP at z
              rw [if_neg (by decide)] at z
              dsimp only at z
              have e1 : 1 * (matR r).d * (2 * (st * (matR r).d + (n : Int) * (matR r).c) + 1) - 2 * (matR r).d * (st * (matR r).d + (m : Int) * (matR r).c * 1) = (matR r).d * (2 * (((n : Int) - m) * (matR r).c) + 1) := by grind
              rw [e1] at z
              exact mul_ne (show (matR r).d ≠ 0 by omega) (show 2 * (((n : Int) - m) * (matR r).c) + 1 ≠ 0 by omega) z)
          exact ⟨_, _, rfl, x, u, v, _, _, (1, st), _, rfl, b4.trans (.of s4v), hc4.same s4v, tabs_same hT4 s4v, hx.same (s7.trans s8), pe, y1, y2, s8 _ _ hu, hv, co.1, co.2, fun h => res_of (low_pos pu) (low_low pu) h, fun h => res_of (low_pos pv) (low_low pv) h⟩
        · refine ⟨(by show 2 ≤ sizeLine; decide), fun t nt => fun x dx nx ndx nex => ?_⟩
          have st_ := same_upd (o := .tup [.int 1, .int 0]) nt
          refine make_lad (e := (1, 0)) nx ndx (hz.same st_) ok l8 (.inr ⟨t, rfl, upd_same, .inr ⟨rfl, rfl⟩⟩) fun H6 s6 hx => ?_
          have z0 : st = 0 := by
            have : ¬ st > 0 := fun z => w1 (decide_eq_true z)
            omega
          rw [← z0] at hx
          have s46 := (s5.trans st_).trans s6
          refine ⟨_, rfl, _, rfl, _, _, rfl, rfl, mx sst z2, _, rfl, _, rfl, _, _, rfl, rfl, mx sn z1, _, _, rfl, rfl, ?_⟩
          refine ⟨_, rfl, _, rfl, _, _, rfl, ⟨by show 0 ≤ (matR r).d; omega, by show 0 ≤ st * (matR r).d + (n : Int) * (matR r).c; omega, .inl (by show 0 < (matR r).d; omega)⟩, z2.mono (by decide), so.mono (by decide), fun H7 u s7 nu hu => ?_⟩
          refine ⟨_, rfl, _, _, rfl, rfl, .inl ⟨by decide, by decide⟩, _, rfl, _, _, rfl, rfl, .inl ⟨by decide, by decide⟩, _, _, rfl, rfl, _, _, rfl, ⟨by show 0 ≤ 2 * (matR r).d; omega, by show 0 ≤ 2 * (st * (matR r).d + (n : Int) * (matR r).c) + 1; omega, .inl (by show 0 < 2 * (matR r).d; omega)⟩, ((show Sm 2 2 by unfold Sm; decide).mul z2).mono (by decide), (Sm.add (n := 110) (((show Sm 2 2 by unfold Sm; decide).mul so).mono (by decide)) (by unfold Sm; decide)).mono (by decide), fun H8 v s8 nv hv => ?_⟩
          have s4v := (s46.trans s7).trans s8
          have pu : Pos2 ((matR r).d, st * (matR r).d + (n : Int) * (matR r).c) := ⟨by show 0 ≤ (matR r).d; omega, by show 0 ≤ st * (matR r).d + (n : Int) * (matR r).c; omega, .inl (by show 0 < (matR r).d; omega)⟩
          have pv : Pos2 (2 * (matR r).d, 2 * (st * (matR r).d + (n : Int) * (matR r).c) + 1) := ⟨by show 0 ≤ 2 * (matR r).d; omega, by show 0 ≤ 2 * (st * (matR r).d + (n : Int) * (matR r).c) + 1; omega, .inl (by show 0 < 2 * (matR r).d; omega)⟩
          have zl : ∀ {b : Int × Int}, Pos2 b → ∀ y : Int × Int, crs y (low b) = 0 ↔ crs y b = 0 := fun {b} hb y => by
            have s := low_side (b := y) hb
            have a1 := crs_anti y (low b)
            have a2 := crs_anti y b
            omega
          have co := co_at (x := low ((matR r).d, st * (matR r).d + (n : Int) * (matR r).c)) (y := low (2 * (matR r).d, 2 * (st * (matR r).d + (n : Int) * (matR r).c) + 1)) ok n1 ho pe n
            (by rw [zl pu]; unfold crs atP; rw [if_neg (by decide)]; dsimp only; grind)
            (fun m hm z => by
              rw [zl pu] at z
              unfold crs atP at z
              rw [if_neg (by decide)] at z
              dsimp only at z
              have e1 : 1 * (matR r).d * (st * (matR r).d + (n : Int) * (matR r).c) - (matR r).d * (st * (matR r).d + (m : Int) * (matR r).c * 1) = (matR r).d * (((n : Int) - m) * (matR r).c) := by grind
              rw [e1] at z
              exact mul_ne (show (matR r).d ≠ 0 by omega) (mul_ne (show (n : Int) - m ≠ 0 by omega) (show (matR r).c ≠ 0 by omega)) z)
            (fun m z => by
              rw [zl pv] at z
              unfold crs atP at z
              rw [if_neg (by decide)] at z
              dsimp only at z
              have e1 : 1 * (matR r).d * (2 * (st * (matR r).d + (n : Int) * (matR r).c) + 1) - 2 * (matR r).d * (st * (matR r).d + (m : Int) * (matR r).c * 1) = (matR r).d * (2 * (((n : Int) - m) * (matR r).c) + 1) := by grind
              rw [e1] at z
              exact mul_ne (show (matR r).d ≠ 0 by omega) (show 2 * (((n : Int) - m) * (matR r).c) + 1 ≠ 0 by omega) z)
          exact ⟨_, _, rfl, x, u, v, _, _, (1, st), _, rfl, b4.trans (.of s4v), hc4.same s4v, tabs_same hT4 s4v, hx.same (s7.trans s8), pe, y1, y2, s8 _ _ hu, hv, co.1, co.2, fun h => res_of (low_pos pu) (low_low pu) h, fun h => res_of (low_pos pv) (low_low pv) h⟩
    clear b4 hc4 hT4 hA
    rintro σ' H5 ⟨x, p, q, d1, d2, e, v11, rfl, b5, hc5, T5, hx, pe, y1, y2, hp, hq, c1, c2, i1, i2⟩
    refine ⟨fun σ' H' => H5 = H' ∧ σ' = [some (.ref c), some (.ref a), some (.int (n : Int)), some (.int (r.foldl atS (0, 1)).1), some (.int (r.foldl atS (0, 1)).2), v5, v6, some (.int st), some (.ref x), some (.ref p), some (.ref q), v11] ∧ ResP d1.1 d1.2 ∧ ResP d2.1 d2.2, ?_, ?_⟩
    · have done := k H5 (.but b5) hc5 T5
      have le12 : ∀ {M : Int}, ¬ decide (M > (10 : Int) ^ Int.toNat 12) = true → M ≤ 1000000000000 := fun {M} w => by
        rcases Int.lt_or_le 1000000000000 M with z | z
        · exact absurd (decide_eq_true (by rw [e12]; exact z)) w
        · exact z
      refine ⟨_, rfl, p, [d1.1, d1.2], rfl, SqT.of hp, Nat.succ_pos _, fun M hM hmax => ⟨_, _, rfl, rfl, ⟨by decide, by decide, by decide⟩, _, _, rfl, rfl, _, rfl, ite2 (fun _ => done) (fun w1 => ?_)⟩⟩
      refine ⟨_, rfl, q, [d2.1, d2.2], rfl, SqT.of hq, Nat.succ_pos _, fun M' hM' hmax' => ⟨_, _, rfl, rfl, ⟨by decide, by decide, by decide⟩, _, _, rfl, rfl, _, rfl, ite2 (fun _ => done) (fun w2 => ?_)⟩⟩
      exact ⟨rfl, rfl, i1 fun y hy => Int.le_trans (hmax y hy) (le12 w1), i2 fun y hy => Int.le_trans (hmax' y hy) (le12 w2)⟩
    rintro σ' _ ⟨rfl, rfl, r1, r2⟩
    have pl := low_pos pe
    refine ⟨_, rfl, _, rfl, x, .ref p, r, low e, d1, rfl, hx, .inr ⟨p, rfl, hp, r1⟩, T5, ok, n1, kd, pl, y1, y2, fun H6 o1 x6 T6 o1c => ?_⟩
    have hx6 := hx.ext x6
    refine ⟨_, rfl, _, rfl, x, .ref q, r, low e, d2, rfl, hx6, .inr ⟨q, rfl, ext_tup x6 hq, r2⟩, T6, ok, n1, kd, pl, y1, y2, fun H7 o2 x7 T7 o2c => ?_⟩
    rw [o1c.uniq c1, o2c.uniq c2]
    have x57 := x6.trans x7
    refine ⟨(by show 2 ≤ sizeLine; decide), fun u nu => ?_⟩
    have dl : ∀ {HH : Hp} {u : Addr}, HH u = some (.lst [optV (some n), optV none]) → Dp K HH (.ref u) (.list [optD (some n), optD none]) := fun h => .lst (SqL.of h) (.cons (dp_opt _) (.cons (dp_opt _) .nil))
    obtain ⟨s1, s2, s3, s4⟩ := opt_show (o := some n) (o' := none) (fun m hm => by cases hm; omega) (fun m hm => by cases hm)
    have su := same_upd (o := .lst [optV (some n), optV none]) nu
    refine ⟨u, _, rfl, dl upd_same, s1, s2, s3, s4, _, rfl, (by show 2 ≤ sizeLine; decide), fun v nv => ?_⟩
    have sv := same_upd (o := .lst [V.int (n : Int), V.non]) nv
    refine ⟨v, _, rfl, dl upd_same, s1, s2, s3, s4, rfl, ?_⟩
    have e : decide (V.str (PyData.list [optD (some n), optD none]).shown = V.str (PyData.list [optD (some n), optD none]).shown) = true := decide_eq_true rfl
    rw [e]
    exact k _ ((ButT.but b5).trans ((ButT.ext x57).trans (.of (su.trans sv)))) (((hc5.ext x57).same su).same sv) (tabs_same (tabs_same T7 su) sv)
theorem sc_law_right : FnScope ["_law_cup_here", "_law_turn"] ["_law_cup_here"] (defScope s_law_right) := ⟨rfl, rfl, rfl, by decide +kernel, rfl, by decide +kernel, by decide +kernel⟩

theorem ok_right {f : Addr} {fd : FuncData} (F : Fun K "_law_right" "_law_right" s_law_right f fd) (T : Txt K mg) (D_law_near : DfG P w K mg base 13 "_law_near" ["_law_cup_here"] (spTurnT TT)) (D_law_far : DfG P w K mg base 13 "_law_far" ["_law_cup_here"] (spTurnT TT)) : FnG P w K mg base 14 f fd ["_law_cup_here"] (spTurnT TT) := by
  refine okG F sc_law_right (fun vs H Q E h => ?_) (fun cdv A outer s H vs Q E hg hr h => ?_)
  · obtain ⟨c, rfl, _⟩ := h
    rfl
  · obtain ⟨c, rfl, hc, hT, k⟩ := h
    refine ⟨_, (pss_one (ps_ret (pe_and (pe_dfG D_law_near hg (hr.mono (by decide)) (by rfl) (pa_cons (pv 0) pa_nil)) (pe_one (pe_callB (cr_all rfl) (by rfl) T.all (by decide +kernel) (pa_cons (pe_lc (own := [("_law_turn", 1)]) (g := gName 1) (tt := tYes) rfl sc_law_right.nd (pi_range1 rfl T.range (pa_cons pe_int pa_nil)) (blkOk_by (N := ["_law_cup_here", "_law_turn"]) (sc := defScope s_law_right) (by decide +kernel)) (fun _ _ _ _ _ => pg_name (i := 1) sc_law_right.nd rfl (Or.inl rfl)) (fun _ _ _ _ _ => pts_nil) (fun _ _ _ _ _ => (pe_dfG D_law_far hg (hr.mono (by decide)) (by rfl) (pa_cons (pv 0) pa_nil)))) pa_nil)))))), ?_⟩
    refine ⟨_, rfl, c, rfl, hc, hT, fun H1 b1 hc1 T1 => ⟨true, rfl, iteT ?_⟩⟩
    refine ⟨6, rfl, by decide, by decide, fun D hD => ?_⟩
    have nDc : D ≠ c := (hc1.ne hD).symm
    refine lc_range (lo := 0) (n := Int.toNat 6) (fun i H' => ButT c H1 H' ∧ CupAt c H' ∧ LamX.Tabs TT H' ∧ H' D = some (.lst (List.replicate i (.bl true)))) ⟨.of (same_upd hD), hc1.same (same_upd hD), tabs_same T1 (same_upd hD), upd_same⟩ ?_ ?_
    · rintro i H2 hi ⟨b2, hc2, T2, hDi⟩
      have hi4 : i < 6 := hi
      refine ⟨rfl, ?_⟩
      unfold tYes
      refine iteT ?_
      refine ⟨_, rfl, c, rfl, hc2, T2, fun H3 b3 hc3 T3 => ?_⟩
      have hD3 := b3 D _ nDc (by intro ps z; cases z) hDi
      refine ⟨_, hD3, ?_, ?_, ?_, tabs_updL T3 hD3, ?_⟩
      · rw [List.length_replicate]
        exact small1000 (by omega)
      · intro y o ny nt e
        rw [upd_ne (ne_of_none e hD)]
        exact b3 _ _ ny nt (b2 _ _ ny nt e)
      · obtain ⟨u, v, hcc, q⟩ := hc3
        exact ⟨u, v, by rw [upd_ne nDc.symm]; exact hcc, q⟩
      · rw [upd_same, List.replicate_succ']
    · rintro H2 ⟨b2, hc2, T2, hDn⟩
      refine ⟨D, List.replicate _ true, rfl, SqL.of (by rw [List.map_replicate]; exact hDn), ?_⟩
      rw [all_rep]
      exact k _ (b1.trans b2) hc2 T2
theorem sc_law : FnScope ["_law_script", "_law_golden", "_law_told_here", "_law_spot"] ["_law_script"] (defScope s_law) := ⟨rfl, rfl, rfl, by decide +kernel, rfl, by decide +kernel, by decide +kernel⟩

theorem ok_law {f : Addr} {fd : FuncData} (F : Fun K "law" "law" s_law f fd) (T : TxtS K mg tG t1 t2 t3 tP tC aO aW J C Ce Cl Cg Cs) (X_pat : PatD P w K mg base C J fP) (X_lad : LadD P w K mg base C aO Ce Cl fL fdL)
    (D_count_of : Df P w K mg base 12 "count_of" ["run", "target"] (spCo TT C aO Ce Cl)) (D_law_cup : Df P w K mg base 1 "_law_cup" ["_law_script", "_law_spot"] (spCup K)) (D_law_right : DfG P w K mg base 14 "_law_right" ["_law_cup_here"] (spTurnT TT)) : FnG P w K mg base 15 f fd ["_law_script"] (spLaw K TT) := by
  refine okG F sc_law (fun vs H Q E h => ?_) (fun cdv A outer s H vs Q E hg hr h => ?_)
  · obtain ⟨a, ns, rfl, _⟩ := h
    rfl
  · obtain ⟨a, ns, rfl, hS, hlen, hT, k⟩ := h
    refine ⟨_, (C8.pss_cut (ps_set (i := 1) sc_law.nd rfl (.inl rfl) (pe_make X_lad.m X_lad.fn (hr.mono (by decide)) rfl T.mgL X_lad.bd .nil pass0 (pa_cons (StX.pe_makeR X_pat.m X_pat.fn (hr.mono (by decide)) rfl T.mgC pass0 (pa_cons (pe_tup (pa_cons pe_str (pa_cons pe_int pa_nil))) (pa_cons (pe_tup (pa_cons pe_str (pa_cons pe_int pa_nil))) pa_nil))) (pa_cons pe_int pa_nil))))
      (C8.pss_cut (ps_set (i := 2) sc_law.nd rfl (.inl rfl) (pe_lst (pa_cons (pe_df D_count_of (hr.mono (by decide)) (by rfl) (pa_cons (pv 1) (pa_cons (pe_tup (pa_cons pe_int (pa_cons pe_int pa_nil))) pa_nil))) (pa_cons (pe_df D_count_of (hr.mono (by decide)) (by rfl) (pa_cons (pv 1) (pa_cons (pe_tup (pa_cons pe_int (pa_cons pe_int pa_nil))) pa_nil))) (pa_cons (pe_df D_count_of (hr.mono (by decide)) (by rfl) (pa_cons (pv 1) (pa_cons (pe_tup (pa_cons pe_int (pa_cons pe_int pa_nil))) pa_nil))) (pa_cons (pe_df D_count_of (hr.mono (by decide)) (by rfl) (pa_cons (pv 1) (pa_cons pe_int pa_nil))) pa_nil))))))
      (C8.pss_cut (ps_expr (pe_bm PySem.F.plainAttrs_list PySem.F.slot_list_append PySem.F.type_list_append mt_append (pv 2) (pa_cons (pe_df D_count_of (hr.mono (by decide)) (by rfl) (pa_cons (pe_make X_lad.m X_lad.fn (hr.mono (by decide)) rfl T.mgL X_lad.bd .nil pass0 (pa_cons (StX.pe_makeR X_pat.m X_pat.fn (hr.mono (by decide)) rfl T.mgC pass0 (pa_cons (pe_tup (pa_cons pe_str (pa_cons pe_int pa_nil))) (pa_cons (pe_tup (pa_cons pe_str (pa_cons pe_int pa_nil))) pa_nil))) (pa_cons pe_int pa_nil))) (pa_cons pe_int pa_nil))) pa_nil)))
      (C8.pss_cut (ps_expr (pe_bm PySem.F.plainAttrs_list PySem.F.slot_list_append PySem.F.type_list_append mt_append (pv 2) (pa_cons (pe_df D_count_of (hr.mono (by decide)) (by rfl) (pa_cons (pe_make X_lad.m X_lad.fn (hr.mono (by decide)) rfl T.mgL X_lad.bd .nil pass0 (pa_cons (StX.pe_makeR X_pat.m X_pat.fn (hr.mono (by decide)) rfl T.mgC pass0 (pa_cons (pe_tup (pa_cons pe_str (pa_cons pe_int pa_nil))) (pa_cons (pe_tup (pa_cons pe_str (pa_cons pe_int pa_nil))) pa_nil))) (pa_cons pe_int pa_nil))) (pa_cons pe_int pa_nil))) pa_nil)))
      (C8.pss_cut (ps_if (PW.pt (pw_or (pt_cmpR (op_neD hr.units) (pv 2) (pe_lst (pa_cons pe_int (pa_cons pe_int (pa_cons pe_non (pa_cons pe_int (pa_cons pe_int (pa_cons pe_non pa_nil))))))) (nomark _)) (pw_or1 (pt_cmpR op_ne (pe_df D_count_of (hr.mono (by decide)) (by rfl) (pa_cons (pe_make X_lad.m X_lad.fn (hr.mono (by decide)) rfl T.mgL X_lad.bd .nil pass0 (pa_cons (StX.pe_makeR X_pat.m X_pat.fn (hr.mono (by decide)) rfl T.mgC pass0 (pa_cons (pe_tup (pa_cons pe_str (pa_cons pe_int pa_nil))) pa_nil)) (pa_cons (pe_tup (pa_cons pe_int (pa_cons pe_int pa_nil))) pa_nil))) (pa_cons (pe_tup (pa_cons pe_int (pa_cons pe_int pa_nil))) pa_nil))) pe_int (nomark _))))) (pss_one (ps_ret pe_bl)) pss_nil)
      (pss_one (ps_ret (pe_callB (cr_all rfl) (by rfl) T.all (by decide +kernel) (pa_cons (pe_lc (own := [("_law_spot", 3)]) (g := gName 3) (tt := tYes) rfl sc_law.nd (pi_range1 rfl T.range (pa_cons (pe_callB (call_max2 rfl) (by rfl) T.max (by decide +kernel) (pa_cons pe_int (pa_cons (pe_callB (call_min2 rfl) (by rfl) T.min (by decide +kernel) (pa_cons (pe_callB call_len_seq (by rfl) T.len (by decide +kernel) (pa_cons (pv 0) pa_nil)) (pa_cons pe_int pa_nil))) pa_nil))) pa_nil)) (blkOk_by (N := ["_law_script", "_law_golden", "_law_told_here", "_law_spot"]) (sc := defScope s_law) (by decide +kernel)) (fun _ _ _ _ _ => pg_name (i := 3) sc_law.nd rfl (Or.inl rfl)) (fun _ _ _ _ _ => pts_nil) (fun _ _ _ _ _ => (pe_dfG D_law_right hg (hr.mono (by decide)) (by rfl) (pa_cons (pe_df D_law_cup (hr.mono (by decide)) (by rfl) (pa_cons (pv 0) (pa_cons (pv 3) pa_nil))) pa_nil)))) pa_nil))))))))), ?_⟩
    refine ⟨fun σ' H' => ∃ x, σ' = [some (.ref a), some (.ref x), none, none] ∧ SqL K H' a (ns.map V.int) ∧ LamX.Tabs TT H' ∧ LadAt C aO Ce Cl H' x rA (0, 1), ?_, ?_⟩
    · refine ⟨(by show 2 ≤ sizeLine; decide), fun p1 np1 => ⟨(by show 2 ≤ sizeLine; decide), fun p2 np2 => ?_⟩⟩
      have s1 := same_upd (o := .tup [.str (Str.ofString "rail"), .int 1]) np1
      have s2 := same_upd (o := .tup [.str (Str.ofString "rung"), .int 1]) np2
      intro z dz nz ndz nez
      refine make_lit nz ndz ((pcs1 (r := true) (s2 _ _ upd_same)).app (pcs1 (r := false) upd_same)) okA' (by decide) (by decide) fun H1 s3 hz => fun x dx nx ndx nex => ?_
      refine make_lad (e := (0, 1)) nx ndx hz okA' (by decide) (.inl ⟨0, rfl, by decide, by decide, rfl⟩) fun H2 s4 hx => ?_
      have q2 : low ((0 : Int), (1 : Int)) = (0, 1) := by decide +kernel
      rw [q2] at hx
      have sA := ((s1.trans s2).trans s3).trans s4
      exact ⟨x, rfl, sA.seq hS, tabs_same hT sA, hx⟩
    clear hS hT
    rintro σ1 H1 ⟨x, rfl, hS, hT, hx⟩
    refine ⟨fun σ' H' => ∃ l, σ' = [some (.ref a), some (.ref x), some (.ref l), none] ∧ SqL K H' a (ns.map V.int) ∧ LamX.Tabs TT H' ∧ H' l = some (.lst [.int 3, .int 4, .non, .int 0]), ?_, ?_⟩
    · refine ⟨_, rfl, (by show 2 ≤ sizeLine; decide), fun u1 n1 => ?_⟩
      have sa := same_upd (o := .tup [.int 8, .int 5]) n1
      refine ⟨x, .ref u1, rA, (0, 1), (8, 5), rfl, hx.same sa, .inr ⟨u1, rfl, upd_same, .inl ⟨by decide, by decide, by decide, by decide⟩⟩, tabs_same hT sa, okA', by decide, kdA, pos01, smal (by decide), smal (by decide), fun H2 o x2 T2 co => ?_⟩
      obtain rfl := co.uniq (o' := some 3) ⟨by decide +kernel, by decide +kernel⟩
      have hx2 := (hx.same sa).ext x2
      have hS2 := sql_extW (sa.seq hS) x2
      clear sa n1 x2 co
      refine ⟨_, rfl, (by show 2 ≤ sizeLine; decide), fun u1 n1 => ?_⟩
      have sa := same_upd (o := .tup [.int 21, .int 13]) n1
      refine ⟨x, .ref u1, rA, (0, 1), (21, 13), rfl, hx2.same sa, .inr ⟨u1, rfl, upd_same, .inl ⟨by decide, by decide, by decide, by decide⟩⟩, tabs_same T2 sa, okA', by decide, kdA, pos01, smal (by decide), smal (by decide), fun H3 o x3 T3 co => ?_⟩
      obtain rfl := co.uniq (o' := some 4) ⟨by decide +kernel, by decide +kernel⟩
      have hx3 := (hx2.same sa).ext x3
      have hS3 := sql_extW (sa.seq hS2) x3
      clear sa n1 x3 co
      refine ⟨_, rfl, (by show 2 ≤ sizeLine; decide), fun u1 n1 => ?_⟩
      have sa := same_upd (o := .tup [.int 13, .int 8]) n1
      refine ⟨x, .ref u1, rA, (0, 1), (13, 8), rfl, hx3.same sa, .inr ⟨u1, rfl, upd_same, .inl ⟨by decide, by decide, by decide, by decide⟩⟩, tabs_same T3 sa, okA', by decide, kdA, pos01, smal (by decide), smal (by decide), fun H4 o x4 T4 co => ?_⟩
      obtain rfl := co.uniq (o' := none) (co_none okA' (by decide) pos01 (⟨by decide, by decide, .inr (by decide)⟩ : Pos2 ((13 : Int), (8 : Int))) (by decide +kernel) (by decide +kernel))
      have hx4 := (hx3.same sa).ext x4
      have hS4 := sql_extW (sa.seq hS3) x4
      clear sa n1 x4 co
      refine ⟨_, rfl, x, .int 0, rA, (0, 1), (0, 1), rfl, hx4, .inl ⟨0, rfl, by decide, by decide, rfl⟩, T4, okA', by decide, kdA, pos01, smal (by decide), smal (by decide), fun H5 o x5 T5 co => ?_⟩
      obtain rfl := co.uniq (o' := some 0) ⟨by decide +kernel, by decide +kernel⟩
      refine ⟨(by show 4 ≤ sizeLine; decide), fun l nl => ?_⟩
      have sl := same_upd (o := .lst [.int 3, .int 4, .non, .int 0]) nl
      exact ⟨l, rfl, sl.seq (sql_extW hS4 x5), tabs_same T5 sl, upd_same⟩
    clear hS hT hx
    rintro σ1 H2 ⟨l, rfl, hS, hT, hl⟩
    refine ⟨fun σ' H' => σ' = [some (.ref a), some (.ref x), some (.ref l), none] ∧ SqL K H' a (ns.map V.int) ∧ LamX.Tabs TT H' ∧ H' l = some (.lst [.int 3, .int 4, .non, .int 0, .int 0]), ?_, ?_⟩
    · refine ⟨_, rfl, .inl ⟨rfl, _, SqL.of hl⟩, (by show 2 ≤ sizeLine; decide), fun p1 np1 => ⟨(by show 2 ≤ sizeLine; decide), fun p2 np2 => ?_⟩⟩
      have s1 := same_upd (o := .tup [.str (Str.ofString "rail"), .int 1]) np1
      have s2 := same_upd (o := .tup [.str (Str.ofString "rung"), .int 2]) np2
      intro z dz nz ndz nez
      refine make_lit nz ndz ((pcs1 (r := true) (s2 _ _ upd_same)).app (pcs1 (r := false) upd_same)) okB' (by decide) (by decide) fun H3 s3 hz => fun y dy ny ndy ney => ?_
      refine make_lad (e := (2, 1)) ny ndy hz okB' (by decide) (.inl ⟨2, rfl, by decide, by decide, rfl⟩) fun H4 s4 hy => ?_
      have q2 : low ((2 : Int), (1 : Int)) = (2, 1) := by decide +kernel
      rw [q2] at hy
      have sA := ((s1.trans s2).trans s3).trans s4
      refine ⟨y, .int 2, rB, (2, 1), (2, 1), rfl, hy, .inl ⟨2, rfl, by decide, by decide, rfl⟩, tabs_same hT sA, okB', by decide, kdB, ⟨by decide, by decide, .inr (by decide)⟩, smal (by decide), smal (by decide), fun H6 o x6 T6 co => ?_⟩
      obtain rfl := co.uniq (o' := some 0) ⟨by decide +kernel, by decide +kernel⟩
      have hl6 := ext_lst x6 (sA _ _ hl)
      exact ⟨l, _, _, rfl, rfl, hl6, small1000 (by decide), rfl, sql_keep (sql_extW (sA.seq hS) x6) hl6 (by simp), tabs_updL T6 hl6, upd_same⟩
    clear hS hT hl
    rintro σ1 H3 ⟨rfl, hS, hT, hl⟩
    refine ⟨fun σ' H' => σ' = [some (.ref a), some (.ref x), some (.ref l), none] ∧ SqL K H' a (ns.map V.int) ∧ LamX.Tabs TT H' ∧ H' l = some (.lst [.int 3, .int 4, .non, .int 0, .int 0, .non]), ?_, ?_⟩
    · refine ⟨_, rfl, .inl ⟨rfl, _, SqL.of hl⟩, (by show 2 ≤ sizeLine; decide), fun p1 np1 => ⟨(by show 2 ≤ sizeLine; decide), fun p2 np2 => ?_⟩⟩
      have s1 := same_upd (o := .tup [.str (Str.ofString "rail"), .int 1]) np1
      have s2 := same_upd (o := .tup [.str (Str.ofString "rung"), .int 2]) np2
      intro z dz nz ndz nez
      refine make_lit nz ndz ((pcs1 (r := true) (s2 _ _ upd_same)).app (pcs1 (r := false) upd_same)) okB' (by decide) (by decide) fun H3 s3 hz => fun y dy ny ndy ney => ?_
      refine make_lad (e := (1, 1)) ny ndy hz okB' (by decide) (.inl ⟨1, rfl, by decide, by decide, rfl⟩) fun H4 s4 hy => ?_
      have q2 : low ((1 : Int), (1 : Int)) = (1, 1) := by decide +kernel
      rw [q2] at hy
      have sA := ((s1.trans s2).trans s3).trans s4
      refine ⟨y, .int 2, rB, (1, 1), (2, 1), rfl, hy, .inl ⟨2, rfl, by decide, by decide, rfl⟩, tabs_same hT sA, okB', by decide, kdB, ⟨by decide, by decide, .inr (by decide)⟩, smal (by decide), smal (by decide), fun H6 o x6 T6 co => ?_⟩
      obtain rfl := co.uniq (o' := none) (co_none okB' (by decide) pos11 (⟨by decide, by decide, .inr (by decide)⟩ : Pos2 ((2 : Int), (1 : Int))) (by decide +kernel) (by decide +kernel))
      have hl6 := ext_lst x6 (sA _ _ hl)
      exact ⟨l, _, _, rfl, rfl, hl6, small1000 (by decide), rfl, sql_keep (sql_extW (sA.seq hS) x6) hl6 (by simp), tabs_updL T6 hl6, upd_same⟩
    clear hS hT hl
    rintro σ1 H4 ⟨rfl, hS, hT, hl⟩
    refine ⟨fun σ' H' => (∃ v3, σ' = [some (.ref a), some (.ref x), some (.ref l), v3]) ∧ SqL K H' a (ns.map V.int) ∧ LamX.Tabs TT H', ?_, ?_⟩
    · refine ⟨_, rfl, (by show 6 ≤ sizeLine; decide), fun l2 nl2 => ?_⟩
      have q2 := same_upd (o := .lst [.int 3, .int 4, .non, .int 0, .int 0, .non]) nl2
      have dl : ∀ {HH : Hp} {u : Addr}, HH u = some (.lst [.int 3, .int 4, .non, .int 0, .int 0, .non]) → Dp K HH (.ref u) (.list [.int 3, .int 4, .none, .int 0, .int 0, .none]) := fun h => .lst (SqL.of h) (.cons (.int _) (.cons (.int _) (.cons .non (.cons (.int _) (.cons (.int _) (.cons .non .nil))))))
      refine ⟨_, _, dl (q2 _ _ hl), dl upd_same, by decide +kernel, by decide +kernel, _, rfl, ite2 (fun z => absurd z (by decide +kernel)) (fun _ => ?_)⟩
      refine ⟨(by show 2 ≤ sizeLine; decide), fun p1 np1 => ?_⟩
      have s1 := same_upd (o := .tup [.str (Str.ofString "rung"), .int 2]) np1
      intro z dz nz ndz nez
      refine make_lit nz ndz (pcs1 (r := false) upd_same) okC' (by decide) (by decide) fun H5 s3 hz => ⟨(by show 2 ≤ sizeLine; decide), fun u nu => fun y dy ny ndy ney => ?_⟩
      have s2 := same_upd (o := .tup [.int 1, .int 0]) nu
      refine make_lad (e := (1, 0)) ny ndy (hz.same s2) okC' (by decide) (.inr ⟨u, rfl, upd_same, .inr ⟨rfl, rfl⟩⟩) fun H6 s4 hy => ⟨(by show 2 ≤ sizeLine; decide), fun v nv => ?_⟩
      have s5 := same_upd (o := .tup [.int 1, .int 0]) nv
      have e2 : low ((1 : Int), (0 : Int)) = (1, 0) := by decide +kernel
      rw [e2] at hy
      have sA := (((q2.trans s1).trans s3).trans s2).trans (s4.trans s5)
      refine ⟨y, .ref v, rC, (1, 0), (1, 0), rfl, hy.same s5, .inr ⟨v, rfl, upd_same, .inr ⟨rfl, rfl⟩⟩, tabs_same hT sA, okC', by decide, kdC, ⟨by decide, by decide, .inl (by decide)⟩, smal (by decide), smal (by decide), fun H7 o x7 T7 co => ?_⟩
      obtain rfl := co.uniq (o' := some 0) ⟨by decide +kernel, by decide +kernel⟩
      exact ⟨rfl, _, rfl, ite2 (fun w => absurd w (by decide)) (fun _ => ⟨⟨_, rfl⟩, sql_extW (sA.seq hS) x7, T7⟩)⟩
    clear hS hT hl
    rintro σ' H5 ⟨⟨v3, rfl⟩, hSg, t3⟩
    refine ⟨_, rfl, a, _, rfl, .inl hSg, _, _, rfl, _, _, rfl, _, rfl, ?_, ?_, fun D hD => ?_⟩
    · split <;> split <;> omega
    · have : (List.map V.int ns).length = ns.length := List.length_map ..
      split <;> split <;> omega
    · refine lc_range (lo := 0) (fun i H' => ButT D _ H' ∧ LamX.Tabs TT H' ∧ H' D = some (.lst (List.replicate i (.bl true)))) ⟨.but But.upd, tabs_same t3 (same_upd hD), upd_same⟩ ?_ ?_
      · rintro i H1' hi ⟨bD, tD, hDi⟩
        have hi63 : i ≤ 100 := by
          have : (List.map V.int ns).length = ns.length := List.length_map ..
          split at hi <;> split at hi <;> omega
        refine ⟨rfl, ?_⟩
        unfold tYes
        refine iteT ?_
        refine ⟨_, rfl, _, rfl, a, ns, i, ?_, seq_butT hSg hD bD, hi63, hlen, fun H2' c sc nc hc => ?_⟩
        · show [V.ref a, V.int (0 + (i : Int))] = _
          rw [Int.zero_add]
        refine ⟨c, rfl, hc, tabs_same tD sc, fun H3' b3 hc3' t3' => ?_⟩
        have nDc : D ≠ c := ne_of_none hDi nc
        have hD3 := b3 D _ nDc (by intro ps z; cases z) (sc _ _ hDi)
        refine ⟨_, hD3, ?_, ?_, tabs_updL t3' hD3, ?_⟩
        · rw [List.length_replicate]
          exact small1000 (by omega)
        · intro y o ny nt e
          rw [upd_ne ny]
          have hy1 := bD _ _ ny nt e
          exact b3 _ _ (ne_of_none hy1 nc) nt (sc _ _ hy1)
        · rw [upd_same, List.replicate_succ']
      · rintro H1' ⟨bD, _, hDn⟩
        refine ⟨D, List.replicate _ true, rfl, SqL.of (by rw [List.map_replicate]; exact hDn), ?_⟩
        rw [all_rep]
        exact k _
end
end RL

namespace RL
open PySem L2
set_option maxHeartbeats 4000000 in
theorem all_mk {l : PySem.W.OpenLaw} {w : World} {K : PySem.W.Frag} {h : Heap} {mg : Str → Option Value} (X : K.In h) (G : h.Ns mainGlobals mg) {fa aO aW J C f_JoinedRow_init f_Pattern_init f_Pattern_call f_Pattern_add f_Pattern_numbers pr_Pattern_numbers f_Pattern_read pr_Pattern_read f_is_integer f_is_integer_within f_is_pair_of_integers f_is_resistance f_pair_of f_common_divisor f_lowest_terms f_lowest_pair f_is_piece f_checked_row f_matrix_and_scale f_shown_before f_piece_text f_piece_with_text f_law_cup f_law_sip f_law_pick f_law_pair Ce Cl f_is_count f_sign f_square_root f_under_root f_equation_of_fraction f_simplest_equation f_pair_order f_check_resistance f_check_count f_Exact_init f_check_pattern f_ladder_limit f_Ladder_init f_Ladder_after f_Ladder_call f_Ladder_goes pr_Ladder_goes f_Ladder_limit pr_Ladder_limit f_Exact_equation pr_Exact_equation f_Exact_fraction pr_Exact_fraction f_law_front f_law_row f_law_words f_law_read f_law_mixed f_Exact_eq Cg Cs f_beside_fraction f_limit_beside f_Ladder_load pr_Ladder_load f_Ladder_last_stage f_check_run f_squared f_sections_before f_least_number f_first_with f_first_reaching cA_first_reaching PA_first_reaching f_first_passing cA_first_passing PA_first_passing f_count_of f_law_end f_law_walk f_law_told f_law_lines f_law_near f_law_far f_law_right f_law : Addr}
    {od_JoinedRow_init an_JoinedRow_init od_Pattern_init an_Pattern_init od_Pattern_call an_Pattern_call od_Pattern_add an_Pattern_add od_Pattern_numbers an_Pattern_numbers od_Pattern_read an_Pattern_read od_is_integer an_is_integer od_is_integer_within an_is_integer_within od_is_pair_of_integers an_is_pair_of_integers od_is_resistance an_is_resistance od_pair_of an_pair_of od_common_divisor an_common_divisor od_lowest_terms an_lowest_terms od_lowest_pair an_lowest_pair od_is_piece an_is_piece od_checked_row an_checked_row od_matrix_and_scale an_matrix_and_scale od_shown_before an_shown_before od_piece_text an_piece_text od_piece_with_text an_piece_with_text od_law_cup an_law_cup od_law_sip an_law_sip od_law_pick an_law_pick od_law_pair an_law_pair od_is_count an_is_count od_sign an_sign od_square_root an_square_root od_under_root an_under_root od_equation_of_fraction an_equation_of_fraction od_simplest_equation an_simplest_equation od_pair_order an_pair_order od_check_resistance an_check_resistance od_check_count an_check_count od_Exact_init an_Exact_init od_check_pattern an_check_pattern od_ladder_limit an_ladder_limit od_Ladder_init an_Ladder_init od_Ladder_after an_Ladder_after od_Ladder_call an_Ladder_call od_Ladder_goes an_Ladder_goes od_Ladder_limit an_Ladder_limit od_Exact_equation an_Exact_equation od_Exact_fraction an_Exact_fraction od_law_front an_law_front od_law_row an_law_row od_law_words an_law_words od_law_read an_law_read od_law_mixed an_law_mixed od_Exact_eq an_Exact_eq od_beside_fraction an_beside_fraction od_limit_beside an_limit_beside od_Ladder_load an_Ladder_load od_Ladder_last_stage an_Ladder_last_stage od_check_run an_check_run od_squared an_squared od_sections_before an_sections_before od_least_number an_least_number od_first_with an_first_with od_first_reaching an_first_reaching od_first_passing an_first_passing od_count_of an_count_of od_law_end an_law_end od_law_walk an_law_walk od_law_told an_law_told od_law_lines an_law_lines od_law_near an_law_near od_law_far an_law_far od_law_right an_law_right od_law an_law : Option Addr} {sl_JoinedRow_init sl_Pattern_init sl_Pattern_call sl_Pattern_add sl_Pattern_numbers sl_Pattern_read sl_is_integer sl_is_integer_within sl_is_pair_of_integers sl_is_resistance sl_pair_of sl_common_divisor sl_lowest_terms sl_lowest_pair sl_is_piece sl_checked_row sl_matrix_and_scale sl_shown_before sl_piece_text sl_piece_with_text sl_law_cup sl_law_sip sl_law_pick sl_law_pair sl_is_count sl_sign sl_square_root sl_under_root sl_equation_of_fraction sl_simplest_equation sl_pair_order sl_check_resistance sl_check_count sl_Exact_init sl_check_pattern sl_ladder_limit sl_Ladder_init sl_Ladder_after sl_Ladder_call sl_Ladder_goes sl_Ladder_limit sl_Exact_equation sl_Exact_fraction sl_law_front sl_law_row sl_law_words sl_law_read sl_law_mixed sl_Exact_eq sl_beside_fraction sl_limit_beside sl_Ladder_load sl_Ladder_last_stage sl_check_run sl_squared sl_sections_before sl_least_number sl_first_with sl_first_reaching sl_first_passing sl_count_of sl_law_end sl_law_walk sl_law_told sl_law_lines sl_law_near sl_law_far sl_law_right sl_law : Array (Option Value)}
    {oc_JoinedRow_init kV_JoinedRow_init dc_JoinedRow_init pm_JoinedRow_init cd_JoinedRow_init ct_JoinedRow_init oc_Pattern_init kV_Pattern_init dc_Pattern_init pm_Pattern_init cd_Pattern_init ct_Pattern_init oc_Pattern_call kV_Pattern_call dc_Pattern_call pm_Pattern_call cd_Pattern_call ct_Pattern_call oc_Pattern_add kV_Pattern_add dc_Pattern_add pm_Pattern_add cd_Pattern_add ct_Pattern_add oc_Pattern_numbers kV_Pattern_numbers dc_Pattern_numbers pm_Pattern_numbers cd_Pattern_numbers ct_Pattern_numbers oc_Pattern_read kV_Pattern_read dc_Pattern_read pm_Pattern_read cd_Pattern_read ct_Pattern_read oc_is_integer kV_is_integer dc_is_integer pm_is_integer cd_is_integer ct_is_integer oc_is_integer_within kV_is_integer_within dc_is_integer_within pm_is_integer_within cd_is_integer_within ct_is_integer_within oc_is_pair_of_integers kV_is_pair_of_integers dc_is_pair_of_integers pm_is_pair_of_integers cd_is_pair_of_integers ct_is_pair_of_integers oc_is_resistance kV_is_resistance dc_is_resistance pm_is_resistance cd_is_resistance ct_is_resistance oc_pair_of kV_pair_of dc_pair_of pm_pair_of cd_pair_of ct_pair_of oc_common_divisor kV_common_divisor dc_common_divisor pm_common_divisor cd_common_divisor ct_common_divisor oc_lowest_terms kV_lowest_terms dc_lowest_terms pm_lowest_terms cd_lowest_terms ct_lowest_terms oc_lowest_pair kV_lowest_pair dc_lowest_pair pm_lowest_pair cd_lowest_pair ct_lowest_pair oc_is_piece kV_is_piece dc_is_piece pm_is_piece cd_is_piece ct_is_piece oc_checked_row kV_checked_row dc_checked_row pm_checked_row cd_checked_row ct_checked_row oc_matrix_and_scale kV_matrix_and_scale dc_matrix_and_scale pm_matrix_and_scale cd_matrix_and_scale ct_matrix_and_scale oc_shown_before kV_shown_before dc_shown_before pm_shown_before cd_shown_before ct_shown_before oc_piece_text kV_piece_text dc_piece_text pm_piece_text cd_piece_text ct_piece_text oc_piece_with_text kV_piece_with_text dc_piece_with_text pm_piece_with_text cd_piece_with_text ct_piece_with_text oc_law_cup kV_law_cup dc_law_cup pm_law_cup cd_law_cup ct_law_cup oc_law_sip kV_law_sip dc_law_sip pm_law_sip cd_law_sip ct_law_sip oc_law_pick kV_law_pick dc_law_pick pm_law_pick cd_law_pick ct_law_pick oc_law_pair kV_law_pair dc_law_pair pm_law_pair cd_law_pair ct_law_pair oc_is_count kV_is_count dc_is_count pm_is_count cd_is_count ct_is_count oc_sign kV_sign dc_sign pm_sign cd_sign ct_sign oc_square_root kV_square_root dc_square_root pm_square_root cd_square_root ct_square_root oc_under_root kV_under_root dc_under_root pm_under_root cd_under_root ct_under_root oc_equation_of_fraction kV_equation_of_fraction dc_equation_of_fraction pm_equation_of_fraction cd_equation_of_fraction ct_equation_of_fraction oc_simplest_equation kV_simplest_equation dc_simplest_equation pm_simplest_equation cd_simplest_equation ct_simplest_equation oc_pair_order kV_pair_order dc_pair_order pm_pair_order cd_pair_order ct_pair_order oc_check_resistance kV_check_resistance dc_check_resistance pm_check_resistance cd_check_resistance ct_check_resistance oc_check_count kV_check_count dc_check_count pm_check_count cd_check_count ct_check_count oc_Exact_init kV_Exact_init dc_Exact_init pm_Exact_init cd_Exact_init ct_Exact_init oc_check_pattern kV_check_pattern dc_check_pattern pm_check_pattern cd_check_pattern ct_check_pattern oc_ladder_limit kV_ladder_limit dc_ladder_limit pm_ladder_limit cd_ladder_limit ct_ladder_limit oc_Ladder_init kV_Ladder_init dc_Ladder_init pm_Ladder_init cd_Ladder_init ct_Ladder_init oc_Ladder_after kV_Ladder_after dc_Ladder_after pm_Ladder_after cd_Ladder_after ct_Ladder_after oc_Ladder_call kV_Ladder_call dc_Ladder_call pm_Ladder_call cd_Ladder_call ct_Ladder_call oc_Ladder_goes kV_Ladder_goes dc_Ladder_goes pm_Ladder_goes cd_Ladder_goes ct_Ladder_goes oc_Ladder_limit kV_Ladder_limit dc_Ladder_limit pm_Ladder_limit cd_Ladder_limit ct_Ladder_limit oc_Exact_equation kV_Exact_equation dc_Exact_equation pm_Exact_equation cd_Exact_equation ct_Exact_equation oc_Exact_fraction kV_Exact_fraction dc_Exact_fraction pm_Exact_fraction cd_Exact_fraction ct_Exact_fraction oc_law_front kV_law_front dc_law_front pm_law_front cd_law_front ct_law_front oc_law_row kV_law_row dc_law_row pm_law_row cd_law_row ct_law_row oc_law_words kV_law_words dc_law_words pm_law_words cd_law_words ct_law_words oc_law_read kV_law_read dc_law_read pm_law_read cd_law_read ct_law_read oc_law_mixed kV_law_mixed dc_law_mixed pm_law_mixed cd_law_mixed ct_law_mixed oc_Exact_eq kV_Exact_eq dc_Exact_eq pm_Exact_eq cd_Exact_eq ct_Exact_eq oc_beside_fraction kV_beside_fraction dc_beside_fraction pm_beside_fraction cd_beside_fraction ct_beside_fraction oc_limit_beside kV_limit_beside dc_limit_beside pm_limit_beside cd_limit_beside ct_limit_beside oc_Ladder_load kV_Ladder_load dc_Ladder_load pm_Ladder_load cd_Ladder_load ct_Ladder_load oc_Ladder_last_stage kV_Ladder_last_stage dc_Ladder_last_stage pm_Ladder_last_stage cd_Ladder_last_stage ct_Ladder_last_stage oc_check_run kV_check_run dc_check_run pm_check_run cd_check_run ct_check_run oc_squared kV_squared dc_squared pm_squared cd_squared ct_squared oc_sections_before kV_sections_before dc_sections_before pm_sections_before cd_sections_before ct_sections_before oc_least_number kV_least_number dc_least_number pm_least_number cd_least_number ct_least_number oc_first_with kV_first_with dc_first_with pm_first_with cd_first_with ct_first_with oc_first_reaching kV_first_reaching dc_first_reaching pm_first_reaching cd_first_reaching ct_first_reaching oc_first_passing kV_first_passing dc_first_passing pm_first_passing cd_first_passing ct_first_passing oc_count_of kV_count_of dc_count_of pm_count_of cd_count_of ct_count_of oc_law_end kV_law_end dc_law_end pm_law_end cd_law_end ct_law_end oc_law_walk kV_law_walk dc_law_walk pm_law_walk cd_law_walk ct_law_walk oc_law_told kV_law_told dc_law_told pm_law_told cd_law_told ct_law_told oc_law_lines kV_law_lines dc_law_lines pm_law_lines cd_law_lines ct_law_lines oc_law_near kV_law_near dc_law_near pm_law_near cd_law_near ct_law_near oc_law_far kV_law_far dc_law_far pm_law_far cd_law_far ct_law_far oc_law_right kV_law_right dc_law_right pm_law_right cd_law_right ct_law_right oc_law kV_law dc_law pm_law cd_law ct_law : Value} {tG : Tok} {t1 : Tok} {t2 : Tok} {t3 : Tok} {aO_k0 aO_k1 : Tok} {od_aO : Option Addr} {nn_aO : Nat} {sl_aO : Array (Option Value)} {aW_k0 aW_k1 : Tok} {od_aW : Option Addr} {nn_aW : Nat} {sl_aW : Array (Option Value)} {rest_Pattern_numbers : List Value} {rest_Pattern_read : List Value} {tP : Tok} {tC : Tok} {rest_Ladder_goes : List Value} {rest_Ladder_limit : List Value} {rest_Exact_equation : List Value} {rest_Exact_fraction : List Value} {rest_Ladder_load : List Value} {dC_first_reaching : Option Addr} {vC_first_reaching : Array Value} {sC_first_reaching : Array (Option Value)} {dC_first_passing : Option Addr} {vC_first_passing : Array Value} {sC_first_passing : Array (Option Value)} (hfa : mg "law" = some (.ref fa))
    (aG : PySem.W.nsIn K mainGlobals "GREATEST" = some (some (.int 1000000000000 tG)))
    (aOh : PySem.W.nsIn K mainGlobals "MOST_OHMS" = some (some (.int 12 t1)))
    (aPi : PySem.W.nsIn K mainGlobals "MOST_PIECES" = some (some (.int 4 t2)))
    (aJo : PySem.W.nsIn K mainGlobals "MOST_JOINED" = some (some (.int 8 t3)))
    (aOp : PySem.W.nsIn K mainGlobals "OPEN" = some (some (.ref aO)))
    (laOp : K.lookup aO = some ⟨.type "tuple", od_aO, .seq #[.int 1 aO_k0, .int 0 aO_k1] nn_aO, sl_aO⟩)
    (aWo : PySem.W.nsIn K mainGlobals "WORDS" = some (some (.ref aW)))
    (laWo : K.lookup aW = some ⟨.type "tuple", od_aW, .seq #[.str (Str.ofString "rail") aW_k0, .str (Str.ofString "rung") aW_k1] nn_aW, sl_aW⟩)
    (aJ : PySem.W.nsIn K mainGlobals "JoinedRow" = some (some (.ref J)))
    (pgJ : PySem.W.plainGet K J Str.empty = true)
    (hdJ : PySem.W.hasDictIn K J = true)
    (poJ : PySem.W.plainOver K J = true)
    (saJ : PySem.W.findIn K (.ref J) "__setattr__" = some (some (.builtin "object.__setattr__")))
    (mkJ : PySem.W.makesIn K J = true)
    (kcJ : PySem.W.keepIn K (.ref J) = true)
    (nJ_row : PySem.W.findIn K (.ref J) "row" = some none)
    (caJ : PySem.W.findIn K (.ref J) "__class__" = some (some (.builtin "object.__class__")))
    (cmJ : PySem.W.mroIn K J (.type "object") = some true)
    (cn : PySem.W.specialIn K (.builtin "object.__class__") "__get__" = some (some (.builtin "getset_descriptor.__get__")))
    (ct : PySem.W.takesIn K (.builtin "object.__class__") = some true)
    (aC : PySem.W.nsIn K mainGlobals "Pattern" = some (some (.ref C)))
    (pgC : PySem.W.plainGet K C Str.empty = true)
    (hdC : PySem.W.hasDictIn K C = true)
    (poC : PySem.W.plainOver K C = true)
    (saC : PySem.W.findIn K (.ref C) "__setattr__" = some (some (.builtin "object.__setattr__")))
    (mkC : PySem.W.makesIn K C = true)
    (kcC : PySem.W.keepIn K (.ref C) = true)
    (nC_row : PySem.W.findIn K (.ref C) "row" = some none)
    (nC_matrix : PySem.W.findIn K (.ref C) "matrix" = some none)
    (nC_scale : PySem.W.findIn K (.ref C) "scale" = some none)
    (nC_four : PySem.W.findIn K (.ref C) "four" = some none)
    (kt_J : PySem.W.kitOne K (.type "tuple") (.ref J) = some false)
    (sfC : PySem.W.selfFirst K C = true)
    (rdC : PySem.W.readsIn K C (.type "type") = true)
    (gaC : PySem.W.specialIn K (.ref C) "__getattribute__" = some (some (.builtin "type.__getattribute__")))
    (a_JoinedRow_init : PySem.W.findIn K (.ref J) "__init__" = some (some (.ref f_JoinedRow_init)))
    (i_JoinedRow_init : PySem.W.isFn K (.ref f_JoinedRow_init) = true)
    (l_JoinedRow_init : K.lookup f_JoinedRow_init = some ⟨oc_JoinedRow_init, od_JoinedRow_init, .func (PySem.W.fnOf "__init__" "JoinedRow.__init__" (defArgs s_JoinedRow_init) (defBody s_JoinedRow_init) (defScope s_JoinedRow_init) .none kV_JoinedRow_init dc_JoinedRow_init pm_JoinedRow_init an_JoinedRow_init cd_JoinedRow_init ct_JoinedRow_init), sl_JoinedRow_init⟩)
    (c_JoinedRow_init : PySem.W.codeIn K cd_JoinedRow_init "JoinedRow.__init__" = true)
    (k_JoinedRow_init : PySem.W.keepIn K (.ref f_JoinedRow_init) = true)
    (a_Pattern_init : PySem.W.findIn K (.ref C) "__init__" = some (some (.ref f_Pattern_init)))
    (i_Pattern_init : PySem.W.isFn K (.ref f_Pattern_init) = true)
    (l_Pattern_init : K.lookup f_Pattern_init = some ⟨oc_Pattern_init, od_Pattern_init, .func (PySem.W.fnOf "__init__" "Pattern.__init__" (defArgs s_Pattern_init) (defBody s_Pattern_init) (defScope s_Pattern_init) .none kV_Pattern_init dc_Pattern_init pm_Pattern_init an_Pattern_init cd_Pattern_init ct_Pattern_init), sl_Pattern_init⟩)
    (c_Pattern_init : PySem.W.codeIn K cd_Pattern_init "Pattern.__init__" = true)
    (k_Pattern_init : PySem.W.keepIn K (.ref f_Pattern_init) = true)
    (a_Pattern_call : PySem.W.findIn K (.ref C) "__call__" = some (some (.ref f_Pattern_call)))
    (i_Pattern_call : PySem.W.isFn K (.ref f_Pattern_call) = true)
    (l_Pattern_call : K.lookup f_Pattern_call = some ⟨oc_Pattern_call, od_Pattern_call, .func (PySem.W.fnOf "__call__" "Pattern.__call__" (defArgs s_Pattern_call) (defBody s_Pattern_call) (defScope s_Pattern_call) .none kV_Pattern_call dc_Pattern_call pm_Pattern_call an_Pattern_call cd_Pattern_call ct_Pattern_call), sl_Pattern_call⟩)
    (c_Pattern_call : PySem.W.codeIn K cd_Pattern_call "Pattern.__call__" = true)
    (k_Pattern_call : PySem.W.keepIn K (.ref f_Pattern_call) = true)
    (fi_call : PySem.W.fnIn K f_Pattern_call = true)
    (a_Pattern_add : PySem.W.findIn K (.ref C) "__add__" = some (some (.ref f_Pattern_add)))
    (i_Pattern_add : PySem.W.isFn K (.ref f_Pattern_add) = true)
    (l_Pattern_add : K.lookup f_Pattern_add = some ⟨oc_Pattern_add, od_Pattern_add, .func (PySem.W.fnOf "__add__" "Pattern.__add__" (defArgs s_Pattern_add) (defBody s_Pattern_add) (defScope s_Pattern_add) .none kV_Pattern_add dc_Pattern_add pm_Pattern_add an_Pattern_add cd_Pattern_add ct_Pattern_add), sl_Pattern_add⟩)
    (c_Pattern_add : PySem.W.codeIn K cd_Pattern_add "Pattern.__add__" = true)
    (k_Pattern_add : PySem.W.keepIn K (.ref f_Pattern_add) = true)
    (pa_Pattern_numbers : PySem.W.findIn K (.ref C) "numbers" = some (some (.ref pr_Pattern_numbers)))
    (pg_Pattern_numbers : PySem.W.specialIn K (.ref pr_Pattern_numbers) "__get__" = some (some (.builtin "property.__get__")))
    (pt_Pattern_numbers : PySem.W.takesIn K (.ref pr_Pattern_numbers) = some true)
    (pc_Pattern_numbers : PySem.W.recIn K pr_Pattern_numbers "property" = some (.ref f_Pattern_numbers :: rest_Pattern_numbers))
    (l_Pattern_numbers : K.lookup f_Pattern_numbers = some ⟨oc_Pattern_numbers, od_Pattern_numbers, .func (PySem.W.fnOf "numbers" "Pattern.numbers" (defArgs s_Pattern_numbers) (defBody s_Pattern_numbers) (defScope s_Pattern_numbers) .none kV_Pattern_numbers dc_Pattern_numbers pm_Pattern_numbers an_Pattern_numbers cd_Pattern_numbers ct_Pattern_numbers), sl_Pattern_numbers⟩)
    (c_Pattern_numbers : PySem.W.codeIn K cd_Pattern_numbers "Pattern.numbers" = true)
    (k_Pattern_numbers : PySem.W.keepIn K (.ref f_Pattern_numbers) = true)
    (sa_Pattern_read : PySem.W.findCls K (.ref C) (.type "type") "read" = some (.get (.builtin "staticmethod.__get__") (.ref pr_Pattern_read) .none (.ref C)))
    (sc_Pattern_read : PySem.W.recIn K pr_Pattern_read "staticmethod" = some (.ref f_Pattern_read :: rest_Pattern_read))
    (l_Pattern_read : K.lookup f_Pattern_read = some ⟨oc_Pattern_read, od_Pattern_read, .func (PySem.W.fnOf "read" "Pattern.read" (defArgs s_Pattern_read) (defBody s_Pattern_read) (defScope s_Pattern_read) .none kV_Pattern_read dc_Pattern_read pm_Pattern_read an_Pattern_read cd_Pattern_read ct_Pattern_read), sl_Pattern_read⟩)
    (c_Pattern_read : PySem.W.codeIn K cd_Pattern_read "Pattern.read" = true)
    (k_Pattern_read : PySem.W.keepIn K (.ref f_Pattern_read) = true)
    (z_len : PySem.W.nsIn K mainGlobals "len" = some none)
    (z_abs : PySem.W.nsIn K mainGlobals "abs" = some none)
    (z_int : PySem.W.nsIn K mainGlobals "int" = some none)
    (z_bool : PySem.W.nsIn K mainGlobals "bool" = some none)
    (z_tuple : PySem.W.nsIn K mainGlobals "tuple" = some none)
    (z_isinstance : PySem.W.nsIn K mainGlobals "isinstance" = some none)
    (z_divmod : PySem.W.nsIn K mainGlobals "divmod" = some none)
    (z_max : PySem.W.nsIn K mainGlobals "max" = some none)
    (z_min : PySem.W.nsIn K mainGlobals "min" = some none)
    (z_range : PySem.W.nsIn K mainGlobals "range" = some none)
    (z_all : PySem.W.nsIn K mainGlobals "all" = some none)
    (z_repr : PySem.W.nsIn K mainGlobals "repr" = some none)
    (z_str : PySem.W.nsIn K mainGlobals "str" = some none)
    (z_enumerate : PySem.W.nsIn K mainGlobals "enumerate" = some none)
    (a_is_integer : PySem.W.nsIn K mainGlobals "is_integer" = some (some (.ref f_is_integer)))
    (l_is_integer : K.lookup f_is_integer = some ⟨oc_is_integer, od_is_integer, .func (PySem.W.fnOf "is_integer" "is_integer" (defArgs s_is_integer) (defBody s_is_integer) (defScope s_is_integer) .none kV_is_integer dc_is_integer pm_is_integer an_is_integer cd_is_integer ct_is_integer), sl_is_integer⟩)
    (c_is_integer : PySem.W.codeIn K cd_is_integer "is_integer" = true)
    (k_is_integer : PySem.W.keepIn K (.ref f_is_integer) = true)
    (a_is_integer_within : PySem.W.nsIn K mainGlobals "is_integer_within" = some (some (.ref f_is_integer_within)))
    (l_is_integer_within : K.lookup f_is_integer_within = some ⟨oc_is_integer_within, od_is_integer_within, .func (PySem.W.fnOf "is_integer_within" "is_integer_within" (defArgs s_is_integer_within) (defBody s_is_integer_within) (defScope s_is_integer_within) .none kV_is_integer_within dc_is_integer_within pm_is_integer_within an_is_integer_within cd_is_integer_within ct_is_integer_within), sl_is_integer_within⟩)
    (c_is_integer_within : PySem.W.codeIn K cd_is_integer_within "is_integer_within" = true)
    (k_is_integer_within : PySem.W.keepIn K (.ref f_is_integer_within) = true)
    (a_is_pair_of_integers : PySem.W.nsIn K mainGlobals "is_pair_of_integers" = some (some (.ref f_is_pair_of_integers)))
    (l_is_pair_of_integers : K.lookup f_is_pair_of_integers = some ⟨oc_is_pair_of_integers, od_is_pair_of_integers, .func (PySem.W.fnOf "is_pair_of_integers" "is_pair_of_integers" (defArgs s_is_pair_of_integers) (defBody s_is_pair_of_integers) (defScope s_is_pair_of_integers) .none kV_is_pair_of_integers dc_is_pair_of_integers pm_is_pair_of_integers an_is_pair_of_integers cd_is_pair_of_integers ct_is_pair_of_integers), sl_is_pair_of_integers⟩)
    (c_is_pair_of_integers : PySem.W.codeIn K cd_is_pair_of_integers "is_pair_of_integers" = true)
    (k_is_pair_of_integers : PySem.W.keepIn K (.ref f_is_pair_of_integers) = true)
    (a_is_resistance : PySem.W.nsIn K mainGlobals "is_resistance" = some (some (.ref f_is_resistance)))
    (l_is_resistance : K.lookup f_is_resistance = some ⟨oc_is_resistance, od_is_resistance, .func (PySem.W.fnOf "is_resistance" "is_resistance" (defArgs s_is_resistance) (defBody s_is_resistance) (defScope s_is_resistance) .none kV_is_resistance dc_is_resistance pm_is_resistance an_is_resistance cd_is_resistance ct_is_resistance), sl_is_resistance⟩)
    (c_is_resistance : PySem.W.codeIn K cd_is_resistance "is_resistance" = true)
    (k_is_resistance : PySem.W.keepIn K (.ref f_is_resistance) = true)
    (a_pair_of : PySem.W.nsIn K mainGlobals "pair_of" = some (some (.ref f_pair_of)))
    (l_pair_of : K.lookup f_pair_of = some ⟨oc_pair_of, od_pair_of, .func (PySem.W.fnOf "pair_of" "pair_of" (defArgs s_pair_of) (defBody s_pair_of) (defScope s_pair_of) .none kV_pair_of dc_pair_of pm_pair_of an_pair_of cd_pair_of ct_pair_of), sl_pair_of⟩)
    (c_pair_of : PySem.W.codeIn K cd_pair_of "pair_of" = true)
    (k_pair_of : PySem.W.keepIn K (.ref f_pair_of) = true)
    (a_common_divisor : PySem.W.nsIn K mainGlobals "common_divisor" = some (some (.ref f_common_divisor)))
    (l_common_divisor : K.lookup f_common_divisor = some ⟨oc_common_divisor, od_common_divisor, .func (PySem.W.fnOf "common_divisor" "common_divisor" (defArgs s_common_divisor) (defBody s_common_divisor) (defScope s_common_divisor) .none kV_common_divisor dc_common_divisor pm_common_divisor an_common_divisor cd_common_divisor ct_common_divisor), sl_common_divisor⟩)
    (c_common_divisor : PySem.W.codeIn K cd_common_divisor "common_divisor" = true)
    (k_common_divisor : PySem.W.keepIn K (.ref f_common_divisor) = true)
    (a_lowest_terms : PySem.W.nsIn K mainGlobals "lowest_terms" = some (some (.ref f_lowest_terms)))
    (l_lowest_terms : K.lookup f_lowest_terms = some ⟨oc_lowest_terms, od_lowest_terms, .func (PySem.W.fnOf "lowest_terms" "lowest_terms" (defArgs s_lowest_terms) (defBody s_lowest_terms) (defScope s_lowest_terms) .none kV_lowest_terms dc_lowest_terms pm_lowest_terms an_lowest_terms cd_lowest_terms ct_lowest_terms), sl_lowest_terms⟩)
    (c_lowest_terms : PySem.W.codeIn K cd_lowest_terms "lowest_terms" = true)
    (k_lowest_terms : PySem.W.keepIn K (.ref f_lowest_terms) = true)
    (a_lowest_pair : PySem.W.nsIn K mainGlobals "lowest_pair" = some (some (.ref f_lowest_pair)))
    (l_lowest_pair : K.lookup f_lowest_pair = some ⟨oc_lowest_pair, od_lowest_pair, .func (PySem.W.fnOf "lowest_pair" "lowest_pair" (defArgs s_lowest_pair) (defBody s_lowest_pair) (defScope s_lowest_pair) .none kV_lowest_pair dc_lowest_pair pm_lowest_pair an_lowest_pair cd_lowest_pair ct_lowest_pair), sl_lowest_pair⟩)
    (c_lowest_pair : PySem.W.codeIn K cd_lowest_pair "lowest_pair" = true)
    (k_lowest_pair : PySem.W.keepIn K (.ref f_lowest_pair) = true)
    (a_is_piece : PySem.W.nsIn K mainGlobals "is_piece" = some (some (.ref f_is_piece)))
    (l_is_piece : K.lookup f_is_piece = some ⟨oc_is_piece, od_is_piece, .func (PySem.W.fnOf "is_piece" "is_piece" (defArgs s_is_piece) (defBody s_is_piece) (defScope s_is_piece) .none kV_is_piece dc_is_piece pm_is_piece an_is_piece cd_is_piece ct_is_piece), sl_is_piece⟩)
    (c_is_piece : PySem.W.codeIn K cd_is_piece "is_piece" = true)
    (k_is_piece : PySem.W.keepIn K (.ref f_is_piece) = true)
    (a_checked_row : PySem.W.nsIn K mainGlobals "checked_row" = some (some (.ref f_checked_row)))
    (l_checked_row : K.lookup f_checked_row = some ⟨oc_checked_row, od_checked_row, .func (PySem.W.fnOf "checked_row" "checked_row" (defArgs s_checked_row) (defBody s_checked_row) (defScope s_checked_row) .none kV_checked_row dc_checked_row pm_checked_row an_checked_row cd_checked_row ct_checked_row), sl_checked_row⟩)
    (c_checked_row : PySem.W.codeIn K cd_checked_row "checked_row" = true)
    (k_checked_row : PySem.W.keepIn K (.ref f_checked_row) = true)
    (a_matrix_and_scale : PySem.W.nsIn K mainGlobals "matrix_and_scale" = some (some (.ref f_matrix_and_scale)))
    (l_matrix_and_scale : K.lookup f_matrix_and_scale = some ⟨oc_matrix_and_scale, od_matrix_and_scale, .func (PySem.W.fnOf "matrix_and_scale" "matrix_and_scale" (defArgs s_matrix_and_scale) (defBody s_matrix_and_scale) (defScope s_matrix_and_scale) .none kV_matrix_and_scale dc_matrix_and_scale pm_matrix_and_scale an_matrix_and_scale cd_matrix_and_scale ct_matrix_and_scale), sl_matrix_and_scale⟩)
    (c_matrix_and_scale : PySem.W.codeIn K cd_matrix_and_scale "matrix_and_scale" = true)
    (k_matrix_and_scale : PySem.W.keepIn K (.ref f_matrix_and_scale) = true)
    (a_shown_before : PySem.W.nsIn K mainGlobals "shown_before" = some (some (.ref f_shown_before)))
    (l_shown_before : K.lookup f_shown_before = some ⟨oc_shown_before, od_shown_before, .func (PySem.W.fnOf "shown_before" "shown_before" (defArgs s_shown_before) (defBody s_shown_before) (defScope s_shown_before) .none kV_shown_before dc_shown_before pm_shown_before an_shown_before cd_shown_before ct_shown_before), sl_shown_before⟩)
    (c_shown_before : PySem.W.codeIn K cd_shown_before "shown_before" = true)
    (k_shown_before : PySem.W.keepIn K (.ref f_shown_before) = true)
    (a_piece_text : PySem.W.nsIn K mainGlobals "piece_text" = some (some (.ref f_piece_text)))
    (l_piece_text : K.lookup f_piece_text = some ⟨oc_piece_text, od_piece_text, .func (PySem.W.fnOf "piece_text" "piece_text" (defArgs s_piece_text) (defBody s_piece_text) (defScope s_piece_text) .none kV_piece_text dc_piece_text pm_piece_text an_piece_text cd_piece_text ct_piece_text), sl_piece_text⟩)
    (c_piece_text : PySem.W.codeIn K cd_piece_text "piece_text" = true)
    (k_piece_text : PySem.W.keepIn K (.ref f_piece_text) = true)
    (a_piece_with_text : PySem.W.nsIn K mainGlobals "piece_with_text" = some (some (.ref f_piece_with_text)))
    (l_piece_with_text : K.lookup f_piece_with_text = some ⟨oc_piece_with_text, od_piece_with_text, .func (PySem.W.fnOf "piece_with_text" "piece_with_text" (defArgs s_piece_with_text) (defBody s_piece_with_text) (defScope s_piece_with_text) .none kV_piece_with_text dc_piece_with_text pm_piece_with_text an_piece_with_text cd_piece_with_text ct_piece_with_text), sl_piece_with_text⟩)
    (c_piece_with_text : PySem.W.codeIn K cd_piece_with_text "piece_with_text" = true)
    (k_piece_with_text : PySem.W.keepIn K (.ref f_piece_with_text) = true)
    (a_law_cup : PySem.W.nsIn K mainGlobals "_law_cup" = some (some (.ref f_law_cup)))
    (l_law_cup : K.lookup f_law_cup = some ⟨oc_law_cup, od_law_cup, .func (PySem.W.fnOf "_law_cup" "_law_cup" (defArgs s_law_cup) (defBody s_law_cup) (defScope s_law_cup) .none kV_law_cup dc_law_cup pm_law_cup an_law_cup cd_law_cup ct_law_cup), sl_law_cup⟩)
    (c_law_cup : PySem.W.codeIn K cd_law_cup "_law_cup" = true)
    (k_law_cup : PySem.W.keepIn K (.ref f_law_cup) = true)
    (a_law_sip : PySem.W.nsIn K mainGlobals "_law_sip" = some (some (.ref f_law_sip)))
    (l_law_sip : K.lookup f_law_sip = some ⟨oc_law_sip, od_law_sip, .func (PySem.W.fnOf "_law_sip" "_law_sip" (defArgs s_law_sip) (defBody s_law_sip) (defScope s_law_sip) .none kV_law_sip dc_law_sip pm_law_sip an_law_sip cd_law_sip ct_law_sip), sl_law_sip⟩)
    (c_law_sip : PySem.W.codeIn K cd_law_sip "_law_sip" = true)
    (k_law_sip : PySem.W.keepIn K (.ref f_law_sip) = true)
    (a_law_pick : PySem.W.nsIn K mainGlobals "_law_pick" = some (some (.ref f_law_pick)))
    (l_law_pick : K.lookup f_law_pick = some ⟨oc_law_pick, od_law_pick, .func (PySem.W.fnOf "_law_pick" "_law_pick" (defArgs s_law_pick) (defBody s_law_pick) (defScope s_law_pick) .none kV_law_pick dc_law_pick pm_law_pick an_law_pick cd_law_pick ct_law_pick), sl_law_pick⟩)
    (c_law_pick : PySem.W.codeIn K cd_law_pick "_law_pick" = true)
    (k_law_pick : PySem.W.keepIn K (.ref f_law_pick) = true)
    (a_law_pair : PySem.W.nsIn K mainGlobals "_law_pair" = some (some (.ref f_law_pair)))
    (l_law_pair : K.lookup f_law_pair = some ⟨oc_law_pair, od_law_pair, .func (PySem.W.fnOf "_law_pair" "_law_pair" (defArgs s_law_pair) (defBody s_law_pair) (defScope s_law_pair) .none kV_law_pair dc_law_pair pm_law_pair an_law_pair cd_law_pair ct_law_pair), sl_law_pair⟩)
    (c_law_pair : PySem.W.codeIn K cd_law_pair "_law_pair" = true)
    (k_law_pair : PySem.W.keepIn K (.ref f_law_pair) = true)
    (caC : PySem.W.findIn K (.ref C) "__class__" = some (some (.builtin "object.__class__")))
    (cmC : PySem.W.mroIn K C (.type "object") = some true)
    (aGP : PySem.W.nsIn K mainGlobals "GREATEST_PART" = some (some (.int 10000000000000000000000000000000000000000 tP)))
    (aMS : PySem.W.nsIn K mainGlobals "MOST_SECTIONS" = some (some (.int 100 tC)))
    (aCe : PySem.W.nsIn K mainGlobals "Exact" = some (some (.ref Ce)))
    (pgCe : PySem.W.plainGet K Ce Str.empty = true)
    (hdCe : PySem.W.hasDictIn K Ce = true)
    (poCe : PySem.W.plainOver K Ce = true)
    (saCe : PySem.W.findIn K (.ref Ce) "__setattr__" = some (some (.builtin "object.__setattr__")))
    (mkCe : PySem.W.makesIn K Ce = true)
    (kcCe : PySem.W.keepIn K (.ref Ce) = true)
    (nCe_parts : PySem.W.findIn K (.ref Ce) "parts" = some none)
    (caCe : PySem.W.findIn K (.ref Ce) "__class__" = some (some (.builtin "object.__class__")))
    (cmCe : PySem.W.mroIn K Ce (.type "object") = some true)
    (aCl : PySem.W.nsIn K mainGlobals "Ladder" = some (some (.ref Cl)))
    (pgCl : PySem.W.plainGet K Cl Str.empty = true)
    (hdCl : PySem.W.hasDictIn K Cl = true)
    (poCl : PySem.W.plainOver K Cl = true)
    (saCl : PySem.W.findIn K (.ref Cl) "__setattr__" = some (some (.builtin "object.__setattr__")))
    (mkCl : PySem.W.makesIn K Cl = true)
    (kcCl : PySem.W.keepIn K (.ref Cl) = true)
    (nCl_section : PySem.W.findIn K (.ref Cl) "section" = some none)
    (nCl_behind : PySem.W.findIn K (.ref Cl) "behind" = some none)
    (nCl_far : PySem.W.findIn K (.ref Cl) "far" = some none)
    (a_is_count : PySem.W.nsIn K mainGlobals "is_count" = some (some (.ref f_is_count)))
    (l_is_count : K.lookup f_is_count = some ⟨oc_is_count, od_is_count, .func (PySem.W.fnOf "is_count" "is_count" (defArgs s_is_count) (defBody s_is_count) (defScope s_is_count) .none kV_is_count dc_is_count pm_is_count an_is_count cd_is_count ct_is_count), sl_is_count⟩)
    (c_is_count : PySem.W.codeIn K cd_is_count "is_count" = true)
    (k_is_count : PySem.W.keepIn K (.ref f_is_count) = true)
    (a_sign : PySem.W.nsIn K mainGlobals "sign" = some (some (.ref f_sign)))
    (l_sign : K.lookup f_sign = some ⟨oc_sign, od_sign, .func (PySem.W.fnOf "sign" "sign" (defArgs s_sign) (defBody s_sign) (defScope s_sign) .none kV_sign dc_sign pm_sign an_sign cd_sign ct_sign), sl_sign⟩)
    (c_sign : PySem.W.codeIn K cd_sign "sign" = true)
    (k_sign : PySem.W.keepIn K (.ref f_sign) = true)
    (a_square_root : PySem.W.nsIn K mainGlobals "square_root" = some (some (.ref f_square_root)))
    (l_square_root : K.lookup f_square_root = some ⟨oc_square_root, od_square_root, .func (PySem.W.fnOf "square_root" "square_root" (defArgs s_square_root) (defBody s_square_root) (defScope s_square_root) .none kV_square_root dc_square_root pm_square_root an_square_root cd_square_root ct_square_root), sl_square_root⟩)
    (c_square_root : PySem.W.codeIn K cd_square_root "square_root" = true)
    (k_square_root : PySem.W.keepIn K (.ref f_square_root) = true)
    (a_under_root : PySem.W.nsIn K mainGlobals "under_root" = some (some (.ref f_under_root)))
    (l_under_root : K.lookup f_under_root = some ⟨oc_under_root, od_under_root, .func (PySem.W.fnOf "under_root" "under_root" (defArgs s_under_root) (defBody s_under_root) (defScope s_under_root) .none kV_under_root dc_under_root pm_under_root an_under_root cd_under_root ct_under_root), sl_under_root⟩)
    (c_under_root : PySem.W.codeIn K cd_under_root "under_root" = true)
    (k_under_root : PySem.W.keepIn K (.ref f_under_root) = true)
    (a_equation_of_fraction : PySem.W.nsIn K mainGlobals "equation_of_fraction" = some (some (.ref f_equation_of_fraction)))
    (l_equation_of_fraction : K.lookup f_equation_of_fraction = some ⟨oc_equation_of_fraction, od_equation_of_fraction, .func (PySem.W.fnOf "equation_of_fraction" "equation_of_fraction" (defArgs s_equation_of_fraction) (defBody s_equation_of_fraction) (defScope s_equation_of_fraction) .none kV_equation_of_fraction dc_equation_of_fraction pm_equation_of_fraction an_equation_of_fraction cd_equation_of_fraction ct_equation_of_fraction), sl_equation_of_fraction⟩)
    (c_equation_of_fraction : PySem.W.codeIn K cd_equation_of_fraction "equation_of_fraction" = true)
    (k_equation_of_fraction : PySem.W.keepIn K (.ref f_equation_of_fraction) = true)
    (a_simplest_equation : PySem.W.nsIn K mainGlobals "simplest_equation" = some (some (.ref f_simplest_equation)))
    (l_simplest_equation : K.lookup f_simplest_equation = some ⟨oc_simplest_equation, od_simplest_equation, .func (PySem.W.fnOf "simplest_equation" "simplest_equation" (defArgs s_simplest_equation) (defBody s_simplest_equation) (defScope s_simplest_equation) .none kV_simplest_equation dc_simplest_equation pm_simplest_equation an_simplest_equation cd_simplest_equation ct_simplest_equation), sl_simplest_equation⟩)
    (c_simplest_equation : PySem.W.codeIn K cd_simplest_equation "simplest_equation" = true)
    (k_simplest_equation : PySem.W.keepIn K (.ref f_simplest_equation) = true)
    (a_pair_order : PySem.W.nsIn K mainGlobals "pair_order" = some (some (.ref f_pair_order)))
    (l_pair_order : K.lookup f_pair_order = some ⟨oc_pair_order, od_pair_order, .func (PySem.W.fnOf "pair_order" "pair_order" (defArgs s_pair_order) (defBody s_pair_order) (defScope s_pair_order) .none kV_pair_order dc_pair_order pm_pair_order an_pair_order cd_pair_order ct_pair_order), sl_pair_order⟩)
    (c_pair_order : PySem.W.codeIn K cd_pair_order "pair_order" = true)
    (k_pair_order : PySem.W.keepIn K (.ref f_pair_order) = true)
    (a_check_resistance : PySem.W.nsIn K mainGlobals "check_resistance" = some (some (.ref f_check_resistance)))
    (l_check_resistance : K.lookup f_check_resistance = some ⟨oc_check_resistance, od_check_resistance, .func (PySem.W.fnOf "check_resistance" "check_resistance" (defArgs s_check_resistance) (defBody s_check_resistance) (defScope s_check_resistance) .none kV_check_resistance dc_check_resistance pm_check_resistance an_check_resistance cd_check_resistance ct_check_resistance), sl_check_resistance⟩)
    (c_check_resistance : PySem.W.codeIn K cd_check_resistance "check_resistance" = true)
    (k_check_resistance : PySem.W.keepIn K (.ref f_check_resistance) = true)
    (a_check_count : PySem.W.nsIn K mainGlobals "check_count" = some (some (.ref f_check_count)))
    (l_check_count : K.lookup f_check_count = some ⟨oc_check_count, od_check_count, .func (PySem.W.fnOf "check_count" "check_count" (defArgs s_check_count) (defBody s_check_count) (defScope s_check_count) .none kV_check_count dc_check_count pm_check_count an_check_count cd_check_count ct_check_count), sl_check_count⟩)
    (c_check_count : PySem.W.codeIn K cd_check_count "check_count" = true)
    (k_check_count : PySem.W.keepIn K (.ref f_check_count) = true)
    (a_Exact_init : PySem.W.findIn K (.ref Ce) "__init__" = some (some (.ref f_Exact_init)))
    (i_Exact_init : PySem.W.isFn K (.ref f_Exact_init) = true)
    (l_Exact_init : K.lookup f_Exact_init = some ⟨oc_Exact_init, od_Exact_init, .func (PySem.W.fnOf "__init__" "Exact.__init__" (defArgs s_Exact_init) (defBody s_Exact_init) (defScope s_Exact_init) .none kV_Exact_init dc_Exact_init pm_Exact_init an_Exact_init cd_Exact_init ct_Exact_init), sl_Exact_init⟩)
    (c_Exact_init : PySem.W.codeIn K cd_Exact_init "Exact.__init__" = true)
    (k_Exact_init : PySem.W.keepIn K (.ref f_Exact_init) = true)
    (a_check_pattern : PySem.W.nsIn K mainGlobals "check_pattern" = some (some (.ref f_check_pattern)))
    (l_check_pattern : K.lookup f_check_pattern = some ⟨oc_check_pattern, od_check_pattern, .func (PySem.W.fnOf "check_pattern" "check_pattern" (defArgs s_check_pattern) (defBody s_check_pattern) (defScope s_check_pattern) .none kV_check_pattern dc_check_pattern pm_check_pattern an_check_pattern cd_check_pattern ct_check_pattern), sl_check_pattern⟩)
    (c_check_pattern : PySem.W.codeIn K cd_check_pattern "check_pattern" = true)
    (k_check_pattern : PySem.W.keepIn K (.ref f_check_pattern) = true)
    (a_ladder_limit : PySem.W.nsIn K mainGlobals "ladder_limit" = some (some (.ref f_ladder_limit)))
    (l_ladder_limit : K.lookup f_ladder_limit = some ⟨oc_ladder_limit, od_ladder_limit, .func (PySem.W.fnOf "ladder_limit" "ladder_limit" (defArgs s_ladder_limit) (defBody s_ladder_limit) (defScope s_ladder_limit) .none kV_ladder_limit dc_ladder_limit pm_ladder_limit an_ladder_limit cd_ladder_limit ct_ladder_limit), sl_ladder_limit⟩)
    (c_ladder_limit : PySem.W.codeIn K cd_ladder_limit "ladder_limit" = true)
    (k_ladder_limit : PySem.W.keepIn K (.ref f_ladder_limit) = true)
    (a_Ladder_init : PySem.W.findIn K (.ref Cl) "__init__" = some (some (.ref f_Ladder_init)))
    (i_Ladder_init : PySem.W.isFn K (.ref f_Ladder_init) = true)
    (l_Ladder_init : K.lookup f_Ladder_init = some ⟨oc_Ladder_init, od_Ladder_init, .func (PySem.W.fnOf "__init__" "Ladder.__init__" (defArgs s_Ladder_init) (defBody s_Ladder_init) (defScope s_Ladder_init) .none kV_Ladder_init dc_Ladder_init pm_Ladder_init an_Ladder_init cd_Ladder_init ct_Ladder_init), sl_Ladder_init⟩)
    (c_Ladder_init : PySem.W.codeIn K cd_Ladder_init "Ladder.__init__" = true)
    (k_Ladder_init : PySem.W.keepIn K (.ref f_Ladder_init) = true)
    (a_Ladder_after : PySem.W.findIn K (.ref Cl) "after" = some (some (.ref f_Ladder_after)))
    (i_Ladder_after : PySem.W.isFn K (.ref f_Ladder_after) = true)
    (l_Ladder_after : K.lookup f_Ladder_after = some ⟨oc_Ladder_after, od_Ladder_after, .func (PySem.W.fnOf "after" "Ladder.after" (defArgs s_Ladder_after) (defBody s_Ladder_after) (defScope s_Ladder_after) .none kV_Ladder_after dc_Ladder_after pm_Ladder_after an_Ladder_after cd_Ladder_after ct_Ladder_after), sl_Ladder_after⟩)
    (c_Ladder_after : PySem.W.codeIn K cd_Ladder_after "Ladder.after" = true)
    (k_Ladder_after : PySem.W.keepIn K (.ref f_Ladder_after) = true)
    (a_Ladder_call : PySem.W.findIn K (.ref Cl) "__call__" = some (some (.ref f_Ladder_call)))
    (i_Ladder_call : PySem.W.isFn K (.ref f_Ladder_call) = true)
    (l_Ladder_call : K.lookup f_Ladder_call = some ⟨oc_Ladder_call, od_Ladder_call, .func (PySem.W.fnOf "__call__" "Ladder.__call__" (defArgs s_Ladder_call) (defBody s_Ladder_call) (defScope s_Ladder_call) .none kV_Ladder_call dc_Ladder_call pm_Ladder_call an_Ladder_call cd_Ladder_call ct_Ladder_call), sl_Ladder_call⟩)
    (c_Ladder_call : PySem.W.codeIn K cd_Ladder_call "Ladder.__call__" = true)
    (k_Ladder_call : PySem.W.keepIn K (.ref f_Ladder_call) = true)
    (fi_lcall : PySem.W.fnIn K f_Ladder_call = true)
    (pa_Ladder_goes : PySem.W.findIn K (.ref Cl) "goes" = some (some (.ref pr_Ladder_goes)))
    (pg_Ladder_goes : PySem.W.specialIn K (.ref pr_Ladder_goes) "__get__" = some (some (.builtin "property.__get__")))
    (pt_Ladder_goes : PySem.W.takesIn K (.ref pr_Ladder_goes) = some true)
    (pc_Ladder_goes : PySem.W.recIn K pr_Ladder_goes "property" = some (.ref f_Ladder_goes :: rest_Ladder_goes))
    (l_Ladder_goes : K.lookup f_Ladder_goes = some ⟨oc_Ladder_goes, od_Ladder_goes, .func (PySem.W.fnOf "goes" "Ladder.goes" (defArgs s_Ladder_goes) (defBody s_Ladder_goes) (defScope s_Ladder_goes) .none kV_Ladder_goes dc_Ladder_goes pm_Ladder_goes an_Ladder_goes cd_Ladder_goes ct_Ladder_goes), sl_Ladder_goes⟩)
    (c_Ladder_goes : PySem.W.codeIn K cd_Ladder_goes "Ladder.goes" = true)
    (k_Ladder_goes : PySem.W.keepIn K (.ref f_Ladder_goes) = true)
    (pa_Ladder_limit : PySem.W.findIn K (.ref Cl) "limit" = some (some (.ref pr_Ladder_limit)))
    (pg_Ladder_limit : PySem.W.specialIn K (.ref pr_Ladder_limit) "__get__" = some (some (.builtin "property.__get__")))
    (pt_Ladder_limit : PySem.W.takesIn K (.ref pr_Ladder_limit) = some true)
    (pc_Ladder_limit : PySem.W.recIn K pr_Ladder_limit "property" = some (.ref f_Ladder_limit :: rest_Ladder_limit))
    (l_Ladder_limit : K.lookup f_Ladder_limit = some ⟨oc_Ladder_limit, od_Ladder_limit, .func (PySem.W.fnOf "limit" "Ladder.limit" (defArgs s_Ladder_limit) (defBody s_Ladder_limit) (defScope s_Ladder_limit) .none kV_Ladder_limit dc_Ladder_limit pm_Ladder_limit an_Ladder_limit cd_Ladder_limit ct_Ladder_limit), sl_Ladder_limit⟩)
    (c_Ladder_limit : PySem.W.codeIn K cd_Ladder_limit "Ladder.limit" = true)
    (k_Ladder_limit : PySem.W.keepIn K (.ref f_Ladder_limit) = true)
    (pa_Exact_equation : PySem.W.findIn K (.ref Ce) "equation" = some (some (.ref pr_Exact_equation)))
    (pg_Exact_equation : PySem.W.specialIn K (.ref pr_Exact_equation) "__get__" = some (some (.builtin "property.__get__")))
    (pt_Exact_equation : PySem.W.takesIn K (.ref pr_Exact_equation) = some true)
    (pc_Exact_equation : PySem.W.recIn K pr_Exact_equation "property" = some (.ref f_Exact_equation :: rest_Exact_equation))
    (l_Exact_equation : K.lookup f_Exact_equation = some ⟨oc_Exact_equation, od_Exact_equation, .func (PySem.W.fnOf "equation" "Exact.equation" (defArgs s_Exact_equation) (defBody s_Exact_equation) (defScope s_Exact_equation) .none kV_Exact_equation dc_Exact_equation pm_Exact_equation an_Exact_equation cd_Exact_equation ct_Exact_equation), sl_Exact_equation⟩)
    (c_Exact_equation : PySem.W.codeIn K cd_Exact_equation "Exact.equation" = true)
    (k_Exact_equation : PySem.W.keepIn K (.ref f_Exact_equation) = true)
    (pa_Exact_fraction : PySem.W.findIn K (.ref Ce) "fraction" = some (some (.ref pr_Exact_fraction)))
    (pg_Exact_fraction : PySem.W.specialIn K (.ref pr_Exact_fraction) "__get__" = some (some (.builtin "property.__get__")))
    (pt_Exact_fraction : PySem.W.takesIn K (.ref pr_Exact_fraction) = some true)
    (pc_Exact_fraction : PySem.W.recIn K pr_Exact_fraction "property" = some (.ref f_Exact_fraction :: rest_Exact_fraction))
    (l_Exact_fraction : K.lookup f_Exact_fraction = some ⟨oc_Exact_fraction, od_Exact_fraction, .func (PySem.W.fnOf "fraction" "Exact.fraction" (defArgs s_Exact_fraction) (defBody s_Exact_fraction) (defScope s_Exact_fraction) .none kV_Exact_fraction dc_Exact_fraction pm_Exact_fraction an_Exact_fraction cd_Exact_fraction ct_Exact_fraction), sl_Exact_fraction⟩)
    (c_Exact_fraction : PySem.W.codeIn K cd_Exact_fraction "Exact.fraction" = true)
    (k_Exact_fraction : PySem.W.keepIn K (.ref f_Exact_fraction) = true)
    (a_law_front : PySem.W.nsIn K mainGlobals "_law_front" = some (some (.ref f_law_front)))
    (l_law_front : K.lookup f_law_front = some ⟨oc_law_front, od_law_front, .func (PySem.W.fnOf "_law_front" "_law_front" (defArgs s_law_front) (defBody s_law_front) (defScope s_law_front) .none kV_law_front dc_law_front pm_law_front an_law_front cd_law_front ct_law_front), sl_law_front⟩)
    (c_law_front : PySem.W.codeIn K cd_law_front "_law_front" = true)
    (k_law_front : PySem.W.keepIn K (.ref f_law_front) = true)
    (a_law_row : PySem.W.nsIn K mainGlobals "_law_row" = some (some (.ref f_law_row)))
    (l_law_row : K.lookup f_law_row = some ⟨oc_law_row, od_law_row, .func (PySem.W.fnOf "_law_row" "_law_row" (defArgs s_law_row) (defBody s_law_row) (defScope s_law_row) .none kV_law_row dc_law_row pm_law_row an_law_row cd_law_row ct_law_row), sl_law_row⟩)
    (c_law_row : PySem.W.codeIn K cd_law_row "_law_row" = true)
    (k_law_row : PySem.W.keepIn K (.ref f_law_row) = true)
    (a_law_words : PySem.W.nsIn K mainGlobals "_law_words" = some (some (.ref f_law_words)))
    (l_law_words : K.lookup f_law_words = some ⟨oc_law_words, od_law_words, .func (PySem.W.fnOf "_law_words" "_law_words" (defArgs s_law_words) (defBody s_law_words) (defScope s_law_words) .none kV_law_words dc_law_words pm_law_words an_law_words cd_law_words ct_law_words), sl_law_words⟩)
    (c_law_words : PySem.W.codeIn K cd_law_words "_law_words" = true)
    (k_law_words : PySem.W.keepIn K (.ref f_law_words) = true)
    (a_law_read : PySem.W.nsIn K mainGlobals "_law_read" = some (some (.ref f_law_read)))
    (l_law_read : K.lookup f_law_read = some ⟨oc_law_read, od_law_read, .func (PySem.W.fnOf "_law_read" "_law_read" (defArgs s_law_read) (defBody s_law_read) (defScope s_law_read) .none kV_law_read dc_law_read pm_law_read an_law_read cd_law_read ct_law_read), sl_law_read⟩)
    (c_law_read : PySem.W.codeIn K cd_law_read "_law_read" = true)
    (k_law_read : PySem.W.keepIn K (.ref f_law_read) = true)
    (a_law_mixed : PySem.W.nsIn K mainGlobals "_law_mixed" = some (some (.ref f_law_mixed)))
    (l_law_mixed : K.lookup f_law_mixed = some ⟨oc_law_mixed, od_law_mixed, .func (PySem.W.fnOf "_law_mixed" "_law_mixed" (defArgs s_law_mixed) (defBody s_law_mixed) (defScope s_law_mixed) .none kV_law_mixed dc_law_mixed pm_law_mixed an_law_mixed cd_law_mixed ct_law_mixed), sl_law_mixed⟩)
    (c_law_mixed : PySem.W.codeIn K cd_law_mixed "_law_mixed" = true)
    (k_law_mixed : PySem.W.keepIn K (.ref f_law_mixed) = true)
    (kt_E : PySem.W.kitOne K (.type "tuple") (.ref Ce) = some false)
    (nf_E : PySem.W.notFirst K Ce (.type "tuple") = true)
    (a_Exact_eq : PySem.W.findIn K (.ref Ce) "__eq__" = some (some (.ref f_Exact_eq)))
    (i_Exact_eq : PySem.W.isFn K (.ref f_Exact_eq) = true)
    (l_Exact_eq : K.lookup f_Exact_eq = some ⟨oc_Exact_eq, od_Exact_eq, .func (PySem.W.fnOf "__eq__" "Exact.__eq__" (defArgs s_Exact_eq) (defBody s_Exact_eq) (defScope s_Exact_eq) .none kV_Exact_eq dc_Exact_eq pm_Exact_eq an_Exact_eq cd_Exact_eq ct_Exact_eq), sl_Exact_eq⟩)
    (c_Exact_eq : PySem.W.codeIn K cd_Exact_eq "Exact.__eq__" = true)
    (k_Exact_eq : PySem.W.keepIn K (.ref f_Exact_eq) = true)
    (caCl : PySem.W.findIn K (.ref Cl) "__class__" = some (some (.builtin "object.__class__")))
    (cmCl : PySem.W.mroIn K Cl (.type "object") = some true)
    (aCg : PySem.W.nsIn K mainGlobals "Greatest" = some (some (.ref Cg)))
    (aCs : PySem.W.nsIn K mainGlobals "Least" = some (some (.ref Cs)))
    (z_reversed : PySem.W.nsIn K mainGlobals "reversed" = some none)
    (a_beside_fraction : PySem.W.nsIn K mainGlobals "beside_fraction" = some (some (.ref f_beside_fraction)))
    (l_beside_fraction : K.lookup f_beside_fraction = some ⟨oc_beside_fraction, od_beside_fraction, .func (PySem.W.fnOf "beside_fraction" "beside_fraction" (defArgs s_beside_fraction) (defBody s_beside_fraction) (defScope s_beside_fraction) .none kV_beside_fraction dc_beside_fraction pm_beside_fraction an_beside_fraction cd_beside_fraction ct_beside_fraction), sl_beside_fraction⟩)
    (c_beside_fraction : PySem.W.codeIn K cd_beside_fraction "beside_fraction" = true)
    (k_beside_fraction : PySem.W.keepIn K (.ref f_beside_fraction) = true)
    (a_limit_beside : PySem.W.nsIn K mainGlobals "limit_beside" = some (some (.ref f_limit_beside)))
    (l_limit_beside : K.lookup f_limit_beside = some ⟨oc_limit_beside, od_limit_beside, .func (PySem.W.fnOf "limit_beside" "limit_beside" (defArgs s_limit_beside) (defBody s_limit_beside) (defScope s_limit_beside) .none kV_limit_beside dc_limit_beside pm_limit_beside an_limit_beside cd_limit_beside ct_limit_beside), sl_limit_beside⟩)
    (c_limit_beside : PySem.W.codeIn K cd_limit_beside "limit_beside" = true)
    (k_limit_beside : PySem.W.keepIn K (.ref f_limit_beside) = true)
    (pa_Ladder_load : PySem.W.findIn K (.ref Cl) "load" = some (some (.ref pr_Ladder_load)))
    (pg_Ladder_load : PySem.W.specialIn K (.ref pr_Ladder_load) "__get__" = some (some (.builtin "property.__get__")))
    (pt_Ladder_load : PySem.W.takesIn K (.ref pr_Ladder_load) = some true)
    (pc_Ladder_load : PySem.W.recIn K pr_Ladder_load "property" = some (.ref f_Ladder_load :: rest_Ladder_load))
    (l_Ladder_load : K.lookup f_Ladder_load = some ⟨oc_Ladder_load, od_Ladder_load, .func (PySem.W.fnOf "load" "Ladder.load" (defArgs s_Ladder_load) (defBody s_Ladder_load) (defScope s_Ladder_load) .none kV_Ladder_load dc_Ladder_load pm_Ladder_load an_Ladder_load cd_Ladder_load ct_Ladder_load), sl_Ladder_load⟩)
    (c_Ladder_load : PySem.W.codeIn K cd_Ladder_load "Ladder.load" = true)
    (k_Ladder_load : PySem.W.keepIn K (.ref f_Ladder_load) = true)
    (a_Ladder_last_stage : PySem.W.findIn K (.ref Cl) "last_stage" = some (some (.ref f_Ladder_last_stage)))
    (i_Ladder_last_stage : PySem.W.isFn K (.ref f_Ladder_last_stage) = true)
    (l_Ladder_last_stage : K.lookup f_Ladder_last_stage = some ⟨oc_Ladder_last_stage, od_Ladder_last_stage, .func (PySem.W.fnOf "last_stage" "Ladder.last_stage" (defArgs s_Ladder_last_stage) (defBody s_Ladder_last_stage) (defScope s_Ladder_last_stage) .none kV_Ladder_last_stage dc_Ladder_last_stage pm_Ladder_last_stage an_Ladder_last_stage cd_Ladder_last_stage ct_Ladder_last_stage), sl_Ladder_last_stage⟩)
    (c_Ladder_last_stage : PySem.W.codeIn K cd_Ladder_last_stage "Ladder.last_stage" = true)
    (k_Ladder_last_stage : PySem.W.keepIn K (.ref f_Ladder_last_stage) = true)
    (a_check_run : PySem.W.nsIn K mainGlobals "check_run" = some (some (.ref f_check_run)))
    (l_check_run : K.lookup f_check_run = some ⟨oc_check_run, od_check_run, .func (PySem.W.fnOf "check_run" "check_run" (defArgs s_check_run) (defBody s_check_run) (defScope s_check_run) .none kV_check_run dc_check_run pm_check_run an_check_run cd_check_run ct_check_run), sl_check_run⟩)
    (c_check_run : PySem.W.codeIn K cd_check_run "check_run" = true)
    (k_check_run : PySem.W.keepIn K (.ref f_check_run) = true)
    (a_squared : PySem.W.nsIn K mainGlobals "squared" = some (some (.ref f_squared)))
    (l_squared : K.lookup f_squared = some ⟨oc_squared, od_squared, .func (PySem.W.fnOf "squared" "squared" (defArgs s_squared) (defBody s_squared) (defScope s_squared) .none kV_squared dc_squared pm_squared an_squared cd_squared ct_squared), sl_squared⟩)
    (c_squared : PySem.W.codeIn K cd_squared "squared" = true)
    (k_squared : PySem.W.keepIn K (.ref f_squared) = true)
    (a_sections_before : PySem.W.nsIn K mainGlobals "sections_before" = some (some (.ref f_sections_before)))
    (l_sections_before : K.lookup f_sections_before = some ⟨oc_sections_before, od_sections_before, .func (PySem.W.fnOf "sections_before" "sections_before" (defArgs s_sections_before) (defBody s_sections_before) (defScope s_sections_before) .none kV_sections_before dc_sections_before pm_sections_before an_sections_before cd_sections_before ct_sections_before), sl_sections_before⟩)
    (c_sections_before : PySem.W.codeIn K cd_sections_before "sections_before" = true)
    (k_sections_before : PySem.W.keepIn K (.ref f_sections_before) = true)
    (a_least_number : PySem.W.nsIn K mainGlobals "least_number" = some (some (.ref f_least_number)))
    (l_least_number : K.lookup f_least_number = some ⟨oc_least_number, od_least_number, .func (PySem.W.fnOf "least_number" "least_number" (defArgs s_least_number) (defBody s_least_number) (defScope s_least_number) .none kV_least_number dc_least_number pm_least_number an_least_number cd_least_number ct_least_number), sl_least_number⟩)
    (c_least_number : PySem.W.codeIn K cd_least_number "least_number" = true)
    (k_least_number : PySem.W.keepIn K (.ref f_least_number) = true)
    (a_first_with : PySem.W.nsIn K mainGlobals "first_with" = some (some (.ref f_first_with)))
    (l_first_with : K.lookup f_first_with = some ⟨oc_first_with, od_first_with, .func (PySem.W.fnOf "first_with" "first_with" (defArgs s_first_with) (defBody s_first_with) (defScope s_first_with) .none kV_first_with dc_first_with pm_first_with an_first_with cd_first_with ct_first_with), sl_first_with⟩)
    (c_first_with : PySem.W.codeIn K cd_first_with "first_with" = true)
    (k_first_with : PySem.W.keepIn K (.ref f_first_with) = true)
    (a_first_reaching : PySem.W.nsIn K mainGlobals "first_reaching" = some (some (.ref f_first_reaching)))
    (l_first_reaching : K.lookup f_first_reaching = some ⟨oc_first_reaching, od_first_reaching, .func (PySem.W.fnOf "first_reaching" "first_reaching" (defArgs s_first_reaching) (defBody s_first_reaching) (defScope s_first_reaching) .none kV_first_reaching dc_first_reaching pm_first_reaching an_first_reaching cd_first_reaching ct_first_reaching), sl_first_reaching⟩)
    (c_first_reaching : PySem.W.codeIn K cd_first_reaching "first_reaching" = true)
    (k_first_reaching : PySem.W.keepIn K (.ref f_first_reaching) = true)
    (e_first_reaching : cd_first_reaching = .ref cA_first_reaching)
    (lc_first_reaching : K.lookup cA_first_reaching = some ⟨.type "code", dC_first_reaching, .fields vC_first_reaching, sC_first_reaching⟩)
    (pl_first_reaching : (vC_first_reaching[11]? : Option Value) = some (.ref PA_first_reaching))
    (ch_first_reaching : PySem.W.codeHdIn K cA_first_reaching PA_first_reaching = true)
    (tt_first_reaching : h.get? PA_first_reaching = some (PySem.W.tabObj #[]))
    (kn_first_reaching : K.lookup PA_first_reaching = none)
    (a_first_passing : PySem.W.nsIn K mainGlobals "first_passing" = some (some (.ref f_first_passing)))
    (l_first_passing : K.lookup f_first_passing = some ⟨oc_first_passing, od_first_passing, .func (PySem.W.fnOf "first_passing" "first_passing" (defArgs s_first_passing) (defBody s_first_passing) (defScope s_first_passing) .none kV_first_passing dc_first_passing pm_first_passing an_first_passing cd_first_passing ct_first_passing), sl_first_passing⟩)
    (c_first_passing : PySem.W.codeIn K cd_first_passing "first_passing" = true)
    (k_first_passing : PySem.W.keepIn K (.ref f_first_passing) = true)
    (e_first_passing : cd_first_passing = .ref cA_first_passing)
    (lc_first_passing : K.lookup cA_first_passing = some ⟨.type "code", dC_first_passing, .fields vC_first_passing, sC_first_passing⟩)
    (pl_first_passing : (vC_first_passing[11]? : Option Value) = some (.ref PA_first_passing))
    (ch_first_passing : PySem.W.codeHdIn K cA_first_passing PA_first_passing = true)
    (tt_first_passing : h.get? PA_first_passing = some (PySem.W.tabObj #[]))
    (kn_first_passing : K.lookup PA_first_passing = none)
    (a_count_of : PySem.W.nsIn K mainGlobals "count_of" = some (some (.ref f_count_of)))
    (l_count_of : K.lookup f_count_of = some ⟨oc_count_of, od_count_of, .func (PySem.W.fnOf "count_of" "count_of" (defArgs s_count_of) (defBody s_count_of) (defScope s_count_of) .none kV_count_of dc_count_of pm_count_of an_count_of cd_count_of ct_count_of), sl_count_of⟩)
    (c_count_of : PySem.W.codeIn K cd_count_of "count_of" = true)
    (k_count_of : PySem.W.keepIn K (.ref f_count_of) = true)
    (a_law_end : PySem.W.nsIn K mainGlobals "_law_end" = some (some (.ref f_law_end)))
    (l_law_end : K.lookup f_law_end = some ⟨oc_law_end, od_law_end, .func (PySem.W.fnOf "_law_end" "_law_end" (defArgs s_law_end) (defBody s_law_end) (defScope s_law_end) .none kV_law_end dc_law_end pm_law_end an_law_end cd_law_end ct_law_end), sl_law_end⟩)
    (c_law_end : PySem.W.codeIn K cd_law_end "_law_end" = true)
    (k_law_end : PySem.W.keepIn K (.ref f_law_end) = true)
    (a_law_walk : PySem.W.nsIn K mainGlobals "_law_walk" = some (some (.ref f_law_walk)))
    (l_law_walk : K.lookup f_law_walk = some ⟨oc_law_walk, od_law_walk, .func (PySem.W.fnOf "_law_walk" "_law_walk" (defArgs s_law_walk) (defBody s_law_walk) (defScope s_law_walk) .none kV_law_walk dc_law_walk pm_law_walk an_law_walk cd_law_walk ct_law_walk), sl_law_walk⟩)
    (c_law_walk : PySem.W.codeIn K cd_law_walk "_law_walk" = true)
    (k_law_walk : PySem.W.keepIn K (.ref f_law_walk) = true)
    (a_law_told : PySem.W.nsIn K mainGlobals "_law_told" = some (some (.ref f_law_told)))
    (l_law_told : K.lookup f_law_told = some ⟨oc_law_told, od_law_told, .func (PySem.W.fnOf "_law_told" "_law_told" (defArgs s_law_told) (defBody s_law_told) (defScope s_law_told) .none kV_law_told dc_law_told pm_law_told an_law_told cd_law_told ct_law_told), sl_law_told⟩)
    (c_law_told : PySem.W.codeIn K cd_law_told "_law_told" = true)
    (k_law_told : PySem.W.keepIn K (.ref f_law_told) = true)
    (a_law_lines : PySem.W.nsIn K mainGlobals "_law_lines" = some (some (.ref f_law_lines)))
    (l_law_lines : K.lookup f_law_lines = some ⟨oc_law_lines, od_law_lines, .func (PySem.W.fnOf "_law_lines" "_law_lines" (defArgs s_law_lines) (defBody s_law_lines) (defScope s_law_lines) .none kV_law_lines dc_law_lines pm_law_lines an_law_lines cd_law_lines ct_law_lines), sl_law_lines⟩)
    (c_law_lines : PySem.W.codeIn K cd_law_lines "_law_lines" = true)
    (k_law_lines : PySem.W.keepIn K (.ref f_law_lines) = true)
    (a_law_near : PySem.W.nsIn K mainGlobals "_law_near" = some (some (.ref f_law_near)))
    (l_law_near : K.lookup f_law_near = some ⟨oc_law_near, od_law_near, .func (PySem.W.fnOf "_law_near" "_law_near" (defArgs s_law_near) (defBody s_law_near) (defScope s_law_near) .none kV_law_near dc_law_near pm_law_near an_law_near cd_law_near ct_law_near), sl_law_near⟩)
    (c_law_near : PySem.W.codeIn K cd_law_near "_law_near" = true)
    (k_law_near : PySem.W.keepIn K (.ref f_law_near) = true)
    (a_law_far : PySem.W.nsIn K mainGlobals "_law_far" = some (some (.ref f_law_far)))
    (l_law_far : K.lookup f_law_far = some ⟨oc_law_far, od_law_far, .func (PySem.W.fnOf "_law_far" "_law_far" (defArgs s_law_far) (defBody s_law_far) (defScope s_law_far) .none kV_law_far dc_law_far pm_law_far an_law_far cd_law_far ct_law_far), sl_law_far⟩)
    (c_law_far : PySem.W.codeIn K cd_law_far "_law_far" = true)
    (k_law_far : PySem.W.keepIn K (.ref f_law_far) = true)
    (a_law_right : PySem.W.nsIn K mainGlobals "_law_right" = some (some (.ref f_law_right)))
    (l_law_right : K.lookup f_law_right = some ⟨oc_law_right, od_law_right, .func (PySem.W.fnOf "_law_right" "_law_right" (defArgs s_law_right) (defBody s_law_right) (defScope s_law_right) .none kV_law_right dc_law_right pm_law_right an_law_right cd_law_right ct_law_right), sl_law_right⟩)
    (c_law_right : PySem.W.codeIn K cd_law_right "_law_right" = true)
    (k_law_right : PySem.W.keepIn K (.ref f_law_right) = true)
    (a_law : PySem.W.nsIn K mainGlobals "law" = some (some (.ref f_law)))
    (l_law : K.lookup f_law = some ⟨oc_law, od_law, .func (PySem.W.fnOf "law" "law" (defArgs s_law) (defBody s_law) (defScope s_law) .none kV_law dc_law pm_law an_law cd_law ct_law), sl_law⟩)
    (c_law : PySem.W.codeIn K cd_law "law" = true)
    (k_law : PySem.W.keepIn K (.ref f_law) = true)
    (ne_first_reaching_first_passing : PA_first_reaching ≠ PA_first_passing)
    (ne_first_passing_first_reaching : PA_first_passing ≠ PA_first_reaching) :
    LawT l w K 15 63 "_law_script" mg fa h := by
  have e := hfa.symm.trans (PySem.W.mg_of X G a_law)
  cases e
  subst e_first_reaching
  subst e_first_passing
  have T : TxtS K mg tG t1 t2 t3 tP tC aO aW J C Ce Cl Cg Cs := { len := PySem.W.mg_none_of X G z_len, abs := PySem.W.mg_none_of X G z_abs, int_ := PySem.W.mg_none_of X G z_int, bool_ := PySem.W.mg_none_of X G z_bool, tuple_ := PySem.W.mg_none_of X G z_tuple, isinstance := PySem.W.mg_none_of X G z_isinstance, divmod := PySem.W.mg_none_of X G z_divmod, max := PySem.W.mg_none_of X G z_max, min := PySem.W.mg_none_of X G z_min, range := PySem.W.mg_none_of X G z_range, all := PySem.W.mg_none_of X G z_all, repr := PySem.W.mg_none_of X G z_repr, str_ := PySem.W.mg_none_of X G z_str, enumerate := PySem.W.mg_none_of X G z_enumerate, mgG := PySem.W.mg_of X G aG, mgO := PySem.W.mg_of X G aOp, opn := ⟨_, _, _, laOp, rfl, rfl, (by show 2 ≤ sizeLine; decide), .cons ⟨_, rfl⟩ (.cons ⟨_, rfl⟩ .nil)⟩, mgOh := PySem.W.mg_of X G aOh, mgPi := PySem.W.mg_of X G aPi, mgJo := PySem.W.mg_of X G aJo, mgW := PySem.W.mg_of X G aWo, wds := ⟨_, _, _, laWo, rfl, rfl, (by show 2 ≤ sizeLine; decide), .cons ⟨_, rfl⟩ (.cons ⟨_, rfl⟩ .nil)⟩, mgJ := PySem.W.mg_of X G aJ, mgC := PySem.W.mg_of X G aC, clJ := ⟨pgJ, hdJ, poJ, saJ⟩, nJ := nJ_row, caJ := caJ, cnJ := cn, ctJ := ct, cmJ := cmJ, isJ := (by unfold PySem.W.kitOne; simp), ktJ := kt_J, cl := ⟨pgC, hdC, poC, saC⟩, nRow := nC_row, nMat := nC_matrix, nScl := nC_scale, nFour := nC_four, mgP := PySem.W.mg_of X G aGP, mgCo := PySem.W.mg_of X G aMS, mgE := PySem.W.mg_of X G aCe, clE := ⟨pgCe, hdCe, poCe, saCe⟩, nP := nCe_parts, mgL := PySem.W.mg_of X G aCl, clL := ⟨pgCl, hdCl, poCl, saCl⟩, nSec := nCl_section, nBeh := nCl_behind, nFar := nCl_far, mgGr := PySem.W.mg_of X G aCg, mgLs := PySem.W.mg_of X G aCs }
  refine ⟨PySem.W.fnOf "law" "law" (defArgs s_law) (defBody s_law) (defScope s_law) .none kV_law dc_law pm_law an_law cd_law ct_law, [(cA_first_reaching, PA_first_reaching), (cA_first_passing, PA_first_passing)], spLaw K [(PA_first_reaching, ("first_reaching" : Str) ++ ".<locals>.<lambda>"), (PA_first_passing, ("first_passing" : Str) ++ ".<locals>.<lambda>")], List.forall_mem_cons.mpr ⟨tt_first_reaching, List.forall_mem_cons.mpr ⟨tt_first_passing, fun _ z => nomatch z⟩⟩, List.forall_mem_cons.mpr ⟨kn_first_reaching, List.forall_mem_cons.mpr ⟨kn_first_passing, fun _ z => nomatch z⟩⟩, List.forall_mem_cons.mpr ⟨PySem.W.codeHd_of_K X ch_first_reaching, List.forall_mem_cons.mpr ⟨PySem.W.codeHd_of_K X ch_first_passing, fun _ z => nomatch z⟩⟩, fun s v => .of_eq rfl, fun H a ns hl hT hS => ⟨a, ns, rfl, hS, hl, ?_, fun _ => rfl⟩, fun base _ _ hTB => ?_⟩
  · exact List.forall_mem_cons.mpr ⟨LamX.TabS.nil (hT (cA_first_reaching, PA_first_reaching) (by simp)), List.forall_mem_cons.mpr ⟨LamX.TabS.nil (hT (cA_first_passing, PA_first_passing) (by simp)), fun _ z => nomatch z⟩⟩
  have TB_first_reaching := hTB (cA_first_reaching, PA_first_reaching) (by simp)
  have TM_first_reaching : (PA_first_reaching, ("first_reaching" : Str) ++ ".<locals>.<lambda>") ∈ ([(PA_first_reaching, ("first_reaching" : Str) ++ ".<locals>.<lambda>"), (PA_first_passing, ("first_passing" : Str) ++ ".<locals>.<lambda>")] : List (Addr × Str)) := by simp
  have TU_first_reaching : ∀ p ∈ ([(PA_first_reaching, ("first_reaching" : Str) ++ ".<locals>.<lambda>"), (PA_first_passing, ("first_passing" : Str) ++ ".<locals>.<lambda>")] : List (Addr × Str)), p.1 = PA_first_reaching → p.2 = ("first_reaching" : Str) ++ ".<locals>.<lambda>" := List.forall_mem_cons.mpr ⟨fun _ => rfl, List.forall_mem_cons.mpr ⟨fun z => absurd z ne_first_passing_first_reaching, fun _ z => nomatch z⟩⟩
  have FC_first_reaching : FunC K "first_reaching" "first_reaching" s_first_reaching f_first_reaching _ cA_first_reaching := ⟨_, _, _, _, _, _, _, _, rfl, l_first_reaching, c_first_reaching⟩
  have TB_first_passing := hTB (cA_first_passing, PA_first_passing) (by simp)
  have TM_first_passing : (PA_first_passing, ("first_passing" : Str) ++ ".<locals>.<lambda>") ∈ ([(PA_first_reaching, ("first_reaching" : Str) ++ ".<locals>.<lambda>"), (PA_first_passing, ("first_passing" : Str) ++ ".<locals>.<lambda>")] : List (Addr × Str)) := by simp
  have TU_first_passing : ∀ p ∈ ([(PA_first_reaching, ("first_reaching" : Str) ++ ".<locals>.<lambda>"), (PA_first_passing, ("first_passing" : Str) ++ ".<locals>.<lambda>")] : List (Addr × Str)), p.1 = PA_first_passing → p.2 = ("first_passing" : Str) ++ ".<locals>.<lambda>" := List.forall_mem_cons.mpr ⟨fun z => absurd z ne_first_reaching_first_passing, List.forall_mem_cons.mpr ⟨fun _ => rfl, fun _ z => nomatch z⟩⟩
  have FC_first_passing : FunC K "first_passing" "first_passing" s_first_passing f_first_passing _ cA_first_passing := ⟨_, _, _, _, _, _, _, _, rfl, l_first_passing, c_first_passing⟩
  have TW := T
  replace T := TW.toTxt4
  have T4 := T
  replace T := T4.toTxt3
  have F_is_integer := fun_mk (st := s_is_integer) l_is_integer c_is_integer k_is_integer
  have b_is_integer := F_is_integer.binds (ps := ["value"]) fun _ _ _ _ _ _ us hl => match us, hl with | [_], _ => rfl
  have D_is_integer : Df l.prog w K mg base 1 "is_integer" ["value"] spIsInt := ⟨_, _, ok_isint F_is_integer T.toTxt, PySem.W.mg_of X G a_is_integer, k_is_integer, b_is_integer⟩
  have F_is_integer_within := fun_mk (st := s_is_integer_within) l_is_integer_within c_is_integer_within k_is_integer_within
  have b_is_integer_within := F_is_integer_within.binds (ps := ["value", "least", "most"]) fun _ _ _ _ _ _ us hl => match us, hl with | [_, _, _], _ => rfl
  have D_is_integer_within : Df l.prog w K mg base 2 "is_integer_within" ["value", "least", "most"] spWithin := ⟨_, _, ok_within F_is_integer_within D_is_integer, PySem.W.mg_of X G a_is_integer_within, k_is_integer_within, b_is_integer_within⟩
  have F_is_pair_of_integers := fun_mk (st := s_is_pair_of_integers) l_is_pair_of_integers c_is_pair_of_integers k_is_pair_of_integers
  have b_is_pair_of_integers := F_is_pair_of_integers.binds (ps := ["value"]) fun _ _ _ _ _ _ us hl => match us, hl with | [_], _ => rfl
  have D_is_pair_of_integers : Df l.prog w K mg base 2 "is_pair_of_integers" ["value"] spIsPair := ⟨_, _, ok_ispair F_is_pair_of_integers T.toTxt D_is_integer, PySem.W.mg_of X G a_is_pair_of_integers, k_is_pair_of_integers, b_is_pair_of_integers⟩
  have F_is_resistance := fun_mk (st := s_is_resistance) l_is_resistance c_is_resistance k_is_resistance
  have b_is_resistance := F_is_resistance.binds (ps := ["value"]) fun _ _ _ _ _ _ us hl => match us, hl with | [_], _ => rfl
  have D_is_resistance : Df l.prog w K mg base 3 "is_resistance" ["value"] spIsRes := ⟨_, _, ok_isres F_is_resistance T.toTxt2 D_is_integer D_is_pair_of_integers, PySem.W.mg_of X G a_is_resistance, k_is_resistance, b_is_resistance⟩
  have F_pair_of := fun_mk (st := s_pair_of) l_pair_of c_pair_of k_pair_of
  have b_pair_of := F_pair_of.binds (ps := ["fraction_or_open"]) fun _ _ _ _ _ _ us hl => match us, hl with | [_], _ => rfl
  have D_pair_of : Df l.prog w K mg base 2 "pair_of" ["fraction_or_open"] spPairOf := ⟨_, _, ok_pairof F_pair_of D_is_integer, PySem.W.mg_of X G a_pair_of, k_pair_of, b_pair_of⟩
  have F_common_divisor := fun_mk (st := s_common_divisor) l_common_divisor c_common_divisor k_common_divisor
  have b_common_divisor := F_common_divisor.binds (ps := ["first", "second"]) fun _ _ _ _ _ _ us hl => match us, hl with | [_, _], _ => rfl
  have D_common_divisor : Df l.prog w K mg base 1 "common_divisor" ["first", "second"] spGcd := ⟨_, _, ok_gcd F_common_divisor T.toTxt, PySem.W.mg_of X G a_common_divisor, k_common_divisor, b_common_divisor⟩
  have F_lowest_terms := fun_mk (st := s_lowest_terms) l_lowest_terms c_lowest_terms k_lowest_terms
  have b_lowest_terms := F_lowest_terms.binds (ps := ["top", "bottom"]) fun _ _ _ _ _ _ us hl => match us, hl with | [_, _], _ => rfl
  have D_lowest_terms : Df l.prog w K mg base 2 "lowest_terms" ["top", "bottom"] spLow := ⟨_, _, ok_low F_lowest_terms D_common_divisor, PySem.W.mg_of X G a_lowest_terms, k_lowest_terms, b_lowest_terms⟩
  have F_lowest_pair := fun_mk (st := s_lowest_pair) l_lowest_pair c_lowest_pair k_lowest_pair
  have b_lowest_pair := F_lowest_pair.binds (ps := ["fraction_or_open"]) fun _ _ _ _ _ _ us hl => match us, hl with | [_], _ => rfl
  have D_lowest_pair : Df l.prog w K mg base 3 "lowest_pair" ["fraction_or_open"] spLowP := ⟨_, _, ok_lowp F_lowest_pair D_pair_of D_lowest_terms, PySem.W.mg_of X G a_lowest_pair, k_lowest_pair, b_lowest_pair⟩
  have F_is_piece := fun_mk (st := s_is_piece) l_is_piece c_is_piece k_is_piece
  have b_is_piece := F_is_piece.binds (ps := ["value"]) fun _ _ _ _ _ _ us hl => match us, hl with | [_], _ => rfl
  have D_is_piece : Df l.prog w K mg base 3 "is_piece" ["value"] spIsPiece := ⟨_, _, ok_ispiece F_is_piece T D_is_integer_within, PySem.W.mg_of X G a_is_piece, k_is_piece, b_is_piece⟩
  have F_checked_row := fun_mk (st := s_checked_row) l_checked_row c_checked_row k_checked_row
  have b_checked_row := F_checked_row.binds (ps := ["pieces"]) fun _ _ _ _ _ _ us hl => match us, hl with | [_], _ => rfl
  have D_checked_row : Df l.prog w K mg base 4 "checked_row" ["pieces"] (spChk J) := ⟨_, _, ok_chk F_checked_row T D_is_piece, PySem.W.mg_of X G a_checked_row, k_checked_row, b_checked_row⟩
  have F_matrix_and_scale := fun_mk (st := s_matrix_and_scale) l_matrix_and_scale c_matrix_and_scale k_matrix_and_scale
  have b_matrix_and_scale := F_matrix_and_scale.binds (ps := ["row"]) fun _ _ _ _ _ _ us hl => match us, hl with | [_], _ => rfl
  have D_matrix_and_scale : Df l.prog w K mg base 1 "matrix_and_scale" ["row"] spMat := ⟨_, _, ok_mat F_matrix_and_scale, PySem.W.mg_of X G a_matrix_and_scale, k_matrix_and_scale, b_matrix_and_scale⟩
  have F_shown_before := fun_mk (st := s_shown_before) l_shown_before c_shown_before k_shown_before
  have b_shown_before := F_shown_before.binds (ps := ["matrix", "pair"]) fun _ _ _ _ _ _ us hl => match us, hl with | [_, _], _ => rfl
  have D_shown_before : Df l.prog w K mg base 1 "shown_before" ["matrix", "pair"] spShown := ⟨_, _, ok_shown F_shown_before, PySem.W.mg_of X G a_shown_before, k_shown_before, b_shown_before⟩
  have F_piece_text := fun_mk (st := s_piece_text) l_piece_text c_piece_text k_piece_text
  have b_piece_text := F_piece_text.binds (ps := ["word", "ohms"]) fun _ _ _ _ _ _ us hl => match us, hl with | [_, _], _ => rfl
  have D_piece_text : Df l.prog w K mg base 1 "piece_text" ["word", "ohms"] spPtx := ⟨_, _, ok_ptx F_piece_text, PySem.W.mg_of X G a_piece_text, k_piece_text, b_piece_text⟩
  have F_piece_with_text := fun_mk (st := s_piece_with_text) l_piece_with_text c_piece_with_text k_piece_with_text
  have b_piece_with_text := F_piece_with_text.binds (ps := ["text"]) fun _ _ _ _ _ _ us hl => match us, hl with | [_], _ => rfl
  have D_piece_with_text : Df l.prog w K mg base 2 "piece_with_text" ["text"] spPwt := ⟨_, _, ok_pwt F_piece_with_text T D_piece_text, PySem.W.mg_of X G a_piece_with_text, k_piece_with_text, b_piece_with_text⟩
  have F_law_cup := fun_mk (st := s_law_cup) l_law_cup c_law_cup k_law_cup
  have b_law_cup := F_law_cup.binds (ps := ["_law_script", "_law_spot"]) fun _ _ _ _ _ _ us hl => match us, hl with | [_, _], _ => rfl
  have D_law_cup : Df l.prog w K mg base 1 "_law_cup" ["_law_script", "_law_spot"] (spCup K) := ⟨_, _, ok_cup F_law_cup T.toTxt, PySem.W.mg_of X G a_law_cup, k_law_cup, b_law_cup⟩
  have F_law_sip := fun_mk (st := s_law_sip) l_law_sip c_law_sip k_law_sip
  have b_law_sip := F_law_sip.binds (ps := ["_law_cup_here", "_law_many"]) fun _ _ _ _ _ _ us hl => match us, hl with | [_, _], _ => rfl
  have D_law_sip : Df l.prog w K mg base 1 "_law_sip" ["_law_cup_here", "_law_many"] spSip := ⟨_, _, ok_sip F_law_sip T.toTxt, PySem.W.mg_of X G a_law_sip, k_law_sip, b_law_sip⟩
  have F_law_pick := fun_mk (st := s_law_pick) l_law_pick c_law_pick k_law_pick
  have b_law_pick := F_law_pick.binds (ps := ["_law_cup_here", "_law_things"]) fun _ _ _ _ _ _ us hl => match us, hl with | [_, _], _ => rfl
  have D_law_pick : Df l.prog w K mg base 2 "_law_pick" ["_law_cup_here", "_law_things"] spPick := ⟨_, _, ok_pick F_law_pick T.toTxt D_law_sip, PySem.W.mg_of X G a_law_pick, k_law_pick, b_law_pick⟩
  have F_law_pair := fun_mk (st := s_law_pair) l_law_pair c_law_pair k_law_pair
  have b_law_pair := F_law_pair.binds (ps := ["_law_top", "_law_bottom"]) fun _ _ _ _ _ _ us hl => match us, hl with | [_, _], _ => rfl
  have D_law_pair : Df l.prog w K mg base 1 "_law_pair" ["_law_top", "_law_bottom"] spPair := ⟨_, _, ok_pair F_law_pair T.toTxt, PySem.W.mg_of X G a_law_pair, k_law_pair, b_law_pair⟩
  have F_JoinedRow_init := fun_mk (st := s_JoinedRow_init) l_JoinedRow_init c_JoinedRow_init k_JoinedRow_init
  have b_JoinedRow_init := F_JoinedRow_init.binds (ps := ["self", "row"]) fun _ _ _ _ _ _ us hl => match us, hl with | [_, _], _ => rfl
  have F_Pattern_call := fun_mk (st := s_Pattern_call) l_Pattern_call c_Pattern_call k_Pattern_call
  have b_Pattern_call := F_Pattern_call.binds (ps := ["self", "load"]) fun _ _ _ _ _ _ us hl => match us, hl with | [_, _], _ => rfl
  have F_Pattern_add := fun_mk (st := s_Pattern_add) l_Pattern_add c_Pattern_add k_Pattern_add
  have b_Pattern_add := F_Pattern_add.binds (ps := ["self", "other"]) fun _ _ _ _ _ _ us hl => match us, hl with | [_, _], _ => rfl
  have F_Pattern_numbers := fun_mk (st := s_Pattern_numbers) l_Pattern_numbers c_Pattern_numbers k_Pattern_numbers
  have b_Pattern_numbers := F_Pattern_numbers.binds (ps := ["self"]) fun _ _ _ _ _ _ us hl => match us, hl with | [_], _ => rfl
  have F_Pattern_read := fun_mk (st := s_Pattern_read) l_Pattern_read c_Pattern_read k_Pattern_read
  have b_Pattern_read := F_Pattern_read.binds (ps := ["text"]) fun _ _ _ _ _ _ us hl => match us, hl with | [_], _ => rfl
  have F_Pattern_init := fun_mk (st := s_Pattern_init) l_Pattern_init c_Pattern_init k_Pattern_init
  have X_join : JoinD l.prog w K mg base J f_JoinedRow_init _ := ⟨⟨mkJ, a_JoinedRow_init, i_JoinedRow_init, kcJ⟩, ok_join F_JoinedRow_init T, b_JoinedRow_init⟩
  have X_pat : PatD l.prog w K mg base C J f_Pattern_init := ⟨⟨mkC, a_Pattern_init, i_Pattern_init, kcC⟩, ok_pinit F_Pattern_init T D_checked_row D_matrix_and_scale D_lowest_terms⟩
  have G_call := ok_call (P := l.prog) (w := w) (base := base) F_Pattern_call T D_is_resistance D_pair_of D_shown_before D_lowest_pair
  have OC : OwC l.prog w K mg base C f_Pattern_call _ := ⟨⟨a_Pattern_call, i_Pattern_call, fi_call⟩, G_call, fnR_mk G_call b_Pattern_call, fun _ _ _ _ => .of_eq rfl⟩
  have OR : OwR l.prog w K mg base C pr_Pattern_read f_Pattern_read _ := ⟨⟨rdC, gaC⟩, ⟨sa_Pattern_read, ⟨_, sc_Pattern_read⟩, k_Pattern_read⟩, ok_read F_Pattern_read T X_pat X_join D_piece_with_text, b_Pattern_read⟩
  have e_add : PySem.dunder Operator.Add.info.2 = ("__add__" : Str) := by decide +kernel
  have OA : OwA l.prog w K mg base C f_Pattern_add _ := ⟨sfC, (by rw [e_add]; exact a_Pattern_add), i_Pattern_add, ok_add F_Pattern_add T X_pat X_join, b_Pattern_add⟩
  have ON : OwN l.prog w K mg base C pr_Pattern_numbers f_Pattern_numbers _ := ⟨⟨pa_Pattern_numbers, pg_Pattern_numbers, pt_Pattern_numbers, _, pc_Pattern_numbers⟩, ok_num F_Pattern_numbers T, b_Pattern_numbers⟩
  have F_is_count := fun_mk (st := s_is_count) l_is_count c_is_count k_is_count
  have b_is_count := F_is_count.binds (ps := ["value"]) fun _ _ _ _ _ _ us hl => match us, hl with | [_], _ => rfl
  have D_is_count : Df l.prog w K mg base 3 "is_count" ["value"] spCount := ⟨_, _, ok_count F_is_count T4 D_is_integer_within, PySem.W.mg_of X G a_is_count, k_is_count, b_is_count⟩
  have F_sign := fun_mk (st := s_sign) l_sign c_sign k_sign
  have b_sign := F_sign.binds (ps := ["number"]) fun _ _ _ _ _ _ us hl => match us, hl with | [_], _ => rfl
  have D_sign : Df l.prog w K mg base 1 "sign" ["number"] spSign := ⟨_, _, ok_sign F_sign, PySem.W.mg_of X G a_sign, k_sign, b_sign⟩
  have F_square_root := fun_mk (st := s_square_root) l_square_root c_square_root k_square_root
  have b_square_root := F_square_root.binds (ps := ["number"]) fun _ _ _ _ _ _ us hl => match us, hl with | [_], _ => rfl
  have D_square_root : Df l.prog w K mg base 1 "square_root" ["number"] spRoot := ⟨_, _, ok_sqrt F_square_root, PySem.W.mg_of X G a_square_root, k_square_root, b_square_root⟩
  have F_under_root := fun_mk (st := s_under_root) l_under_root c_under_root k_under_root
  have b_under_root := F_under_root.binds (ps := ["square", "line", "whole"]) fun _ _ _ _ _ _ us hl => match us, hl with | [_, _, _], _ => rfl
  have D_under_root : Df l.prog w K mg base 1 "under_root" ["square", "line", "whole"] spUnder := ⟨_, _, ok_under F_under_root, PySem.W.mg_of X G a_under_root, k_under_root, b_under_root⟩
  have F_equation_of_fraction := fun_mk (st := s_equation_of_fraction) l_equation_of_fraction c_equation_of_fraction k_equation_of_fraction
  have b_equation_of_fraction := F_equation_of_fraction.binds (ps := ["top", "bottom"]) fun _ _ _ _ _ _ us hl => match us, hl with | [_, _], _ => rfl
  have D_equation_of_fraction : Df l.prog w K mg base 3 "equation_of_fraction" ["top", "bottom"] spEqF := ⟨_, _, ok_eqf F_equation_of_fraction D_lowest_terms, PySem.W.mg_of X G a_equation_of_fraction, k_equation_of_fraction, b_equation_of_fraction⟩
  have F_simplest_equation := fun_mk (st := s_simplest_equation) l_simplest_equation c_simplest_equation k_simplest_equation
  have b_simplest_equation := F_simplest_equation.binds (ps := ["square", "line", "whole"]) fun _ _ _ _ _ _ us hl => match us, hl with | [_, _, _], _ => rfl
  have D_simplest_equation : Df l.prog w K mg base 4 "simplest_equation" ["square", "line", "whole"] spSimp := ⟨_, _, ok_simp F_simplest_equation D_common_divisor D_square_root D_under_root D_equation_of_fraction, PySem.W.mg_of X G a_simplest_equation, k_simplest_equation, b_simplest_equation⟩
  have F_pair_order := fun_mk (st := s_pair_order) l_pair_order c_pair_order k_pair_order
  have b_pair_order := F_pair_order.binds (ps := ["first", "second"]) fun _ _ _ _ _ _ us hl => match us, hl with | [_, _], _ => rfl
  have D_pair_order : Df l.prog w K mg base 2 "pair_order" ["first", "second"] spPO := ⟨_, _, ok_po F_pair_order D_sign, PySem.W.mg_of X G a_pair_order, k_pair_order, b_pair_order⟩
  have F_check_resistance := fun_mk (st := s_check_resistance) l_check_resistance c_check_resistance k_check_resistance
  have b_check_resistance := F_check_resistance.binds (ps := ["value"]) fun _ _ _ _ _ _ us hl => match us, hl with | [_], _ => rfl
  have D_check_resistance : Df l.prog w K mg base 4 "check_resistance" ["value"] spChkR := ⟨_, _, ok_chkr F_check_resistance D_is_resistance, PySem.W.mg_of X G a_check_resistance, k_check_resistance, b_check_resistance⟩
  have F_check_count := fun_mk (st := s_check_count) l_check_count c_check_count k_check_count
  have b_check_count := F_check_count.binds (ps := ["value"]) fun _ _ _ _ _ _ us hl => match us, hl with | [_], _ => rfl
  have D_check_count : Df l.prog w K mg base 4 "check_count" ["value"] spChkC := ⟨_, _, ok_chkc F_check_count D_is_count, PySem.W.mg_of X G a_check_count, k_check_count, b_check_count⟩
  have F_Exact_init := fun_mk (st := s_Exact_init) l_Exact_init c_Exact_init k_Exact_init
  have b_Exact_init := F_Exact_init.binds (ps := ["self", "square", "line", "whole"]) fun _ _ _ _ _ _ us hl => match us, hl with | [_, _, _, _], _ => rfl
  have X_exact : ExD l.prog w K mg base Ce := ⟨_, _, ⟨mkCe, a_Exact_init, i_Exact_init, kcCe⟩, ok_init F_Exact_init T4 D_is_integer_within D_simplest_equation, b_Exact_init⟩
  have I : IsC K C := ⟨caC, cn, ct, cmC, (by unfold PySem.W.kitOne; simp)⟩
  have IE : IsC K Ce := ⟨caCe, cn, ct, cmCe, (by unfold PySem.W.kitOne; simp)⟩
  have F_check_pattern := fun_mk (st := s_check_pattern) l_check_pattern c_check_pattern k_check_pattern
  have b_check_pattern := F_check_pattern.binds (ps := ["value"]) fun _ _ _ _ _ _ us hl => match us, hl with | [_], _ => rfl
  have D_check_pattern : Df l.prog w K mg base 1 "check_pattern" ["value"] (spChkP C) := ⟨_, _, ok_chkp F_check_pattern T4 I, PySem.W.mg_of X G a_check_pattern, k_check_pattern, b_check_pattern⟩
  have F_ladder_limit := fun_mk (st := s_ladder_limit) l_ladder_limit c_ladder_limit k_ladder_limit
  have b_ladder_limit := F_ladder_limit.binds (ps := ["matrix"]) fun _ _ _ _ _ _ us hl => match us, hl with | [_], _ => rfl
  have D_ladder_limit : Df l.prog w K mg base 7 "ladder_limit" ["matrix"] (spLim aO Ce) := ⟨_, _, ok_lim F_ladder_limit T4 X_exact, PySem.W.mg_of X G a_ladder_limit, k_ladder_limit, b_ladder_limit⟩
  have F_Ladder_init := fun_mk (st := s_Ladder_init) l_Ladder_init c_Ladder_init k_Ladder_init
  have b_Ladder_init := F_Ladder_init.binds (ps := ["self", "pattern", "load"]) fun _ _ _ _ _ _ us hl => match us, hl with | [_, _, _], _ => rfl
  have X_lad : LadD l.prog w K mg base C aO Ce Cl f_Ladder_init _ := ⟨⟨mkCl, a_Ladder_init, i_Ladder_init, kcCl⟩, ok_lad F_Ladder_init T4 D_check_pattern D_check_resistance D_lowest_pair D_ladder_limit, b_Ladder_init⟩
  have F_Ladder_after := fun_mk (st := s_Ladder_after) l_Ladder_after c_Ladder_after k_Ladder_after
  have b_Ladder_after := F_Ladder_after.binds (ps := ["self", "pair"]) fun _ _ _ _ _ _ us hl => match us, hl with | [_, _], _ => rfl
  have M_after : Mt l.prog w K mg base Cl 2 "after" "self" "pair" (spAfter C aO Ce Cl) := ⟨_, _, ok_after F_Ladder_after T4 D_shown_before, ⟨a_Ladder_after, i_Ladder_after, k_Ladder_after⟩, b_Ladder_after, fun _ _ _ _ => .of_eq rfl⟩
  have F_Ladder_call := fun_mk (st := s_Ladder_call) l_Ladder_call c_Ladder_call k_Ladder_call
  have b_Ladder_call := F_Ladder_call.binds (ps := ["self", "count"]) fun _ _ _ _ _ _ us hl => match us, hl with | [_, _], _ => rfl
  have OL : OwL l.prog w K mg base C aO Ce Cl f_Ladder_call _ := ⟨⟨a_Ladder_call, i_Ladder_call, fi_lcall⟩, ok_lcall F_Ladder_call T4 D_check_count M_after D_lowest_pair, fnR_mk (ok_lcall F_Ladder_call T4 D_check_count M_after D_lowest_pair) b_Ladder_call⟩
  have F_Ladder_goes := fun_mk (st := s_Ladder_goes) l_Ladder_goes c_Ladder_goes k_Ladder_goes
  have b_Ladder_goes := F_Ladder_goes.binds (ps := ["self"]) fun _ _ _ _ _ _ us hl => match us, hl with | [_], _ => rfl
  have OG : OwG l.prog w K mg base C aO Ce Cl pr_Ladder_goes f_Ladder_goes _ := ⟨⟨pa_Ladder_goes, pg_Ladder_goes, pt_Ladder_goes, _, pc_Ladder_goes⟩, ok_goes F_Ladder_goes T4 D_pair_order M_after, b_Ladder_goes⟩
  have F_Ladder_limit := fun_mk (st := s_Ladder_limit) l_Ladder_limit c_Ladder_limit k_Ladder_limit
  have b_Ladder_limit := F_Ladder_limit.binds (ps := ["self"]) fun _ _ _ _ _ _ us hl => match us, hl with | [_], _ => rfl
  have OM : OwM l.prog w K mg base C aO Ce Cl pr_Ladder_limit f_Ladder_limit _ := ⟨⟨pa_Ladder_limit, pg_Ladder_limit, pt_Ladder_limit, _, pc_Ladder_limit⟩, ok_limit F_Ladder_limit T4, b_Ladder_limit⟩
  have F_Exact_equation := fun_mk (st := s_Exact_equation) l_Exact_equation c_Exact_equation k_Exact_equation
  have b_Exact_equation := F_Exact_equation.binds (ps := ["self"]) fun _ _ _ _ _ _ us hl => match us, hl with | [_], _ => rfl
  have OQ : OwQ l.prog w K mg base Ce pr_Exact_equation f_Exact_equation _ := ⟨⟨pa_Exact_equation, pg_Exact_equation, pt_Exact_equation, _, pc_Exact_equation⟩, ok_eqn F_Exact_equation T4, b_Exact_equation⟩
  have F_Exact_fraction := fun_mk (st := s_Exact_fraction) l_Exact_fraction c_Exact_fraction k_Exact_fraction
  have b_Exact_fraction := F_Exact_fraction.binds (ps := ["self"]) fun _ _ _ _ _ _ us hl => match us, hl with | [_], _ => rfl
  have OF : OwF l.prog w K mg base Ce pr_Exact_fraction f_Exact_fraction _ := ⟨⟨pa_Exact_fraction, pg_Exact_fraction, pt_Exact_fraction, _, pc_Exact_fraction⟩, ok_frac F_Exact_fraction T4, b_Exact_fraction⟩
  have F_law_front := fun_mk (st := s_law_front) l_law_front c_law_front k_law_front
  have b_law_front := F_law_front.binds (ps := ["_law_row_here", "_law_pair_here"]) fun _ _ _ _ _ _ us hl => match us, hl with | [_, _], _ => rfl
  have D_law_front : Df l.prog w K mg base 2 "_law_front" ["_law_row_here", "_law_pair_here"] spFront := ⟨_, _, ok_front F_law_front D_law_pair, PySem.W.mg_of X G a_law_front, k_law_front, b_law_front⟩
  have F_law_row := fun_mk (st := s_law_row) l_law_row c_law_row k_law_row
  have b_law_row := F_law_row.binds (ps := ["_law_cup_here", "_law_most"]) fun _ _ _ _ _ _ us hl => match us, hl with | [_, _], _ => rfl
  have D_law_row : Df l.prog w K mg base 3 "_law_row" ["_law_cup_here", "_law_most"] spRow := ⟨_, _, ok_row F_law_row T.toTxt D_law_sip D_law_pick, PySem.W.mg_of X G a_law_row, k_law_row, b_law_row⟩
  have F_law_words := fun_mk (st := s_law_words) l_law_words c_law_words k_law_words
  have b_law_words := F_law_words.binds (ps := ["_law_row_here"]) fun _ _ _ _ _ _ us hl => match us, hl with | [_], _ => rfl
  have D_law_words : Df l.prog w K mg base 1 "_law_words" ["_law_row_here"] spWords := ⟨_, _, ok_words F_law_words T.toTxt, PySem.W.mg_of X G a_law_words, k_law_words, b_law_words⟩
  have F_law_read := fun_mk (st := s_law_read) l_law_read c_law_read k_law_read
  have b_law_read := F_law_read.binds (ps := ["_law_row_here"]) fun _ _ _ _ _ _ us hl => match us, hl with | [_], _ => rfl
  have D_law_read : Df l.prog w K mg base 8 "_law_read" ["_law_row_here"] (spReadL C) := ⟨_, _, ok_readL F_law_read T OR D_law_words, PySem.W.mg_of X G a_law_read, k_law_read, b_law_read⟩
  have F_law_mixed := fun_mk (st := s_law_mixed) l_law_mixed c_law_mixed k_law_mixed
  have b_law_mixed := F_law_mixed.binds (ps := ["_law_cup_here", "_law_most"]) fun _ _ _ _ _ _ us hl => match us, hl with | [_, _], _ => rfl
  have D_law_mixed : Df l.prog w K mg base 4 "_law_mixed" ["_law_cup_here", "_law_most"] spMixed := ⟨_, _, ok_mixed F_law_mixed T.toTxt D_law_sip D_law_row, PySem.W.mg_of X G a_law_mixed, k_law_mixed, b_law_mixed⟩
  have F_Exact_eq := fun_mk (st := s_Exact_eq) l_Exact_eq c_Exact_eq k_Exact_eq
  have b_Exact_eq := F_Exact_eq.binds (ps := ["self", "other"]) fun _ _ _ _ _ _ us hl => match us, hl with | [_, _], _ => rfl
  have OX : OwX l.prog w K mg base Ce aO f_Exact_eq _ := ⟨a_Exact_eq, i_Exact_eq, ok_eqo F_Exact_eq T4 kt_E, b_Exact_eq, nf_E⟩
  have D_poK : Df l.prog w K mg base 2 "pair_order" ["first", "second"] (spPOK K) := ⟨_, _, ok_poK F_pair_order D_sign, PySem.W.mg_of X G a_pair_order, k_pair_order, b_pair_order⟩
  have RV : mg "reversed" = none := PySem.W.mg_none_of X G z_reversed
  have IL : IsC K Cl := ⟨caCl, cn, ct, cmCl, (by unfold PySem.W.kitOne; simp)⟩
  have F_beside_fraction := fun_mk (st := s_beside_fraction) l_beside_fraction c_beside_fraction k_beside_fraction
  have b_beside_fraction := F_beside_fraction.binds (ps := ["parts", "top", "bottom"]) fun _ _ _ _ _ _ us hl => match us, hl with | [_, _, _], _ => rfl
  have D_beside_fraction : Df l.prog w K mg base 2 "beside_fraction" ["parts", "top", "bottom"] spBeside := ⟨_, _, ok_beside F_beside_fraction D_sign, PySem.W.mg_of X G a_beside_fraction, k_beside_fraction, b_beside_fraction⟩
  have F_limit_beside := fun_mk (st := s_limit_beside) l_limit_beside c_limit_beside k_limit_beside
  have b_limit_beside := F_limit_beside.binds (ps := ["limit", "pair"]) fun _ _ _ _ _ _ us hl => match us, hl with | [_, _], _ => rfl
  have D_limit_beside : Df l.prog w K mg base 3 "limit_beside" ["limit", "pair"] (spLBo K aO Ce) := ⟨_, _, ok_lbo F_limit_beside T4 OX D_poK D_beside_fraction, PySem.W.mg_of X G a_limit_beside, k_limit_beside, b_limit_beside⟩
  have F_Ladder_load := fun_mk (st := s_Ladder_load) l_Ladder_load c_Ladder_load k_Ladder_load
  have b_Ladder_load := F_Ladder_load.binds (ps := ["self"]) fun _ _ _ _ _ _ us hl => match us, hl with | [_], _ => rfl
  have OLo : OwLo l.prog w K mg base C aO Ce Cl pr_Ladder_load f_Ladder_load _ := ⟨⟨pa_Ladder_load, pg_Ladder_load, pt_Ladder_load, _, pc_Ladder_load⟩, ok_load F_Ladder_load T4, b_Ladder_load⟩
  have F_Ladder_last_stage := fun_mk (st := s_Ladder_last_stage) l_Ladder_last_stage c_Ladder_last_stage k_Ladder_last_stage
  have b_Ladder_last_stage := F_Ladder_last_stage.binds (ps := ["self"]) fun _ _ _ _ _ _ us hl => match us, hl with | [_], _ => rfl
  have OSt : OwMt l.prog w K mg base Cl f_Ladder_last_stage _ "last_stage" 1 ["self"] (spStg C aO Ce Cl) := ⟨⟨a_Ladder_last_stage, i_Ladder_last_stage, k_Ladder_last_stage⟩, ok_stg F_Ladder_last_stage T4, b_Ladder_last_stage⟩
  have F_check_run := fun_mk (st := s_check_run) l_check_run c_check_run k_check_run
  have b_check_run := F_check_run.binds (ps := ["value"]) fun _ _ _ _ _ _ us hl => match us, hl with | [_], _ => rfl
  have D_check_run : Df l.prog w K mg base 1 "check_run" ["value"] (spChkRun Cl) := ⟨_, _, ok_chkrun F_check_run TW IL, PySem.W.mg_of X G a_check_run, k_check_run, b_check_run⟩
  have F_squared := fun_mk (st := s_squared) l_squared c_squared k_squared
  have b_squared := F_squared.binds (ps := ["matrix"]) fun _ _ _ _ _ _ us hl => match us, hl with | [_], _ => rfl
  have D_squared : Df l.prog w K mg base 2 "squared" ["matrix"] spSq := ⟨_, _, ok_squared F_squared T.toTxt D_common_divisor, PySem.W.mg_of X G a_squared, k_squared, b_squared⟩
  have F_sections_before := fun_mk (st := s_sections_before) l_sections_before c_sections_before k_sections_before
  have b_sections_before := F_sections_before.binds (ps := ["matrix", "pair", "holds"]) fun _ _ _ _ _ _ us hl => match us, hl with | [_, _, _], _ => rfl
  have D_sections_before : DfC l.prog w K mg base 6 8 "sections_before" ["matrix", "pair", "holds"] spBefore := ⟨_, _, ok_before F_sections_before T.toTxt RV D_shown_before D_squared, PySem.W.mg_of X G a_sections_before, k_sections_before, b_sections_before⟩
  have F_least_number := fun_mk (st := s_least_number) l_least_number c_least_number k_least_number
  have b_least_number := F_least_number.binds (ps := ["run", "holds"]) fun _ _ _ _ _ _ us hl => match us, hl with | [_, _], _ => rfl
  have D_least_number : DfC l.prog w K mg base 6 9 "least_number" ["run", "holds"] (spLeastN C aO Ce Cl) := ⟨_, _, ok_leastN F_least_number T4 OSt OLo M_after D_sections_before, PySem.W.mg_of X G a_least_number, k_least_number, b_least_number⟩
  have F_first_with := fun_mk (st := s_first_with) l_first_with c_first_with k_first_with
  have b_first_with := F_first_with.binds (ps := ["run", "bound", "holds"]) fun _ _ _ _ _ _ us hl => match us, hl with | [_, _, _], _ => rfl
  have D_first_with : DfC l.prog w K mg base 6 10 "first_with" ["run", "bound", "holds"] (spWith C aO Ce Cl) := ⟨_, _, ok_with F_first_with T4 OG OM D_limit_beside D_least_number, PySem.W.mg_of X G a_first_with, k_first_with, b_first_with⟩
  have F_first_reaching := fun_mk (st := s_first_reaching) l_first_reaching c_first_reaching k_first_reaching
  have b_first_reaching := F_first_reaching.binds (ps := ["run", "bound"]) fun _ _ _ _ _ _ us hl => match us, hl with | [_, _], _ => rfl
  have D_first_reaching : Df l.prog w K mg base 11 "first_reaching" ["run", "bound"] (spFirst [(PA_first_reaching, ("first_reaching" : Str) ++ ".<locals>.<lambda>"), (PA_first_passing, ("first_passing" : Str) ++ ".<locals>.<lambda>")] C aO Ce Cl false) := ⟨_, _, ok_reaching FC_first_reaching T4 TB_first_reaching TM_first_reaching TU_first_reaching OG D_poK D_first_with, PySem.W.mg_of X G a_first_reaching, k_first_reaching, b_first_reaching⟩
  have F_first_passing := fun_mk (st := s_first_passing) l_first_passing c_first_passing k_first_passing
  have b_first_passing := F_first_passing.binds (ps := ["run", "bound"]) fun _ _ _ _ _ _ us hl => match us, hl with | [_, _], _ => rfl
  have D_first_passing : Df l.prog w K mg base 11 "first_passing" ["run", "bound"] (spFirst [(PA_first_reaching, ("first_reaching" : Str) ++ ".<locals>.<lambda>"), (PA_first_passing, ("first_passing" : Str) ++ ".<locals>.<lambda>")] C aO Ce Cl true) := ⟨_, _, ok_passing FC_first_passing T4 TB_first_passing TM_first_passing TU_first_passing OG D_poK D_first_with, PySem.W.mg_of X G a_first_passing, k_first_passing, b_first_passing⟩
  have F_count_of := fun_mk (st := s_count_of) l_count_of c_count_of k_count_of
  have b_count_of := F_count_of.binds (ps := ["run", "target"]) fun _ _ _ _ _ _ us hl => match us, hl with | [_, _], _ => rfl
  have okW := ok_countOf F_count_of TW OG OLo D_check_run D_check_resistance D_pair_of D_poK D_first_reaching D_first_passing
  have D_count_of : Df l.prog w K mg base 12 "count_of" ["run", "target"] (spCo [(PA_first_reaching, ("first_reaching" : Str) ++ ".<locals>.<lambda>"), (PA_first_passing, ("first_passing" : Str) ++ ".<locals>.<lambda>")] C aO Ce Cl) := ⟨_, _, okW, PySem.W.mg_of X G a_count_of, k_count_of, b_count_of⟩
  have D_count_ofK : DfKw l.prog w K mg base 12 "count_of" ["run", "target"] ["target", "run"] gSwW gSwW (spCo [(PA_first_reaching, ("first_reaching" : Str) ++ ".<locals>.<lambda>"), (PA_first_passing, ("first_passing" : Str) ++ ".<locals>.<lambda>")] C aO Ce Cl) := ⟨_, _, okW, PySem.W.mg_of X G a_count_of, k_count_of, kb_swW fun s x y => BindsTo.of_eq (fd := PySem.W.fnOf "count_of" "count_of" (defArgs s_count_of) (defBody s_count_of) (defScope s_count_of) .none kV_count_of dc_count_of pm_count_of an_count_of cd_count_of ct_count_of) rfl⟩
  have F_law_end := fun_mk (st := s_law_end) l_law_end c_law_end k_law_end
  have b_law_end := F_law_end.binds (ps := ["_law_cup_here"]) fun _ _ _ _ _ _ us hl => match us, hl with | [_], _ => rfl
  have D_law_end : Df l.prog w K mg base 2 "_law_end" ["_law_cup_here"] spEndL := ⟨_, _, ok_endL F_law_end D_law_sip D_law_pair, PySem.W.mg_of X G a_law_end, k_law_end, b_law_end⟩
  have F_law_walk := fun_mk (st := s_law_walk) l_law_walk c_law_walk k_law_walk
  have b_law_walk := F_law_walk.binds (ps := ["_law_row_here", "_law_pair_here", "_law_many"]) fun _ _ _ _ _ _ us hl => match us, hl with | [_, _, _], _ => rfl
  have D_law_walk : Df l.prog w K mg base 3 "_law_walk" ["_law_row_here", "_law_pair_here", "_law_many"] spWalk := ⟨_, _, ok_walk F_law_walk T.toTxt D_law_front, PySem.W.mg_of X G a_law_walk, k_law_walk, b_law_walk⟩
  have F_law_told := fun_mk (st := s_law_told) l_law_told c_law_told k_law_told
  have b_law_told := F_law_told.binds (ps := ["_law_cup_here", "_law_pair_here"]) fun _ _ _ _ _ _ us hl => match us, hl with | [_, _], _ => rfl
  have D_law_told : Df l.prog w K mg base 2 "_law_told" ["_law_cup_here", "_law_pair_here"] spTold := ⟨_, _, ok_told F_law_told D_law_sip, PySem.W.mg_of X G a_law_told, k_law_told, b_law_told⟩
  have F_law_lines := fun_mk (st := s_law_lines) l_law_lines c_law_lines k_law_lines
  have b_law_lines := F_law_lines.binds (ps := ["_law_cup_here"]) fun _ _ _ _ _ _ us hl => match us, hl with | [_], _ => rfl
  have D_law_lines : Df l.prog w K mg base 3 "_law_lines" ["_law_cup_here"] spLines := ⟨_, _, ok_lines F_law_lines T.toTxt D_law_sip D_law_pick, PySem.W.mg_of X G a_law_lines, k_law_lines, b_law_lines⟩
  have F_law_near := fun_mk (st := s_law_near) l_law_near c_law_near k_law_near
  have b_law_near := F_law_near.binds (ps := ["_law_cup_here"]) fun _ _ _ _ _ _ us hl => match us, hl with | [_], _ => rfl
  have D_law_near : DfG l.prog w K mg base 13 "_law_near" ["_law_cup_here"] (spTurnT [(PA_first_reaching, ("first_reaching" : Str) ++ ".<locals>.<lambda>"), (PA_first_passing, ("first_passing" : Str) ++ ".<locals>.<lambda>")]) := ⟨_, _, ok_near F_law_near TW X_lad D_law_mixed D_law_end D_law_read D_law_walk D_law_sip D_law_pair D_law_told D_count_of D_count_ofK, PySem.W.mg_of X G a_law_near, k_law_near, b_law_near⟩
  have F_law_far := fun_mk (st := s_law_far) l_law_far c_law_far k_law_far
  have b_law_far := F_law_far.binds (ps := ["_law_cup_here"]) fun _ _ _ _ _ _ us hl => match us, hl with | [_], _ => rfl
  have D_law_far : DfG l.prog w K mg base 13 "_law_far" ["_law_cup_here"] (spTurnT [(PA_first_reaching, ("first_reaching" : Str) ++ ".<locals>.<lambda>"), (PA_first_passing, ("first_passing" : Str) ++ ".<locals>.<lambda>")]) := ⟨_, _, ok_farC F_law_far TW X_lad D_law_sip D_law_pick D_law_pair D_law_lines D_law_read D_count_of, PySem.W.mg_of X G a_law_far, k_law_far, b_law_far⟩
  have F_law_right := fun_mk (st := s_law_right) l_law_right c_law_right k_law_right
  have b_law_right := F_law_right.binds (ps := ["_law_cup_here"]) fun _ _ _ _ _ _ us hl => match us, hl with | [_], _ => rfl
  have D_law_right : DfG l.prog w K mg base 14 "_law_right" ["_law_cup_here"] (spTurnT [(PA_first_reaching, ("first_reaching" : Str) ++ ".<locals>.<lambda>"), (PA_first_passing, ("first_passing" : Str) ++ ".<locals>.<lambda>")]) := ⟨_, _, ok_right F_law_right T.toTxt D_law_near D_law_far, PySem.W.mg_of X G a_law_right, k_law_right, b_law_right⟩
  exact ok_law (fun_mk (st := s_law) l_law c_law k_law) TW X_pat X_lad D_count_of D_law_cup D_law_right
end RL

set_option maxHeartbeats 2000000
/-! Heads by facts for laws with makers: the top runs once in the kernel; what is told of the part K is a list of Bools and a list of functions. -/
namespace RL
open PySem PySem.Spec PyProof.Rows L2 He
/-! ### Bools -/
theorem intB_ok {x : Str} {i : Int} {K : PySem.W.Frag} (h : intB x i K = true) : ∃ t, PySem.W.nsIn K mainGlobals x = some (some (.int i t)) := by
  unfold intB at h
  split at h
  · next j t e => exact ⟨t, by rw [e, of_decide_eq_true h]⟩
  · cases h
def dB {α : Type} [DecidableEq α] (a b : PySem.W.Frag → α) (K : PySem.W.Frag) : Bool := decide (a K = b K)
theorem recB_ok {a f : Ad} {s : String} {K : PySem.W.Frag} (h : recB a f s K = true) : ∃ rest, PySem.W.recIn K (a K) s = some (.ref (f K) :: rest) := by
  unfold recB at h
  split at h
  · next g r e => exact ⟨r, by rw [e, of_decide_eq_true h]⟩
  · cases h
theorem fnV_ok {f : Ad} {n q : Str} {st : Stmt} {K : PySem.W.Frag} (e : fnV f K = (DnH.mk f n q st).val) (c : codeB f q K = true) :
    ∃ oc od osl kV doc pm an cdv ct, K.lookup (f K) = some ⟨oc, od, .func (PySem.W.fnOf n q (defArgs st) (defBody st) (defScope st) .none kV doc pm an cdv ct), osl⟩ ∧ PySem.W.codeIn K cdv q = true := by
  unfold codeB at c
  unfold fnV DnH.val at e
  cases h : K.lookup (f K) with
  | none =>
    rw [h] at c
    cases c
  | some o =>
    obtain ⟨oc, od, dt, osl⟩ := o
    rw [h] at c e
    cases dt with
    | func fd =>
      obtain ⟨n1, n2, n3, n4, n5, n6, n7, n8, n9, n10, n11, n12, n13, n14, n15⟩ := fd
      have e2 : (some (n1, n2, n3, n4, n5, n6, n7, n8, n15) : FnV) = some (n, q, defArgs st, .stmts (defBody st), defScope st, mainGlobals, [], .none, builtinsNs) := e
      simp only [Option.some.injEq, Prod.mk.injEq] at e2
      obtain ⟨h1, h2, h3, h4, h5, h6, h7, h8, h9⟩ := e2
      subst h1 h2 h3 h4 h5 h6 h7 h8 h9
      exact ⟨oc, od, osl, n9, n10, n11, n12, n13, n14, rfl, c⟩
    | _ => cases c
theorem tup2i_ok {a : Ad} {i j : Int} {K : PySem.W.Frag} (h : tup2i a i j K = true) : ∃ od k0 k1 nn sl, K.lookup (a K) = some ⟨.type "tuple", od, .seq #[.int i k0, .int j k1] nn, sl⟩ := by
  unfold tup2i at h
  split at h
  · next t od vs nn sl e =>
    obtain ⟨h1, h2⟩ := ba h
    split at h2
    · next x k0 y k1 ev =>
      obtain ⟨h3, h4⟩ := ba h2
      have h1 := of_decide_eq_true h1
      have h3 := of_decide_eq_true h3
      have h4 := of_decide_eq_true h4
      subst h1 h3 h4
      have : vs = #[.int x k0, .int y k1] := Array.toList_inj.mp ev
      subst this
      exact ⟨od, k0, k1, nn, sl, e⟩
    · cases h2
  · cases h
theorem tup2s_ok {a : Ad} {i j : Str} {K : PySem.W.Frag} (h : tup2s a i j K = true) : ∃ od k0 k1 nn sl, K.lookup (a K) = some ⟨.type "tuple", od, .seq #[.str i k0, .str j k1] nn, sl⟩ := by
  unfold tup2s at h
  split at h
  · next t od vs nn sl e =>
    obtain ⟨h1, h2⟩ := ba h
    split at h2
    · next x k0 y k1 ev =>
      obtain ⟨h3, h4⟩ := ba h2
      have h1 := of_decide_eq_true h1
      have h3 := of_decide_eq_true h3
      have h4 := of_decide_eq_true h4
      subst h1 h3 h4
      have : vs = #[.str x k0, .str y k1] := Array.toList_inj.mp ev
      subst this
      exact ⟨od, k0, k1, nn, sl, e⟩
    · cases h2
  · cases h
theorem smB_ok {a p : Ad} {m : Str} {K : PySem.W.Frag} (h : smB a p m K = true) : PySem.W.findCls K (.ref (a K)) (.type "type") m = some (.get (.builtin "staticmethod.__get__") (.ref (p K)) .none (.ref (a K))) := by
  unfold smB at h
  split at h
  · next g q z c e =>
    obtain ⟨h1, h2⟩ := ba h
    obtain ⟨h3, h4⟩ := ba h2
    obtain ⟨h5, h6⟩ := ba h4
    rw [e, of_decide_eq_true h1, of_decide_eq_true h3, of_decide_eq_true h5, of_decide_eq_true h6]
  · cases h
def clvB (a f : Ad) (m : Str) (K : PySem.W.Frag) : Bool := match PySem.W.findCls K (.ref (a K)) (.type "type") m with
  | some (.val (.ref q)) => decide (q = f K)
  | _ => false
/-! ### a maker's code object -/
theorem cd_ok {f : Ad} {K : PySem.W.Frag} {oc : Value} {od : Option Addr} {osl : Array (Option Value)} {fd : FuncData} {q : Str} (h : K.lookup (f K) = some ⟨oc, od, .func fd, osl⟩) (c : PySem.W.codeIn K fd.code q = true) : fd.code = .ref (cdA f K) := by
  obtain ⟨b, e⟩ := codeIn_ref c
  have : cdA f K = b := by
    unfold cdA
    rw [h]
    dsimp only
    rw [e]
  rw [e, this]
theorem hd_ok {c P : Addr} {K : PySem.W.Frag} (h : PySem.W.codeHdIn K c P = true) : ∃ dC vC sC, K.lookup c = some ⟨.type "code", dC, .fields vC, sC⟩ ∧ (vC[11]? : Option Value) = some (.ref P) := by
  unfold PySem.W.codeHdIn at h
  split at h
  · next dC vs sC hk =>
    simp only [Bool.and_eq_true] at h
    obtain ⟨⟨⟨⟨⟨h1, _⟩, _⟩, _⟩, _⟩, _⟩ := h
    refine ⟨dC, vs, sC, hk, ?_⟩
    split at h1
    · next P' e =>
      have : P' = P := by simpa using h1
      rw [e, this]
    · cases h1
  · cases h
/-! ### the Hook -/
structure SaysZ (fn : List DnH) (tf : List Ad) (ex : List (PySem.W.Frag → Bool)) (h : Heap) (K : PySem.W.Frag) : Prop where
  fns : fn.map (fun d => fnV d.at_ K) = fn.map DnH.val
  more : (ex.all fun e => e K) = true
  hd : ∀ p ∈ tf, PySem.W.codeHdIn K (cdA p K) (tbA (cdA p) K) = true
  out : ∀ p ∈ tf, K.lookup (tbA (cdA p) K) = none
  empty : ∀ p ∈ tf, h.get? (tbA (cdA p) K) = some { cls := .none, data := .fields #[] }
theorem saysZ_of {n : List Addr} {fn : List DnH} {tf : List Ad} {ex : List (PySem.W.Frag → Bool)} {h : Heap} (e : obsZ n fn tf ex h.get? = valZ fn) : SaysZ fn tf ex h (frT h.get? n) := by
  have e1 : fn.map (fun d => fnV d.at_ (frT h.get? n)) = fn.map DnH.val := congrArg (fun z : AlZ => z.1) e
  have h1 : (ex.all fun e => e (frT h.get? n)) = true := congrArg (fun z : AlZ => z.2.1) e
  have h2 : tabsZ h.get? tf (frT h.get? n) = true := congrArg (fun z : AlZ => z.2.2) e
  have key : ∀ p ∈ tf, PySem.W.codeHdIn (frT h.get? n) (cdA p (frT h.get? n)) (tbA (cdA p) (frT h.get? n)) = true ∧ ∃ o, h.get? (tbA (cdA p) (frT h.get? n)) = some o ∧ emptyTab o = true := fun p hp => by
    obtain ⟨h3, h4⟩ := ba (List.all_eq_true.mp h2 p hp)
    refine ⟨h3, ?_⟩
    cases q : h.get? (tbA (cdA p) (frT h.get? n)) with
    | none =>
      rw [q] at h4
      cases h4
    | some o =>
      rw [q] at h4
      exact ⟨o, rfl, h4⟩
  exact ⟨e1, h1, fun p hp => (key p hp).1, fun p hp => by
    obtain ⟨_, o, q, z⟩ := key p hp
    exact frT_none q z, fun p hp => by
    obtain ⟨_, o, q, z⟩ := key p hp
    rw [q, emptyTab_eq z]⟩
def hookZ (n : List Addr) (fn : List DnH) (tf : List Ad) (ex : List (PySem.W.Frag → Bool)) : PySem.W.Hook where
  α := AlZ
  obs := fun s => obsZ n fn tf ex s.heap.get?
  val := fun _ => valZ fn
  says := fun _ h => ∃ K : PySem.W.Frag, K.In h ∧ SaysZ fn tf ex h K
  of := fun _ _ e => ⟨_, frT_in, saysZ_of e⟩
  keeps := fun _ _ _ ⟨K, hK, c⟩ k => ⟨K, PySem.W.Frag.In.keeps hK k, ⟨c.fns, c.more, c.hd, c.out, fun p hp => k _ _ (c.empty p hp)⟩⟩
section
variable {fn : List DnH} {tf : List Ad} {ex : List (PySem.W.Frag → Bool)} {h : Heap} {K : PySem.W.Frag}
theorem SaysZ.fact (c : SaysZ fn tf ex h K) (i : Nat) {f : PySem.W.Frag → Bool} (e : ex[i]? = some f := by rfl) : f K = true := List.all_eq_true.mp c.more f (List.mem_of_getElem? e)
theorem SaysZ.defn (c : SaysZ fn tf ex h K) (i : Nat) {d : DnH} (e : fn[i]? = some d := by rfl) : fnV d.at_ K = d.val := by
  have q := congrArg (fun z => z[i]?) c.fns
  simp only [List.getElem?_map, e, Option.map_some] at q
  exact Option.some.inj q
theorem SaysZ.tab (c : SaysZ fn tf ex h K) (i : Nat) {p : Ad} (e : tf[i]? = some p := by rfl) : PySem.W.codeHdIn K (cdA p K) (tbA (cdA p) K) = true ∧ K.lookup (tbA (cdA p) K) = none ∧ h.get? (tbA (cdA p) K) = some (PySem.W.tabObj #[]) :=
  ⟨c.hd p (List.mem_of_getElem? e), c.out p (List.mem_of_getElem? e), c.empty p (List.mem_of_getElem? e)⟩
end
theorem walk_ofZ {l : PySem.W.OpenLaw} {n k : Nat} {q : Program} {loose : List Str} {XP : (Str → Option Value) → Heap → Prop} {YP : World → Heap → Prop} {d : DefRec} {x : Str}
    (hn : l.most = some n) (hn2 : n ≤ sizeLine) (hdf : d.params.defaults = []) (hr : Room k callerA)
    (F : ∀ (w : World) (mg : Str → Option Value) (fa : Addr) (h : Heap), YP w h → h.Ns mainGlobals mg → mg d.name = some (.ref fa) → ∃ K : PySem.W.Frag, K.In h ∧ LawT l w K k n x mg fa h) :
    PySem.W.WalkO q loose XP YP l.row.toRowW d [] (fun f vs => PySem.call f vs) := by
  refine Att.attach_call hn hdf fun w s0 s1 mg mb fa o pm cd doc a vs ns G Y ho hd hcd hmg hobj hints hlen hgen => ?_
  obtain ⟨K, KX, fd, cs, sp, hT, nT, hC, hb, hsp, hF⟩ := F w mg fa _ Y G.T.g hmg
  have rv := vals_ints hints
  have hl : ns.length ≤ sizeLine := Nat.le_trans hlen hn2
  have lenV := hints.length
  have nat : ∀ p ∈ cs, p.2 ≠ a := fun p hp z => by
    have q := hT p hp
    rw [z, hobj] at q
    have z' : Data.seq vs.toArray _ = Data.fields #[] := congrArg Obj.data (Option.some.inj q)
    cases z'
  cases hk : K.lookup a with
  | some ob =>
    have e := KX a ob hk
    rw [hobj] at e
    cases e
    exact law_runT (xs := []) (sc := none) KX G.T.g G.T.b G.T.builtins G.T.nolimit hgen hT nT hC G.T.bmain hobj hr hF hb (.inl rfl) (fun u z => by cases z)
      (hsp _ a ns hlen (fun p hp => startH_t (List.mem_map.mpr ⟨p, hp, rfl⟩) (nat p hp)) (.inr ⟨_, vs.toArray, _, hk, rfl, rfl, rfl, by rw [List.size_toArray, lenV]; exact hl, by simpa using rv⟩))
  | none =>
    exact law_runT (xs := ns.map V.int) (sc := some (.frz { cls := .type "list", data := .seq vs.toArray } (.lst (ns.map V.int)))) KX G.T.g G.T.b G.T.builtins G.T.nolimit hgen hT nT hC G.T.bmain hobj hr hF hb (.inr ⟨hk, rfl⟩)
      (fun u z => by cases z; exact ⟨hobj, by rw [List.length_map]; exact hl, vs, _, rv, hobj⟩) (hsp _ a ns hlen (fun p hp => startH_t (List.mem_map.mpr ⟨p, hp, rfl⟩) (nat p hp)) (.inl (.inr ⟨_, startH_a⟩)))
end RL

set_option maxHeartbeats 2000000
/-! Heads by facts, with tables of texts (dicts at top level): what they hold depends on the world's hashes. -/
namespace RL
open PySem PySem.Spec PyProof.Rows L2 He
structure SaysW (fn : List DnH) (tf : List Ad) (ex : List (PySem.W.Frag → Bool)) (ts : List Tz) (w : World) (h : Heap) (K : PySem.W.Frag) : Prop where
  z : SaysZ fn tf ex h K
  d : ts.map (fun t => dicW K (t.1 K)) = ts.map fun t => some (keysIn w.params t.2)
def hookW (n : List Addr) (fn : List DnH) (tf : List Ad) (ex : List (PySem.W.Frag → Bool)) (ts : List Tz) : PySem.W.Hook where
  α := AlW
  obs := fun s => obsW n fn tf ex ts s.heap.get?
  val := fun w => valW fn ts w
  says := fun w h => ∃ K : PySem.W.Frag, K.In h ∧ SaysW fn tf ex ts w h K
  of := fun _ _ e => ⟨_, frT_in, saysZ_of (congrArg (fun z : AlW => z.1) e), congrArg (fun z : AlW => z.2) e⟩
  keeps := fun _ _ _ ⟨K, hK, c⟩ k => ⟨K, PySem.W.Frag.In.keeps hK k, ⟨c.z.fns, c.z.more, c.z.hd, c.z.out, fun p hp => k _ _ (c.z.empty p hp)⟩, c.d⟩
theorem obsW_eq {n : List Addr} {fn : List DnH} {tf : List Ad} {ex : List (PySem.W.Frag → Bool)} {ts : List Tz} {g : Addr → Option Obj} {s : Shared} (h : ∀ a, g a = s.heap.get? a) : obsW n fn tf ex ts g = (hookW n fn tf ex ts).obs s := by
  have e : g = s.heap.get? := funext h
  rw [e] <;> rfl
end RL

set_option maxHeartbeats 0
namespace RL
open PySem PySem.Spec PyProof.Rows L2 He
def A_cA_first_reaching : Ad := cdA A_f_first_reaching
def A_cA_first_passing : Ad := cdA A_f_first_passing
abbrev hkH : PySem.W.Hook := hookW asL fnL tfL exL tsL
theorem obH_eq (s : PySem.W.SharedT) : obH s = hkH.obs s.abs := obsW_eq (HandSHeadRun.getT_eq s)
theorem ob_two (s : PySem.W.SharedT) : (obH s).1.2 = (obA s && (obB s).1, (obB s).2) := by
  have e : (exA ++ exB).all (fun e => e (frT (HandSHeadRun.getT s) asL)) = (exA.all (fun e => e (frT (HandSHeadRun.getT s) asL)) && exB.all fun e => e (frT (HandSHeadRun.getT s) asL)) := List.all_append
  exact Prod.ext e rfl
theorem follow_all {p : World → Prop} (f : ∀ w : World, p (w.withFollow rowS false)) (t : ∀ w : World, p (w.withFollow rowS true)) (w : World) : p w := by
  have e := World.withFollow_self w rowS
  cases hb : w.params.followText rowS with
  | false =>
    rw [hb] at e
    rw [← e]
    exact f w
  | true =>
    rw [hb] at e
    rw [← e]
    exact t w
theorem runH (w : World) : HandSHeadRun.RunEq rwH qH hkH obH 14000 loL w := by
  intro os
  have hA := follow_all (p := PqA) pAF pAT w os
  have hB := follow_all (p := PqB) pBF pBT w os
  have hC := follow_all (p := PqC) pCF pCT w os
  have hD := follow_all (p := PqD) pDF pDT w os
  have hE := follow_all (p := PqE) pEF pET w os
  show (GH w os).map _ = _
  generalize GH w os = g at hA hB hC hD hE ⊢
  cases g with
  | none => cases hA
  | some s =>
    have e0 := Prod.mk.inj (Option.some.inj hA)
    have e1 := Option.some.inj hB
    have e2 := Option.some.inj hC
    have e3 := Option.some.inj hD
    have e4 := Option.some.inj hE
    have e5 := ob_two s
    rw [e3, e4] at e5
    show some (_, _, obH s) = some (_, _, valW fnL tsL w)
    refine congrArg some (Prod.ext e0.1 (Prod.ext e1 (Prod.ext (Prod.ext e2 e5) e0.2)))
theorem factsH {w : World} {K : PySem.W.Frag} {h : Heap} {mg : Str → Option Value} {fa : Addr} (X : K.In h) (G : h.Ns mainGlobals mg) (hmg : mg "law" = some (.ref fa)) (cw : SaysW fnL tfL exL tsL w h K) : LawT PySem.Challenge.rw_rungladders_k23_whole_numbers_that_show w K 15 63 "_law_script" mg fa h := by
  have c := cw.z
  obtain ⟨tG, aG⟩ := intB_ok (x := "GREATEST") (i := 1000000000000) (c.fact 0 (f := e0) rfl)
  obtain ⟨t1, aOh⟩ := intB_ok (x := "MOST_OHMS") (i := 12) (c.fact 1 (f := e1) rfl)
  obtain ⟨t2, aPi⟩ := intB_ok (x := "MOST_PIECES") (i := 4) (c.fact 2 (f := e2) rfl)
  obtain ⟨t3, aJo⟩ := intB_ok (x := "MOST_JOINED") (i := 8) (c.fact 3 (f := e3) rfl)
  have aOp : PySem.W.nsIn K mainGlobals "OPEN" = some (some (.ref (A_aO K))) := of_decide_eq_true (c.fact 4 (f := e4) rfl)
  obtain ⟨od_aO, aO_k0, aO_k1, nn_aO, sl_aO, laOp⟩ := tup2i_ok (a := A_aO) (i := 1) (j := 0) (c.fact 5 (f := e5) rfl)
  have aWo : PySem.W.nsIn K mainGlobals "WORDS" = some (some (.ref (A_aW K))) := of_decide_eq_true (c.fact 6 (f := e6) rfl)
  obtain ⟨od_aW, aW_k0, aW_k1, nn_aW, sl_aW, laWo⟩ := tup2s_ok (a := A_aW) (i := (Str.ofString "rail")) (j := (Str.ofString "rung")) (c.fact 7 (f := e7) rfl)
  have aJ : PySem.W.nsIn K mainGlobals "JoinedRow" = some (some (.ref (A_J K))) := of_decide_eq_true (c.fact 8 (f := e8) rfl)
  have pgJ : PySem.W.plainGet K (A_J K) Str.empty = true := (c.fact 9 (f := e9) rfl)
  have hdJ : PySem.W.hasDictIn K (A_J K) = true := (c.fact 10 (f := e10) rfl)
  have poJ : PySem.W.plainOver K (A_J K) = true := (c.fact 11 (f := e11) rfl)
  have saJ : PySem.W.findIn K (.ref (A_J K)) "__setattr__" = some (some (.builtin "object.__setattr__")) := of_decide_eq_true (c.fact 12 (f := e12) rfl)
  have mkJ : PySem.W.makesIn K (A_J K) = true := (c.fact 13 (f := e13) rfl)
  have kcJ : PySem.W.keepIn K (.ref (A_J K)) = true := (c.fact 14 (f := e14) rfl)
  have nJ_row : PySem.W.findIn K (.ref (A_J K)) "row" = some none := of_decide_eq_true (c.fact 15 (f := e15) rfl)
  have caJ : PySem.W.findIn K (.ref (A_J K)) "__class__" = some (some (.builtin "object.__class__")) := of_decide_eq_true (c.fact 16 (f := e16) rfl)
  have cmJ : PySem.W.mroIn K (A_J K) (.type "object") = some true := of_decide_eq_true (c.fact 17 (f := e17) rfl)
  have cn : PySem.W.specialIn K (.builtin "object.__class__") "__get__" = some (some (.builtin "getset_descriptor.__get__")) := of_decide_eq_true (c.fact 18 (f := e18) rfl)
  have ct : PySem.W.takesIn K (.builtin "object.__class__") = some true := of_decide_eq_true (c.fact 19 (f := e19) rfl)
  have aC : PySem.W.nsIn K mainGlobals "Pattern" = some (some (.ref (A_C K))) := of_decide_eq_true (c.fact 20 (f := e20) rfl)
  have pgC : PySem.W.plainGet K (A_C K) Str.empty = true := (c.fact 21 (f := e21) rfl)
  have hdC : PySem.W.hasDictIn K (A_C K) = true := (c.fact 22 (f := e22) rfl)
  have poC : PySem.W.plainOver K (A_C K) = true := (c.fact 23 (f := e23) rfl)
  have saC : PySem.W.findIn K (.ref (A_C K)) "__setattr__" = some (some (.builtin "object.__setattr__")) := of_decide_eq_true (c.fact 24 (f := e24) rfl)
  have mkC : PySem.W.makesIn K (A_C K) = true := (c.fact 25 (f := e25) rfl)
  have kcC : PySem.W.keepIn K (.ref (A_C K)) = true := (c.fact 26 (f := e26) rfl)
  have nC_row : PySem.W.findIn K (.ref (A_C K)) "row" = some none := of_decide_eq_true (c.fact 27 (f := e27) rfl)
  have nC_matrix : PySem.W.findIn K (.ref (A_C K)) "matrix" = some none := of_decide_eq_true (c.fact 28 (f := e28) rfl)
  have nC_scale : PySem.W.findIn K (.ref (A_C K)) "scale" = some none := of_decide_eq_true (c.fact 29 (f := e29) rfl)
  have nC_four : PySem.W.findIn K (.ref (A_C K)) "four" = some none := of_decide_eq_true (c.fact 30 (f := e30) rfl)
  have kt_J : PySem.W.kitOne K (.type "tuple") (.ref (A_J K)) = some false := of_decide_eq_true (c.fact 31 (f := e31) rfl)
  have sfC : PySem.W.selfFirst K (A_C K) = true := (c.fact 32 (f := e32) rfl)
  have rdC : PySem.W.readsIn K (A_C K) (.type "type") = true := (c.fact 33 (f := e33) rfl)
  have gaC : PySem.W.specialIn K (.ref (A_C K)) "__getattribute__" = some (some (.builtin "type.__getattribute__")) := of_decide_eq_true (c.fact 34 (f := e34) rfl)
  have a_JoinedRow_init : PySem.W.findIn K (.ref (A_J K)) "__init__" = some (some (.ref (A_f_JoinedRow_init K))) := of_decide_eq_true (c.fact 35 (f := e35) rfl)
  have i_JoinedRow_init : PySem.W.isFn K (.ref (A_f_JoinedRow_init K)) = true := (c.fact 36 (f := e36) rfl)
  obtain ⟨oc_JoinedRow_init, od_JoinedRow_init, sl_JoinedRow_init, kV_JoinedRow_init, dc_JoinedRow_init, pm_JoinedRow_init, an_JoinedRow_init, cd_JoinedRow_init, ct_JoinedRow_init, l_JoinedRow_init, c_JoinedRow_init⟩ := fnV_ok (f := A_f_JoinedRow_init) (n := "__init__") (q := "JoinedRow.__init__") (st := s_JoinedRow_init) (c.defn 0 (d := d0) rfl) (c.fact 37 (f := e37) rfl)
  have k_JoinedRow_init : PySem.W.keepIn K (.ref (A_f_JoinedRow_init K)) = true := (c.fact 38 (f := e38) rfl)
  have a_Pattern_init : PySem.W.findIn K (.ref (A_C K)) "__init__" = some (some (.ref (A_f_Pattern_init K))) := of_decide_eq_true (c.fact 39 (f := e39) rfl)
  have i_Pattern_init : PySem.W.isFn K (.ref (A_f_Pattern_init K)) = true := (c.fact 40 (f := e40) rfl)
  obtain ⟨oc_Pattern_init, od_Pattern_init, sl_Pattern_init, kV_Pattern_init, dc_Pattern_init, pm_Pattern_init, an_Pattern_init, cd_Pattern_init, ct_Pattern_init, l_Pattern_init, c_Pattern_init⟩ := fnV_ok (f := A_f_Pattern_init) (n := "__init__") (q := "Pattern.__init__") (st := s_Pattern_init) (c.defn 1 (d := d1) rfl) (c.fact 41 (f := e41) rfl)
  have k_Pattern_init : PySem.W.keepIn K (.ref (A_f_Pattern_init K)) = true := (c.fact 42 (f := e42) rfl)
  have a_Pattern_call : PySem.W.findIn K (.ref (A_C K)) "__call__" = some (some (.ref (A_f_Pattern_call K))) := of_decide_eq_true (c.fact 43 (f := e43) rfl)
  have i_Pattern_call : PySem.W.isFn K (.ref (A_f_Pattern_call K)) = true := (c.fact 44 (f := e44) rfl)
  obtain ⟨oc_Pattern_call, od_Pattern_call, sl_Pattern_call, kV_Pattern_call, dc_Pattern_call, pm_Pattern_call, an_Pattern_call, cd_Pattern_call, ct_Pattern_call, l_Pattern_call, c_Pattern_call⟩ := fnV_ok (f := A_f_Pattern_call) (n := "__call__") (q := "Pattern.__call__") (st := s_Pattern_call) (c.defn 2 (d := d2) rfl) (c.fact 45 (f := e45) rfl)
  have k_Pattern_call : PySem.W.keepIn K (.ref (A_f_Pattern_call K)) = true := (c.fact 46 (f := e46) rfl)
  have fi_call : PySem.W.fnIn K (A_f_Pattern_call K) = true := (c.fact 47 (f := e47) rfl)
  have a_Pattern_add : PySem.W.findIn K (.ref (A_C K)) "__add__" = some (some (.ref (A_f_Pattern_add K))) := of_decide_eq_true (c.fact 48 (f := e48) rfl)
  have i_Pattern_add : PySem.W.isFn K (.ref (A_f_Pattern_add K)) = true := (c.fact 49 (f := e49) rfl)
  obtain ⟨oc_Pattern_add, od_Pattern_add, sl_Pattern_add, kV_Pattern_add, dc_Pattern_add, pm_Pattern_add, an_Pattern_add, cd_Pattern_add, ct_Pattern_add, l_Pattern_add, c_Pattern_add⟩ := fnV_ok (f := A_f_Pattern_add) (n := "__add__") (q := "Pattern.__add__") (st := s_Pattern_add) (c.defn 3 (d := d3) rfl) (c.fact 50 (f := e50) rfl)
  have k_Pattern_add : PySem.W.keepIn K (.ref (A_f_Pattern_add K)) = true := (c.fact 51 (f := e51) rfl)
  have pa_Pattern_numbers : PySem.W.findIn K (.ref (A_C K)) "numbers" = some (some (.ref (A_pr_Pattern_numbers K))) := of_decide_eq_true (c.fact 52 (f := e52) rfl)
  have pg_Pattern_numbers : PySem.W.specialIn K (.ref (A_pr_Pattern_numbers K)) "__get__" = some (some (.builtin "property.__get__")) := of_decide_eq_true (c.fact 53 (f := e53) rfl)
  have pt_Pattern_numbers : PySem.W.takesIn K (.ref (A_pr_Pattern_numbers K)) = some true := of_decide_eq_true (c.fact 54 (f := e54) rfl)
  obtain ⟨rest_Pattern_numbers, pc_Pattern_numbers⟩ := recB_ok (a := A_pr_Pattern_numbers) (f := A_f_Pattern_numbers) (s := "property") (c.fact 55 (f := e55) rfl)
  obtain ⟨oc_Pattern_numbers, od_Pattern_numbers, sl_Pattern_numbers, kV_Pattern_numbers, dc_Pattern_numbers, pm_Pattern_numbers, an_Pattern_numbers, cd_Pattern_numbers, ct_Pattern_numbers, l_Pattern_numbers, c_Pattern_numbers⟩ := fnV_ok (f := A_f_Pattern_numbers) (n := "numbers") (q := "Pattern.numbers") (st := s_Pattern_numbers) (c.defn 4 (d := d4) rfl) (c.fact 56 (f := e56) rfl)
  have k_Pattern_numbers : PySem.W.keepIn K (.ref (A_f_Pattern_numbers K)) = true := (c.fact 57 (f := e57) rfl)
  have sa_Pattern_read := smB_ok (a := A_C) (p := A_pr_Pattern_read) (m := "read") (c.fact 58 (f := e58) rfl)
  obtain ⟨rest_Pattern_read, sc_Pattern_read⟩ := recB_ok (a := A_pr_Pattern_read) (f := A_f_Pattern_read) (s := "staticmethod") (c.fact 59 (f := e59) rfl)
  obtain ⟨oc_Pattern_read, od_Pattern_read, sl_Pattern_read, kV_Pattern_read, dc_Pattern_read, pm_Pattern_read, an_Pattern_read, cd_Pattern_read, ct_Pattern_read, l_Pattern_read, c_Pattern_read⟩ := fnV_ok (f := A_f_Pattern_read) (n := "read") (q := "Pattern.read") (st := s_Pattern_read) (c.defn 5 (d := d5) rfl) (c.fact 60 (f := e60) rfl)
  have k_Pattern_read : PySem.W.keepIn K (.ref (A_f_Pattern_read K)) = true := (c.fact 61 (f := e61) rfl)
  have z_len : PySem.W.nsIn K mainGlobals "len" = some none := of_decide_eq_true (c.fact 62 (f := e62) rfl)
  have z_abs : PySem.W.nsIn K mainGlobals "abs" = some none := of_decide_eq_true (c.fact 63 (f := e63) rfl)
  have z_int : PySem.W.nsIn K mainGlobals "int" = some none := of_decide_eq_true (c.fact 64 (f := e64) rfl)
  have z_bool : PySem.W.nsIn K mainGlobals "bool" = some none := of_decide_eq_true (c.fact 65 (f := e65) rfl)
  have z_tuple : PySem.W.nsIn K mainGlobals "tuple" = some none := of_decide_eq_true (c.fact 66 (f := e66) rfl)
  have z_isinstance : PySem.W.nsIn K mainGlobals "isinstance" = some none := of_decide_eq_true (c.fact 67 (f := e67) rfl)
  have z_divmod : PySem.W.nsIn K mainGlobals "divmod" = some none := of_decide_eq_true (c.fact 68 (f := e68) rfl)
  have z_max : PySem.W.nsIn K mainGlobals "max" = some none := of_decide_eq_true (c.fact 69 (f := e69) rfl)
  have z_min : PySem.W.nsIn K mainGlobals "min" = some none := of_decide_eq_true (c.fact 70 (f := e70) rfl)
  have z_range : PySem.W.nsIn K mainGlobals "range" = some none := of_decide_eq_true (c.fact 71 (f := e71) rfl)
  have z_all : PySem.W.nsIn K mainGlobals "all" = some none := of_decide_eq_true (c.fact 72 (f := e72) rfl)
  have z_repr : PySem.W.nsIn K mainGlobals "repr" = some none := of_decide_eq_true (c.fact 73 (f := e73) rfl)
  have z_str : PySem.W.nsIn K mainGlobals "str" = some none := of_decide_eq_true (c.fact 74 (f := e74) rfl)
  have z_enumerate : PySem.W.nsIn K mainGlobals "enumerate" = some none := of_decide_eq_true (c.fact 75 (f := e75) rfl)
  have a_is_integer : PySem.W.nsIn K mainGlobals "is_integer" = some (some (.ref (A_f_is_integer K))) := of_decide_eq_true (c.fact 76 (f := e76) rfl)
  obtain ⟨oc_is_integer, od_is_integer, sl_is_integer, kV_is_integer, dc_is_integer, pm_is_integer, an_is_integer, cd_is_integer, ct_is_integer, l_is_integer, c_is_integer⟩ := fnV_ok (f := A_f_is_integer) (n := "is_integer") (q := "is_integer") (st := s_is_integer) (c.defn 6 (d := d6) rfl) (c.fact 77 (f := e77) rfl)
  have k_is_integer : PySem.W.keepIn K (.ref (A_f_is_integer K)) = true := (c.fact 78 (f := e78) rfl)
  have a_is_integer_within : PySem.W.nsIn K mainGlobals "is_integer_within" = some (some (.ref (A_f_is_integer_within K))) := of_decide_eq_true (c.fact 79 (f := e79) rfl)
  obtain ⟨oc_is_integer_within, od_is_integer_within, sl_is_integer_within, kV_is_integer_within, dc_is_integer_within, pm_is_integer_within, an_is_integer_within, cd_is_integer_within, ct_is_integer_within, l_is_integer_within, c_is_integer_within⟩ := fnV_ok (f := A_f_is_integer_within) (n := "is_integer_within") (q := "is_integer_within") (st := s_is_integer_within) (c.defn 7 (d := d7) rfl) (c.fact 80 (f := e80) rfl)
  have k_is_integer_within : PySem.W.keepIn K (.ref (A_f_is_integer_within K)) = true := (c.fact 81 (f := e81) rfl)
  have a_is_pair_of_integers : PySem.W.nsIn K mainGlobals "is_pair_of_integers" = some (some (.ref (A_f_is_pair_of_integers K))) := of_decide_eq_true (c.fact 82 (f := e82) rfl)
  obtain ⟨oc_is_pair_of_integers, od_is_pair_of_integers, sl_is_pair_of_integers, kV_is_pair_of_integers, dc_is_pair_of_integers, pm_is_pair_of_integers, an_is_pair_of_integers, cd_is_pair_of_integers, ct_is_pair_of_integers, l_is_pair_of_integers, c_is_pair_of_integers⟩ := fnV_ok (f := A_f_is_pair_of_integers) (n := "is_pair_of_integers") (q := "is_pair_of_integers") (st := s_is_pair_of_integers) (c.defn 8 (d := d8) rfl) (c.fact 83 (f := e83) rfl)
  have k_is_pair_of_integers : PySem.W.keepIn K (.ref (A_f_is_pair_of_integers K)) = true := (c.fact 84 (f := e84) rfl)
  have a_is_resistance : PySem.W.nsIn K mainGlobals "is_resistance" = some (some (.ref (A_f_is_resistance K))) := of_decide_eq_true (c.fact 85 (f := e85) rfl)
  obtain ⟨oc_is_resistance, od_is_resistance, sl_is_resistance, kV_is_resistance, dc_is_resistance, pm_is_resistance, an_is_resistance, cd_is_resistance, ct_is_resistance, l_is_resistance, c_is_resistance⟩ := fnV_ok (f := A_f_is_resistance) (n := "is_resistance") (q := "is_resistance") (st := s_is_resistance) (c.defn 9 (d := d9) rfl) (c.fact 86 (f := e86) rfl)
  have k_is_resistance : PySem.W.keepIn K (.ref (A_f_is_resistance K)) = true := (c.fact 87 (f := e87) rfl)
  have a_pair_of : PySem.W.nsIn K mainGlobals "pair_of" = some (some (.ref (A_f_pair_of K))) := of_decide_eq_true (c.fact 88 (f := e88) rfl)
  obtain ⟨oc_pair_of, od_pair_of, sl_pair_of, kV_pair_of, dc_pair_of, pm_pair_of, an_pair_of, cd_pair_of, ct_pair_of, l_pair_of, c_pair_of⟩ := fnV_ok (f := A_f_pair_of) (n := "pair_of") (q := "pair_of") (st := s_pair_of) (c.defn 10 (d := d10) rfl) (c.fact 89 (f := e89) rfl)
  have k_pair_of : PySem.W.keepIn K (.ref (A_f_pair_of K)) = true := (c.fact 90 (f := e90) rfl)
  have a_common_divisor : PySem.W.nsIn K mainGlobals "common_divisor" = some (some (.ref (A_f_common_divisor K))) := of_decide_eq_true (c.fact 91 (f := e91) rfl)
  obtain ⟨oc_common_divisor, od_common_divisor, sl_common_divisor, kV_common_divisor, dc_common_divisor, pm_common_divisor, an_common_divisor, cd_common_divisor, ct_common_divisor, l_common_divisor, c_common_divisor⟩ := fnV_ok (f := A_f_common_divisor) (n := "common_divisor") (q := "common_divisor") (st := s_common_divisor) (c.defn 11 (d := d11) rfl) (c.fact 92 (f := e92) rfl)
  have k_common_divisor : PySem.W.keepIn K (.ref (A_f_common_divisor K)) = true := (c.fact 93 (f := e93) rfl)
  have a_lowest_terms : PySem.W.nsIn K mainGlobals "lowest_terms" = some (some (.ref (A_f_lowest_terms K))) := of_decide_eq_true (c.fact 94 (f := e94) rfl)
  obtain ⟨oc_lowest_terms, od_lowest_terms, sl_lowest_terms, kV_lowest_terms, dc_lowest_terms, pm_lowest_terms, an_lowest_terms, cd_lowest_terms, ct_lowest_terms, l_lowest_terms, c_lowest_terms⟩ := fnV_ok (f := A_f_lowest_terms) (n := "lowest_terms") (q := "lowest_terms") (st := s_lowest_terms) (c.defn 12 (d := d12) rfl) (c.fact 95 (f := e95) rfl)
  have k_lowest_terms : PySem.W.keepIn K (.ref (A_f_lowest_terms K)) = true := (c.fact 96 (f := e96) rfl)
  have a_lowest_pair : PySem.W.nsIn K mainGlobals "lowest_pair" = some (some (.ref (A_f_lowest_pair K))) := of_decide_eq_true (c.fact 97 (f := e97) rfl)
  obtain ⟨oc_lowest_pair, od_lowest_pair, sl_lowest_pair, kV_lowest_pair, dc_lowest_pair, pm_lowest_pair, an_lowest_pair, cd_lowest_pair, ct_lowest_pair, l_lowest_pair, c_lowest_pair⟩ := fnV_ok (f := A_f_lowest_pair) (n := "lowest_pair") (q := "lowest_pair") (st := s_lowest_pair) (c.defn 13 (d := d13) rfl) (c.fact 98 (f := e98) rfl)
  have k_lowest_pair : PySem.W.keepIn K (.ref (A_f_lowest_pair K)) = true := (c.fact 99 (f := e99) rfl)
  have a_is_piece : PySem.W.nsIn K mainGlobals "is_piece" = some (some (.ref (A_f_is_piece K))) := of_decide_eq_true (c.fact 100 (f := e100) rfl)
  obtain ⟨oc_is_piece, od_is_piece, sl_is_piece, kV_is_piece, dc_is_piece, pm_is_piece, an_is_piece, cd_is_piece, ct_is_piece, l_is_piece, c_is_piece⟩ := fnV_ok (f := A_f_is_piece) (n := "is_piece") (q := "is_piece") (st := s_is_piece) (c.defn 14 (d := d14) rfl) (c.fact 101 (f := e101) rfl)
  have k_is_piece : PySem.W.keepIn K (.ref (A_f_is_piece K)) = true := (c.fact 102 (f := e102) rfl)
  have a_checked_row : PySem.W.nsIn K mainGlobals "checked_row" = some (some (.ref (A_f_checked_row K))) := of_decide_eq_true (c.fact 103 (f := e103) rfl)
  obtain ⟨oc_checked_row, od_checked_row, sl_checked_row, kV_checked_row, dc_checked_row, pm_checked_row, an_checked_row, cd_checked_row, ct_checked_row, l_checked_row, c_checked_row⟩ := fnV_ok (f := A_f_checked_row) (n := "checked_row") (q := "checked_row") (st := s_checked_row) (c.defn 15 (d := d15) rfl) (c.fact 104 (f := e104) rfl)
  have k_checked_row : PySem.W.keepIn K (.ref (A_f_checked_row K)) = true := (c.fact 105 (f := e105) rfl)
  have a_matrix_and_scale : PySem.W.nsIn K mainGlobals "matrix_and_scale" = some (some (.ref (A_f_matrix_and_scale K))) := of_decide_eq_true (c.fact 106 (f := e106) rfl)
  obtain ⟨oc_matrix_and_scale, od_matrix_and_scale, sl_matrix_and_scale, kV_matrix_and_scale, dc_matrix_and_scale, pm_matrix_and_scale, an_matrix_and_scale, cd_matrix_and_scale, ct_matrix_and_scale, l_matrix_and_scale, c_matrix_and_scale⟩ := fnV_ok (f := A_f_matrix_and_scale) (n := "matrix_and_scale") (q := "matrix_and_scale") (st := s_matrix_and_scale) (c.defn 16 (d := d16) rfl) (c.fact 107 (f := e107) rfl)
  have k_matrix_and_scale : PySem.W.keepIn K (.ref (A_f_matrix_and_scale K)) = true := (c.fact 108 (f := e108) rfl)
  have a_shown_before : PySem.W.nsIn K mainGlobals "shown_before" = some (some (.ref (A_f_shown_before K))) := of_decide_eq_true (c.fact 109 (f := e109) rfl)
  obtain ⟨oc_shown_before, od_shown_before, sl_shown_before, kV_shown_before, dc_shown_before, pm_shown_before, an_shown_before, cd_shown_before, ct_shown_before, l_shown_before, c_shown_before⟩ := fnV_ok (f := A_f_shown_before) (n := "shown_before") (q := "shown_before") (st := s_shown_before) (c.defn 17 (d := d17) rfl) (c.fact 110 (f := e110) rfl)
  have k_shown_before : PySem.W.keepIn K (.ref (A_f_shown_before K)) = true := (c.fact 111 (f := e111) rfl)
  have a_piece_text : PySem.W.nsIn K mainGlobals "piece_text" = some (some (.ref (A_f_piece_text K))) := of_decide_eq_true (c.fact 112 (f := e112) rfl)
  obtain ⟨oc_piece_text, od_piece_text, sl_piece_text, kV_piece_text, dc_piece_text, pm_piece_text, an_piece_text, cd_piece_text, ct_piece_text, l_piece_text, c_piece_text⟩ := fnV_ok (f := A_f_piece_text) (n := "piece_text") (q := "piece_text") (st := s_piece_text) (c.defn 18 (d := d18) rfl) (c.fact 113 (f := e113) rfl)
  have k_piece_text : PySem.W.keepIn K (.ref (A_f_piece_text K)) = true := (c.fact 114 (f := e114) rfl)
  have a_piece_with_text : PySem.W.nsIn K mainGlobals "piece_with_text" = some (some (.ref (A_f_piece_with_text K))) := of_decide_eq_true (c.fact 115 (f := e115) rfl)
  obtain ⟨oc_piece_with_text, od_piece_with_text, sl_piece_with_text, kV_piece_with_text, dc_piece_with_text, pm_piece_with_text, an_piece_with_text, cd_piece_with_text, ct_piece_with_text, l_piece_with_text, c_piece_with_text⟩ := fnV_ok (f := A_f_piece_with_text) (n := "piece_with_text") (q := "piece_with_text") (st := s_piece_with_text) (c.defn 19 (d := d19) rfl) (c.fact 116 (f := e116) rfl)
  have k_piece_with_text : PySem.W.keepIn K (.ref (A_f_piece_with_text K)) = true := (c.fact 117 (f := e117) rfl)
  have a_law_cup : PySem.W.nsIn K mainGlobals "_law_cup" = some (some (.ref (A_f_law_cup K))) := of_decide_eq_true (c.fact 118 (f := e118) rfl)
  obtain ⟨oc_law_cup, od_law_cup, sl_law_cup, kV_law_cup, dc_law_cup, pm_law_cup, an_law_cup, cd_law_cup, ct_law_cup, l_law_cup, c_law_cup⟩ := fnV_ok (f := A_f_law_cup) (n := "_law_cup") (q := "_law_cup") (st := s_law_cup) (c.defn 20 (d := d20) rfl) (c.fact 119 (f := e119) rfl)
  have k_law_cup : PySem.W.keepIn K (.ref (A_f_law_cup K)) = true := (c.fact 120 (f := e120) rfl)
  have a_law_sip : PySem.W.nsIn K mainGlobals "_law_sip" = some (some (.ref (A_f_law_sip K))) := of_decide_eq_true (c.fact 121 (f := e121) rfl)
  obtain ⟨oc_law_sip, od_law_sip, sl_law_sip, kV_law_sip, dc_law_sip, pm_law_sip, an_law_sip, cd_law_sip, ct_law_sip, l_law_sip, c_law_sip⟩ := fnV_ok (f := A_f_law_sip) (n := "_law_sip") (q := "_law_sip") (st := s_law_sip) (c.defn 21 (d := d21) rfl) (c.fact 122 (f := e122) rfl)
  have k_law_sip : PySem.W.keepIn K (.ref (A_f_law_sip K)) = true := (c.fact 123 (f := e123) rfl)
  have a_law_pick : PySem.W.nsIn K mainGlobals "_law_pick" = some (some (.ref (A_f_law_pick K))) := of_decide_eq_true (c.fact 124 (f := e124) rfl)
  obtain ⟨oc_law_pick, od_law_pick, sl_law_pick, kV_law_pick, dc_law_pick, pm_law_pick, an_law_pick, cd_law_pick, ct_law_pick, l_law_pick, c_law_pick⟩ := fnV_ok (f := A_f_law_pick) (n := "_law_pick") (q := "_law_pick") (st := s_law_pick) (c.defn 22 (d := d22) rfl) (c.fact 125 (f := e125) rfl)
  have k_law_pick : PySem.W.keepIn K (.ref (A_f_law_pick K)) = true := (c.fact 126 (f := e126) rfl)
  have a_law_pair : PySem.W.nsIn K mainGlobals "_law_pair" = some (some (.ref (A_f_law_pair K))) := of_decide_eq_true (c.fact 127 (f := e127) rfl)
  obtain ⟨oc_law_pair, od_law_pair, sl_law_pair, kV_law_pair, dc_law_pair, pm_law_pair, an_law_pair, cd_law_pair, ct_law_pair, l_law_pair, c_law_pair⟩ := fnV_ok (f := A_f_law_pair) (n := "_law_pair") (q := "_law_pair") (st := s_law_pair) (c.defn 23 (d := d23) rfl) (c.fact 128 (f := e128) rfl)
  have k_law_pair : PySem.W.keepIn K (.ref (A_f_law_pair K)) = true := (c.fact 129 (f := e129) rfl)
  have caC : PySem.W.findIn K (.ref (A_C K)) "__class__" = some (some (.builtin "object.__class__")) := of_decide_eq_true (c.fact 130 (f := e130) rfl)
  have cmC : PySem.W.mroIn K (A_C K) (.type "object") = some true := of_decide_eq_true (c.fact 131 (f := e131) rfl)
  obtain ⟨tP, aGP⟩ := intB_ok (x := "GREATEST_PART") (i := 10000000000000000000000000000000000000000) (c.fact 132 (f := e132) rfl)
  obtain ⟨tC, aMS⟩ := intB_ok (x := "MOST_SECTIONS") (i := 100) (c.fact 133 (f := e133) rfl)
  have aCe : PySem.W.nsIn K mainGlobals "Exact" = some (some (.ref (A_Ce K))) := of_decide_eq_true (c.fact 134 (f := e134) rfl)
  have pgCe : PySem.W.plainGet K (A_Ce K) Str.empty = true := (c.fact 135 (f := e135) rfl)
  have hdCe : PySem.W.hasDictIn K (A_Ce K) = true := (c.fact 136 (f := e136) rfl)
  have poCe : PySem.W.plainOver K (A_Ce K) = true := (c.fact 137 (f := e137) rfl)
  have saCe : PySem.W.findIn K (.ref (A_Ce K)) "__setattr__" = some (some (.builtin "object.__setattr__")) := of_decide_eq_true (c.fact 138 (f := e138) rfl)
  have mkCe : PySem.W.makesIn K (A_Ce K) = true := (c.fact 139 (f := e139) rfl)
  have kcCe : PySem.W.keepIn K (.ref (A_Ce K)) = true := (c.fact 140 (f := e140) rfl)
  have nCe_parts : PySem.W.findIn K (.ref (A_Ce K)) "parts" = some none := of_decide_eq_true (c.fact 141 (f := e141) rfl)
  have caCe : PySem.W.findIn K (.ref (A_Ce K)) "__class__" = some (some (.builtin "object.__class__")) := of_decide_eq_true (c.fact 142 (f := e142) rfl)
  have cmCe : PySem.W.mroIn K (A_Ce K) (.type "object") = some true := of_decide_eq_true (c.fact 143 (f := e143) rfl)
  have aCl : PySem.W.nsIn K mainGlobals "Ladder" = some (some (.ref (A_Cl K))) := of_decide_eq_true (c.fact 144 (f := e144) rfl)
  have pgCl : PySem.W.plainGet K (A_Cl K) Str.empty = true := (c.fact 145 (f := e145) rfl)
  have hdCl : PySem.W.hasDictIn K (A_Cl K) = true := (c.fact 146 (f := e146) rfl)
  have poCl : PySem.W.plainOver K (A_Cl K) = true := (c.fact 147 (f := e147) rfl)
  have saCl : PySem.W.findIn K (.ref (A_Cl K)) "__setattr__" = some (some (.builtin "object.__setattr__")) := of_decide_eq_true (c.fact 148 (f := e148) rfl)
  have mkCl : PySem.W.makesIn K (A_Cl K) = true := (c.fact 149 (f := e149) rfl)
  have kcCl : PySem.W.keepIn K (.ref (A_Cl K)) = true := (c.fact 150 (f := e150) rfl)
  have nCl_section : PySem.W.findIn K (.ref (A_Cl K)) "section" = some none := of_decide_eq_true (c.fact 151 (f := e151) rfl)
  have nCl_behind : PySem.W.findIn K (.ref (A_Cl K)) "behind" = some none := of_decide_eq_true (c.fact 152 (f := e152) rfl)
  have nCl_far : PySem.W.findIn K (.ref (A_Cl K)) "far" = some none := of_decide_eq_true (c.fact 153 (f := e153) rfl)
  have a_is_count : PySem.W.nsIn K mainGlobals "is_count" = some (some (.ref (A_f_is_count K))) := of_decide_eq_true (c.fact 154 (f := e154) rfl)
  obtain ⟨oc_is_count, od_is_count, sl_is_count, kV_is_count, dc_is_count, pm_is_count, an_is_count, cd_is_count, ct_is_count, l_is_count, c_is_count⟩ := fnV_ok (f := A_f_is_count) (n := "is_count") (q := "is_count") (st := s_is_count) (c.defn 24 (d := d24) rfl) (c.fact 155 (f := e155) rfl)
  have k_is_count : PySem.W.keepIn K (.ref (A_f_is_count K)) = true := (c.fact 156 (f := e156) rfl)
  have a_sign : PySem.W.nsIn K mainGlobals "sign" = some (some (.ref (A_f_sign K))) := of_decide_eq_true (c.fact 157 (f := e157) rfl)
  obtain ⟨oc_sign, od_sign, sl_sign, kV_sign, dc_sign, pm_sign, an_sign, cd_sign, ct_sign, l_sign, c_sign⟩ := fnV_ok (f := A_f_sign) (n := "sign") (q := "sign") (st := s_sign) (c.defn 25 (d := d25) rfl) (c.fact 158 (f := e158) rfl)
  have k_sign : PySem.W.keepIn K (.ref (A_f_sign K)) = true := (c.fact 159 (f := e159) rfl)
  have a_square_root : PySem.W.nsIn K mainGlobals "square_root" = some (some (.ref (A_f_square_root K))) := of_decide_eq_true (c.fact 160 (f := e160) rfl)
  obtain ⟨oc_square_root, od_square_root, sl_square_root, kV_square_root, dc_square_root, pm_square_root, an_square_root, cd_square_root, ct_square_root, l_square_root, c_square_root⟩ := fnV_ok (f := A_f_square_root) (n := "square_root") (q := "square_root") (st := s_square_root) (c.defn 26 (d := d26) rfl) (c.fact 161 (f := e161) rfl)
  have k_square_root : PySem.W.keepIn K (.ref (A_f_square_root K)) = true := (c.fact 162 (f := e162) rfl)
  have a_under_root : PySem.W.nsIn K mainGlobals "under_root" = some (some (.ref (A_f_under_root K))) := of_decide_eq_true (c.fact 163 (f := e163) rfl)
  obtain ⟨oc_under_root, od_under_root, sl_under_root, kV_under_root, dc_under_root, pm_under_root, an_under_root, cd_under_root, ct_under_root, l_under_root, c_under_root⟩ := fnV_ok (f := A_f_under_root) (n := "under_root") (q := "under_root") (st := s_under_root) (c.defn 27 (d := d27) rfl) (c.fact 164 (f := e164) rfl)
  have k_under_root : PySem.W.keepIn K (.ref (A_f_under_root K)) = true := (c.fact 165 (f := e165) rfl)
  have a_equation_of_fraction : PySem.W.nsIn K mainGlobals "equation_of_fraction" = some (some (.ref (A_f_equation_of_fraction K))) := of_decide_eq_true (c.fact 166 (f := e166) rfl)
  obtain ⟨oc_equation_of_fraction, od_equation_of_fraction, sl_equation_of_fraction, kV_equation_of_fraction, dc_equation_of_fraction, pm_equation_of_fraction, an_equation_of_fraction, cd_equation_of_fraction, ct_equation_of_fraction, l_equation_of_fraction, c_equation_of_fraction⟩ := fnV_ok (f := A_f_equation_of_fraction) (n := "equation_of_fraction") (q := "equation_of_fraction") (st := s_equation_of_fraction) (c.defn 28 (d := d28) rfl) (c.fact 167 (f := e167) rfl)
  have k_equation_of_fraction : PySem.W.keepIn K (.ref (A_f_equation_of_fraction K)) = true := (c.fact 168 (f := e168) rfl)
  have a_simplest_equation : PySem.W.nsIn K mainGlobals "simplest_equation" = some (some (.ref (A_f_simplest_equation K))) := of_decide_eq_true (c.fact 169 (f := e169) rfl)
  obtain ⟨oc_simplest_equation, od_simplest_equation, sl_simplest_equation, kV_simplest_equation, dc_simplest_equation, pm_simplest_equation, an_simplest_equation, cd_simplest_equation, ct_simplest_equation, l_simplest_equation, c_simplest_equation⟩ := fnV_ok (f := A_f_simplest_equation) (n := "simplest_equation") (q := "simplest_equation") (st := s_simplest_equation) (c.defn 29 (d := d29) rfl) (c.fact 170 (f := e170) rfl)
  have k_simplest_equation : PySem.W.keepIn K (.ref (A_f_simplest_equation K)) = true := (c.fact 171 (f := e171) rfl)
  have a_pair_order : PySem.W.nsIn K mainGlobals "pair_order" = some (some (.ref (A_f_pair_order K))) := of_decide_eq_true (c.fact 172 (f := e172) rfl)
  obtain ⟨oc_pair_order, od_pair_order, sl_pair_order, kV_pair_order, dc_pair_order, pm_pair_order, an_pair_order, cd_pair_order, ct_pair_order, l_pair_order, c_pair_order⟩ := fnV_ok (f := A_f_pair_order) (n := "pair_order") (q := "pair_order") (st := s_pair_order) (c.defn 30 (d := d30) rfl) (c.fact 173 (f := e173) rfl)
  have k_pair_order : PySem.W.keepIn K (.ref (A_f_pair_order K)) = true := (c.fact 174 (f := e174) rfl)
  have a_check_resistance : PySem.W.nsIn K mainGlobals "check_resistance" = some (some (.ref (A_f_check_resistance K))) := of_decide_eq_true (c.fact 175 (f := e175) rfl)
  obtain ⟨oc_check_resistance, od_check_resistance, sl_check_resistance, kV_check_resistance, dc_check_resistance, pm_check_resistance, an_check_resistance, cd_check_resistance, ct_check_resistance, l_check_resistance, c_check_resistance⟩ := fnV_ok (f := A_f_check_resistance) (n := "check_resistance") (q := "check_resistance") (st := s_check_resistance) (c.defn 31 (d := d31) rfl) (c.fact 176 (f := e176) rfl)
  have k_check_resistance : PySem.W.keepIn K (.ref (A_f_check_resistance K)) = true := (c.fact 177 (f := e177) rfl)
  have a_check_count : PySem.W.nsIn K mainGlobals "check_count" = some (some (.ref (A_f_check_count K))) := of_decide_eq_true (c.fact 178 (f := e178) rfl)
  obtain ⟨oc_check_count, od_check_count, sl_check_count, kV_check_count, dc_check_count, pm_check_count, an_check_count, cd_check_count, ct_check_count, l_check_count, c_check_count⟩ := fnV_ok (f := A_f_check_count) (n := "check_count") (q := "check_count") (st := s_check_count) (c.defn 32 (d := d32) rfl) (c.fact 179 (f := e179) rfl)
  have k_check_count : PySem.W.keepIn K (.ref (A_f_check_count K)) = true := (c.fact 180 (f := e180) rfl)
  have a_Exact_init : PySem.W.findIn K (.ref (A_Ce K)) "__init__" = some (some (.ref (A_f_Exact_init K))) := of_decide_eq_true (c.fact 181 (f := e181) rfl)
  have i_Exact_init : PySem.W.isFn K (.ref (A_f_Exact_init K)) = true := (c.fact 182 (f := e182) rfl)
  obtain ⟨oc_Exact_init, od_Exact_init, sl_Exact_init, kV_Exact_init, dc_Exact_init, pm_Exact_init, an_Exact_init, cd_Exact_init, ct_Exact_init, l_Exact_init, c_Exact_init⟩ := fnV_ok (f := A_f_Exact_init) (n := "__init__") (q := "Exact.__init__") (st := s_Exact_init) (c.defn 33 (d := d33) rfl) (c.fact 183 (f := e183) rfl)
  have k_Exact_init : PySem.W.keepIn K (.ref (A_f_Exact_init K)) = true := (c.fact 184 (f := e184) rfl)
  have a_check_pattern : PySem.W.nsIn K mainGlobals "check_pattern" = some (some (.ref (A_f_check_pattern K))) := of_decide_eq_true (c.fact 185 (f := e185) rfl)
  obtain ⟨oc_check_pattern, od_check_pattern, sl_check_pattern, kV_check_pattern, dc_check_pattern, pm_check_pattern, an_check_pattern, cd_check_pattern, ct_check_pattern, l_check_pattern, c_check_pattern⟩ := fnV_ok (f := A_f_check_pattern) (n := "check_pattern") (q := "check_pattern") (st := s_check_pattern) (c.defn 34 (d := d34) rfl) (c.fact 186 (f := e186) rfl)
  have k_check_pattern : PySem.W.keepIn K (.ref (A_f_check_pattern K)) = true := (c.fact 187 (f := e187) rfl)
  have a_ladder_limit : PySem.W.nsIn K mainGlobals "ladder_limit" = some (some (.ref (A_f_ladder_limit K))) := of_decide_eq_true (c.fact 188 (f := e188) rfl)
  obtain ⟨oc_ladder_limit, od_ladder_limit, sl_ladder_limit, kV_ladder_limit, dc_ladder_limit, pm_ladder_limit, an_ladder_limit, cd_ladder_limit, ct_ladder_limit, l_ladder_limit, c_ladder_limit⟩ := fnV_ok (f := A_f_ladder_limit) (n := "ladder_limit") (q := "ladder_limit") (st := s_ladder_limit) (c.defn 35 (d := d35) rfl) (c.fact 189 (f := e189) rfl)
  have k_ladder_limit : PySem.W.keepIn K (.ref (A_f_ladder_limit K)) = true := (c.fact 190 (f := e190) rfl)
  have a_Ladder_init : PySem.W.findIn K (.ref (A_Cl K)) "__init__" = some (some (.ref (A_f_Ladder_init K))) := of_decide_eq_true (c.fact 191 (f := e191) rfl)
  have i_Ladder_init : PySem.W.isFn K (.ref (A_f_Ladder_init K)) = true := (c.fact 192 (f := e192) rfl)
  obtain ⟨oc_Ladder_init, od_Ladder_init, sl_Ladder_init, kV_Ladder_init, dc_Ladder_init, pm_Ladder_init, an_Ladder_init, cd_Ladder_init, ct_Ladder_init, l_Ladder_init, c_Ladder_init⟩ := fnV_ok (f := A_f_Ladder_init) (n := "__init__") (q := "Ladder.__init__") (st := s_Ladder_init) (c.defn 36 (d := d36) rfl) (c.fact 193 (f := e193) rfl)
  have k_Ladder_init : PySem.W.keepIn K (.ref (A_f_Ladder_init K)) = true := (c.fact 194 (f := e194) rfl)
  have a_Ladder_after : PySem.W.findIn K (.ref (A_Cl K)) "after" = some (some (.ref (A_f_Ladder_after K))) := of_decide_eq_true (c.fact 195 (f := e195) rfl)
  have i_Ladder_after : PySem.W.isFn K (.ref (A_f_Ladder_after K)) = true := (c.fact 196 (f := e196) rfl)
  obtain ⟨oc_Ladder_after, od_Ladder_after, sl_Ladder_after, kV_Ladder_after, dc_Ladder_after, pm_Ladder_after, an_Ladder_after, cd_Ladder_after, ct_Ladder_after, l_Ladder_after, c_Ladder_after⟩ := fnV_ok (f := A_f_Ladder_after) (n := "after") (q := "Ladder.after") (st := s_Ladder_after) (c.defn 37 (d := d37) rfl) (c.fact 197 (f := e197) rfl)
  have k_Ladder_after : PySem.W.keepIn K (.ref (A_f_Ladder_after K)) = true := (c.fact 198 (f := e198) rfl)
  have a_Ladder_call : PySem.W.findIn K (.ref (A_Cl K)) "__call__" = some (some (.ref (A_f_Ladder_call K))) := of_decide_eq_true (c.fact 199 (f := e199) rfl)
  have i_Ladder_call : PySem.W.isFn K (.ref (A_f_Ladder_call K)) = true := (c.fact 200 (f := e200) rfl)
  obtain ⟨oc_Ladder_call, od_Ladder_call, sl_Ladder_call, kV_Ladder_call, dc_Ladder_call, pm_Ladder_call, an_Ladder_call, cd_Ladder_call, ct_Ladder_call, l_Ladder_call, c_Ladder_call⟩ := fnV_ok (f := A_f_Ladder_call) (n := "__call__") (q := "Ladder.__call__") (st := s_Ladder_call) (c.defn 38 (d := d38) rfl) (c.fact 201 (f := e201) rfl)
  have k_Ladder_call : PySem.W.keepIn K (.ref (A_f_Ladder_call K)) = true := (c.fact 202 (f := e202) rfl)
  have fi_lcall : PySem.W.fnIn K (A_f_Ladder_call K) = true := (c.fact 203 (f := e203) rfl)
  have pa_Ladder_goes : PySem.W.findIn K (.ref (A_Cl K)) "goes" = some (some (.ref (A_pr_Ladder_goes K))) := of_decide_eq_true (c.fact 204 (f := e204) rfl)
  have pg_Ladder_goes : PySem.W.specialIn K (.ref (A_pr_Ladder_goes K)) "__get__" = some (some (.builtin "property.__get__")) := of_decide_eq_true (c.fact 205 (f := e205) rfl)
  have pt_Ladder_goes : PySem.W.takesIn K (.ref (A_pr_Ladder_goes K)) = some true := of_decide_eq_true (c.fact 206 (f := e206) rfl)
  obtain ⟨rest_Ladder_goes, pc_Ladder_goes⟩ := recB_ok (a := A_pr_Ladder_goes) (f := A_f_Ladder_goes) (s := "property") (c.fact 207 (f := e207) rfl)
  obtain ⟨oc_Ladder_goes, od_Ladder_goes, sl_Ladder_goes, kV_Ladder_goes, dc_Ladder_goes, pm_Ladder_goes, an_Ladder_goes, cd_Ladder_goes, ct_Ladder_goes, l_Ladder_goes, c_Ladder_goes⟩ := fnV_ok (f := A_f_Ladder_goes) (n := "goes") (q := "Ladder.goes") (st := s_Ladder_goes) (c.defn 39 (d := d39) rfl) (c.fact 208 (f := e208) rfl)
  have k_Ladder_goes : PySem.W.keepIn K (.ref (A_f_Ladder_goes K)) = true := (c.fact 209 (f := e209) rfl)
  have pa_Ladder_limit : PySem.W.findIn K (.ref (A_Cl K)) "limit" = some (some (.ref (A_pr_Ladder_limit K))) := of_decide_eq_true (c.fact 210 (f := e210) rfl)
  have pg_Ladder_limit : PySem.W.specialIn K (.ref (A_pr_Ladder_limit K)) "__get__" = some (some (.builtin "property.__get__")) := of_decide_eq_true (c.fact 211 (f := e211) rfl)
  have pt_Ladder_limit : PySem.W.takesIn K (.ref (A_pr_Ladder_limit K)) = some true := of_decide_eq_true (c.fact 212 (f := e212) rfl)
  obtain ⟨rest_Ladder_limit, pc_Ladder_limit⟩ := recB_ok (a := A_pr_Ladder_limit) (f := A_f_Ladder_limit) (s := "property") (c.fact 213 (f := e213) rfl)
  obtain ⟨oc_Ladder_limit, od_Ladder_limit, sl_Ladder_limit, kV_Ladder_limit, dc_Ladder_limit, pm_Ladder_limit, an_Ladder_limit, cd_Ladder_limit, ct_Ladder_limit, l_Ladder_limit, c_Ladder_limit⟩ := fnV_ok (f := A_f_Ladder_limit) (n := "limit") (q := "Ladder.limit") (st := s_Ladder_limit) (c.defn 40 (d := d40) rfl) (c.fact 214 (f := e214) rfl)
  have k_Ladder_limit : PySem.W.keepIn K (.ref (A_f_Ladder_limit K)) = true := (c.fact 215 (f := e215) rfl)
  have pa_Exact_equation : PySem.W.findIn K (.ref (A_Ce K)) "equation" = some (some (.ref (A_pr_Exact_equation K))) := of_decide_eq_true (c.fact 216 (f := e216) rfl)
  have pg_Exact_equation : PySem.W.specialIn K (.ref (A_pr_Exact_equation K)) "__get__" = some (some (.builtin "property.__get__")) := of_decide_eq_true (c.fact 217 (f := e217) rfl)
  have pt_Exact_equation : PySem.W.takesIn K (.ref (A_pr_Exact_equation K)) = some true := of_decide_eq_true (c.fact 218 (f := e218) rfl)
  obtain ⟨rest_Exact_equation, pc_Exact_equation⟩ := recB_ok (a := A_pr_Exact_equation) (f := A_f_Exact_equation) (s := "property") (c.fact 219 (f := e219) rfl)
  obtain ⟨oc_Exact_equation, od_Exact_equation, sl_Exact_equation, kV_Exact_equation, dc_Exact_equation, pm_Exact_equation, an_Exact_equation, cd_Exact_equation, ct_Exact_equation, l_Exact_equation, c_Exact_equation⟩ := fnV_ok (f := A_f_Exact_equation) (n := "equation") (q := "Exact.equation") (st := s_Exact_equation) (c.defn 41 (d := d41) rfl) (c.fact 220 (f := e220) rfl)
  have k_Exact_equation : PySem.W.keepIn K (.ref (A_f_Exact_equation K)) = true := (c.fact 221 (f := e221) rfl)
  have pa_Exact_fraction : PySem.W.findIn K (.ref (A_Ce K)) "fraction" = some (some (.ref (A_pr_Exact_fraction K))) := of_decide_eq_true (c.fact 222 (f := e222) rfl)
  have pg_Exact_fraction : PySem.W.specialIn K (.ref (A_pr_Exact_fraction K)) "__get__" = some (some (.builtin "property.__get__")) := of_decide_eq_true (c.fact 223 (f := e223) rfl)
  have pt_Exact_fraction : PySem.W.takesIn K (.ref (A_pr_Exact_fraction K)) = some true := of_decide_eq_true (c.fact 224 (f := e224) rfl)
  obtain ⟨rest_Exact_fraction, pc_Exact_fraction⟩ := recB_ok (a := A_pr_Exact_fraction) (f := A_f_Exact_fraction) (s := "property") (c.fact 225 (f := e225) rfl)
  obtain ⟨oc_Exact_fraction, od_Exact_fraction, sl_Exact_fraction, kV_Exact_fraction, dc_Exact_fraction, pm_Exact_fraction, an_Exact_fraction, cd_Exact_fraction, ct_Exact_fraction, l_Exact_fraction, c_Exact_fraction⟩ := fnV_ok (f := A_f_Exact_fraction) (n := "fraction") (q := "Exact.fraction") (st := s_Exact_fraction) (c.defn 42 (d := d42) rfl) (c.fact 226 (f := e226) rfl)
  have k_Exact_fraction : PySem.W.keepIn K (.ref (A_f_Exact_fraction K)) = true := (c.fact 227 (f := e227) rfl)
  have a_law_front : PySem.W.nsIn K mainGlobals "_law_front" = some (some (.ref (A_f_law_front K))) := of_decide_eq_true (c.fact 228 (f := e228) rfl)
  obtain ⟨oc_law_front, od_law_front, sl_law_front, kV_law_front, dc_law_front, pm_law_front, an_law_front, cd_law_front, ct_law_front, l_law_front, c_law_front⟩ := fnV_ok (f := A_f_law_front) (n := "_law_front") (q := "_law_front") (st := s_law_front) (c.defn 43 (d := d43) rfl) (c.fact 229 (f := e229) rfl)
  have k_law_front : PySem.W.keepIn K (.ref (A_f_law_front K)) = true := (c.fact 230 (f := e230) rfl)
  have a_law_row : PySem.W.nsIn K mainGlobals "_law_row" = some (some (.ref (A_f_law_row K))) := of_decide_eq_true (c.fact 231 (f := e231) rfl)
  obtain ⟨oc_law_row, od_law_row, sl_law_row, kV_law_row, dc_law_row, pm_law_row, an_law_row, cd_law_row, ct_law_row, l_law_row, c_law_row⟩ := fnV_ok (f := A_f_law_row) (n := "_law_row") (q := "_law_row") (st := s_law_row) (c.defn 44 (d := d44) rfl) (c.fact 232 (f := e232) rfl)
  have k_law_row : PySem.W.keepIn K (.ref (A_f_law_row K)) = true := (c.fact 233 (f := e233) rfl)
  have a_law_words : PySem.W.nsIn K mainGlobals "_law_words" = some (some (.ref (A_f_law_words K))) := of_decide_eq_true (c.fact 234 (f := e234) rfl)
  obtain ⟨oc_law_words, od_law_words, sl_law_words, kV_law_words, dc_law_words, pm_law_words, an_law_words, cd_law_words, ct_law_words, l_law_words, c_law_words⟩ := fnV_ok (f := A_f_law_words) (n := "_law_words") (q := "_law_words") (st := s_law_words) (c.defn 45 (d := d45) rfl) (c.fact 235 (f := e235) rfl)
  have k_law_words : PySem.W.keepIn K (.ref (A_f_law_words K)) = true := (c.fact 236 (f := e236) rfl)
  have a_law_read : PySem.W.nsIn K mainGlobals "_law_read" = some (some (.ref (A_f_law_read K))) := of_decide_eq_true (c.fact 237 (f := e237) rfl)
  obtain ⟨oc_law_read, od_law_read, sl_law_read, kV_law_read, dc_law_read, pm_law_read, an_law_read, cd_law_read, ct_law_read, l_law_read, c_law_read⟩ := fnV_ok (f := A_f_law_read) (n := "_law_read") (q := "_law_read") (st := s_law_read) (c.defn 46 (d := d46) rfl) (c.fact 238 (f := e238) rfl)
  have k_law_read : PySem.W.keepIn K (.ref (A_f_law_read K)) = true := (c.fact 239 (f := e239) rfl)
  have a_law_mixed : PySem.W.nsIn K mainGlobals "_law_mixed" = some (some (.ref (A_f_law_mixed K))) := of_decide_eq_true (c.fact 240 (f := e240) rfl)
  obtain ⟨oc_law_mixed, od_law_mixed, sl_law_mixed, kV_law_mixed, dc_law_mixed, pm_law_mixed, an_law_mixed, cd_law_mixed, ct_law_mixed, l_law_mixed, c_law_mixed⟩ := fnV_ok (f := A_f_law_mixed) (n := "_law_mixed") (q := "_law_mixed") (st := s_law_mixed) (c.defn 47 (d := d47) rfl) (c.fact 241 (f := e241) rfl)
  have k_law_mixed : PySem.W.keepIn K (.ref (A_f_law_mixed K)) = true := (c.fact 242 (f := e242) rfl)
  have kt_E : PySem.W.kitOne K (.type "tuple") (.ref (A_Ce K)) = some false := of_decide_eq_true (c.fact 243 (f := e243) rfl)
  have nf_E : PySem.W.notFirst K (A_Ce K) (.type "tuple") = true := (c.fact 244 (f := e244) rfl)
  have a_Exact_eq : PySem.W.findIn K (.ref (A_Ce K)) "__eq__" = some (some (.ref (A_f_Exact_eq K))) := of_decide_eq_true (c.fact 245 (f := e245) rfl)
  have i_Exact_eq : PySem.W.isFn K (.ref (A_f_Exact_eq K)) = true := (c.fact 246 (f := e246) rfl)
  obtain ⟨oc_Exact_eq, od_Exact_eq, sl_Exact_eq, kV_Exact_eq, dc_Exact_eq, pm_Exact_eq, an_Exact_eq, cd_Exact_eq, ct_Exact_eq, l_Exact_eq, c_Exact_eq⟩ := fnV_ok (f := A_f_Exact_eq) (n := "__eq__") (q := "Exact.__eq__") (st := s_Exact_eq) (c.defn 48 (d := d48) rfl) (c.fact 247 (f := e247) rfl)
  have k_Exact_eq : PySem.W.keepIn K (.ref (A_f_Exact_eq K)) = true := (c.fact 248 (f := e248) rfl)
  have caCl : PySem.W.findIn K (.ref (A_Cl K)) "__class__" = some (some (.builtin "object.__class__")) := of_decide_eq_true (c.fact 249 (f := e249) rfl)
  have cmCl : PySem.W.mroIn K (A_Cl K) (.type "object") = some true := of_decide_eq_true (c.fact 250 (f := e250) rfl)
  have aCg : PySem.W.nsIn K mainGlobals "Greatest" = some (some (.ref (A_Cg K))) := of_decide_eq_true (c.fact 251 (f := e251) rfl)
  have aCs : PySem.W.nsIn K mainGlobals "Least" = some (some (.ref (A_Cs K))) := of_decide_eq_true (c.fact 252 (f := e252) rfl)
  have z_reversed : PySem.W.nsIn K mainGlobals "reversed" = some none := of_decide_eq_true (c.fact 253 (f := e253) rfl)
  have a_beside_fraction : PySem.W.nsIn K mainGlobals "beside_fraction" = some (some (.ref (A_f_beside_fraction K))) := of_decide_eq_true (c.fact 254 (f := e254) rfl)
  obtain ⟨oc_beside_fraction, od_beside_fraction, sl_beside_fraction, kV_beside_fraction, dc_beside_fraction, pm_beside_fraction, an_beside_fraction, cd_beside_fraction, ct_beside_fraction, l_beside_fraction, c_beside_fraction⟩ := fnV_ok (f := A_f_beside_fraction) (n := "beside_fraction") (q := "beside_fraction") (st := s_beside_fraction) (c.defn 49 (d := d49) rfl) (c.fact 255 (f := e255) rfl)
  have k_beside_fraction : PySem.W.keepIn K (.ref (A_f_beside_fraction K)) = true := (c.fact 256 (f := e256) rfl)
  have a_limit_beside : PySem.W.nsIn K mainGlobals "limit_beside" = some (some (.ref (A_f_limit_beside K))) := of_decide_eq_true (c.fact 257 (f := e257) rfl)
  obtain ⟨oc_limit_beside, od_limit_beside, sl_limit_beside, kV_limit_beside, dc_limit_beside, pm_limit_beside, an_limit_beside, cd_limit_beside, ct_limit_beside, l_limit_beside, c_limit_beside⟩ := fnV_ok (f := A_f_limit_beside) (n := "limit_beside") (q := "limit_beside") (st := s_limit_beside) (c.defn 50 (d := d50) rfl) (c.fact 258 (f := e258) rfl)
  have k_limit_beside : PySem.W.keepIn K (.ref (A_f_limit_beside K)) = true := (c.fact 259 (f := e259) rfl)
  have pa_Ladder_load : PySem.W.findIn K (.ref (A_Cl K)) "load" = some (some (.ref (A_pr_Ladder_load K))) := of_decide_eq_true (c.fact 260 (f := e260) rfl)
  have pg_Ladder_load : PySem.W.specialIn K (.ref (A_pr_Ladder_load K)) "__get__" = some (some (.builtin "property.__get__")) := of_decide_eq_true (c.fact 261 (f := e261) rfl)
  have pt_Ladder_load : PySem.W.takesIn K (.ref (A_pr_Ladder_load K)) = some true := of_decide_eq_true (c.fact 262 (f := e262) rfl)
  obtain ⟨rest_Ladder_load, pc_Ladder_load⟩ := recB_ok (a := A_pr_Ladder_load) (f := A_f_Ladder_load) (s := "property") (c.fact 263 (f := e263) rfl)
  obtain ⟨oc_Ladder_load, od_Ladder_load, sl_Ladder_load, kV_Ladder_load, dc_Ladder_load, pm_Ladder_load, an_Ladder_load, cd_Ladder_load, ct_Ladder_load, l_Ladder_load, c_Ladder_load⟩ := fnV_ok (f := A_f_Ladder_load) (n := "load") (q := "Ladder.load") (st := s_Ladder_load) (c.defn 51 (d := d51) rfl) (c.fact 264 (f := e264) rfl)
  have k_Ladder_load : PySem.W.keepIn K (.ref (A_f_Ladder_load K)) = true := (c.fact 265 (f := e265) rfl)
  have a_Ladder_last_stage : PySem.W.findIn K (.ref (A_Cl K)) "last_stage" = some (some (.ref (A_f_Ladder_last_stage K))) := of_decide_eq_true (c.fact 266 (f := e266) rfl)
  have i_Ladder_last_stage : PySem.W.isFn K (.ref (A_f_Ladder_last_stage K)) = true := (c.fact 267 (f := e267) rfl)
  obtain ⟨oc_Ladder_last_stage, od_Ladder_last_stage, sl_Ladder_last_stage, kV_Ladder_last_stage, dc_Ladder_last_stage, pm_Ladder_last_stage, an_Ladder_last_stage, cd_Ladder_last_stage, ct_Ladder_last_stage, l_Ladder_last_stage, c_Ladder_last_stage⟩ := fnV_ok (f := A_f_Ladder_last_stage) (n := "last_stage") (q := "Ladder.last_stage") (st := s_Ladder_last_stage) (c.defn 52 (d := d52) rfl) (c.fact 268 (f := e268) rfl)
  have k_Ladder_last_stage : PySem.W.keepIn K (.ref (A_f_Ladder_last_stage K)) = true := (c.fact 269 (f := e269) rfl)
  have a_check_run : PySem.W.nsIn K mainGlobals "check_run" = some (some (.ref (A_f_check_run K))) := of_decide_eq_true (c.fact 270 (f := e270) rfl)
  obtain ⟨oc_check_run, od_check_run, sl_check_run, kV_check_run, dc_check_run, pm_check_run, an_check_run, cd_check_run, ct_check_run, l_check_run, c_check_run⟩ := fnV_ok (f := A_f_check_run) (n := "check_run") (q := "check_run") (st := s_check_run) (c.defn 53 (d := d53) rfl) (c.fact 271 (f := e271) rfl)
  have k_check_run : PySem.W.keepIn K (.ref (A_f_check_run K)) = true := (c.fact 272 (f := e272) rfl)
  have a_squared : PySem.W.nsIn K mainGlobals "squared" = some (some (.ref (A_f_squared K))) := of_decide_eq_true (c.fact 273 (f := e273) rfl)
  obtain ⟨oc_squared, od_squared, sl_squared, kV_squared, dc_squared, pm_squared, an_squared, cd_squared, ct_squared, l_squared, c_squared⟩ := fnV_ok (f := A_f_squared) (n := "squared") (q := "squared") (st := s_squared) (c.defn 54 (d := d54) rfl) (c.fact 274 (f := e274) rfl)
  have k_squared : PySem.W.keepIn K (.ref (A_f_squared K)) = true := (c.fact 275 (f := e275) rfl)
  have a_sections_before : PySem.W.nsIn K mainGlobals "sections_before" = some (some (.ref (A_f_sections_before K))) := of_decide_eq_true (c.fact 276 (f := e276) rfl)
  obtain ⟨oc_sections_before, od_sections_before, sl_sections_before, kV_sections_before, dc_sections_before, pm_sections_before, an_sections_before, cd_sections_before, ct_sections_before, l_sections_before, c_sections_before⟩ := fnV_ok (f := A_f_sections_before) (n := "sections_before") (q := "sections_before") (st := s_sections_before) (c.defn 55 (d := d55) rfl) (c.fact 277 (f := e277) rfl)
  have k_sections_before : PySem.W.keepIn K (.ref (A_f_sections_before K)) = true := (c.fact 278 (f := e278) rfl)
  have a_least_number : PySem.W.nsIn K mainGlobals "least_number" = some (some (.ref (A_f_least_number K))) := of_decide_eq_true (c.fact 279 (f := e279) rfl)
  obtain ⟨oc_least_number, od_least_number, sl_least_number, kV_least_number, dc_least_number, pm_least_number, an_least_number, cd_least_number, ct_least_number, l_least_number, c_least_number⟩ := fnV_ok (f := A_f_least_number) (n := "least_number") (q := "least_number") (st := s_least_number) (c.defn 56 (d := d56) rfl) (c.fact 280 (f := e280) rfl)
  have k_least_number : PySem.W.keepIn K (.ref (A_f_least_number K)) = true := (c.fact 281 (f := e281) rfl)
  have a_first_with : PySem.W.nsIn K mainGlobals "first_with" = some (some (.ref (A_f_first_with K))) := of_decide_eq_true (c.fact 282 (f := e282) rfl)
  obtain ⟨oc_first_with, od_first_with, sl_first_with, kV_first_with, dc_first_with, pm_first_with, an_first_with, cd_first_with, ct_first_with, l_first_with, c_first_with⟩ := fnV_ok (f := A_f_first_with) (n := "first_with") (q := "first_with") (st := s_first_with) (c.defn 57 (d := d57) rfl) (c.fact 283 (f := e283) rfl)
  have k_first_with : PySem.W.keepIn K (.ref (A_f_first_with K)) = true := (c.fact 284 (f := e284) rfl)
  have a_first_reaching : PySem.W.nsIn K mainGlobals "first_reaching" = some (some (.ref (A_f_first_reaching K))) := of_decide_eq_true (c.fact 285 (f := e285) rfl)
  obtain ⟨oc_first_reaching, od_first_reaching, sl_first_reaching, kV_first_reaching, dc_first_reaching, pm_first_reaching, an_first_reaching, cd_first_reaching, ct_first_reaching, l_first_reaching, c_first_reaching⟩ := fnV_ok (f := A_f_first_reaching) (n := "first_reaching") (q := "first_reaching") (st := s_first_reaching) (c.defn 58 (d := d58) rfl) (c.fact 286 (f := e286) rfl)
  have k_first_reaching : PySem.W.keepIn K (.ref (A_f_first_reaching K)) = true := (c.fact 287 (f := e287) rfl)
  have e_first_reaching := cd_ok (f := A_f_first_reaching) l_first_reaching c_first_reaching
  obtain ⟨ch_first_reaching, kn_first_reaching, tt_first_reaching⟩ := c.tab 0 (p := A_f_first_reaching) rfl
  obtain ⟨dC_first_reaching, vC_first_reaching, sC_first_reaching, lc_first_reaching, pl_first_reaching⟩ := hd_ok ch_first_reaching
  have a_first_passing : PySem.W.nsIn K mainGlobals "first_passing" = some (some (.ref (A_f_first_passing K))) := of_decide_eq_true (c.fact 288 (f := e288) rfl)
  obtain ⟨oc_first_passing, od_first_passing, sl_first_passing, kV_first_passing, dc_first_passing, pm_first_passing, an_first_passing, cd_first_passing, ct_first_passing, l_first_passing, c_first_passing⟩ := fnV_ok (f := A_f_first_passing) (n := "first_passing") (q := "first_passing") (st := s_first_passing) (c.defn 59 (d := d59) rfl) (c.fact 289 (f := e289) rfl)
  have k_first_passing : PySem.W.keepIn K (.ref (A_f_first_passing K)) = true := (c.fact 290 (f := e290) rfl)
  have e_first_passing := cd_ok (f := A_f_first_passing) l_first_passing c_first_passing
  obtain ⟨ch_first_passing, kn_first_passing, tt_first_passing⟩ := c.tab 1 (p := A_f_first_passing) rfl
  obtain ⟨dC_first_passing, vC_first_passing, sC_first_passing, lc_first_passing, pl_first_passing⟩ := hd_ok ch_first_passing
  have a_count_of : PySem.W.nsIn K mainGlobals "count_of" = some (some (.ref (A_f_count_of K))) := of_decide_eq_true (c.fact 291 (f := e291) rfl)
  obtain ⟨oc_count_of, od_count_of, sl_count_of, kV_count_of, dc_count_of, pm_count_of, an_count_of, cd_count_of, ct_count_of, l_count_of, c_count_of⟩ := fnV_ok (f := A_f_count_of) (n := "count_of") (q := "count_of") (st := s_count_of) (c.defn 60 (d := d60) rfl) (c.fact 292 (f := e292) rfl)
  have k_count_of : PySem.W.keepIn K (.ref (A_f_count_of K)) = true := (c.fact 293 (f := e293) rfl)
  have a_law_end : PySem.W.nsIn K mainGlobals "_law_end" = some (some (.ref (A_f_law_end K))) := of_decide_eq_true (c.fact 294 (f := e294) rfl)
  obtain ⟨oc_law_end, od_law_end, sl_law_end, kV_law_end, dc_law_end, pm_law_end, an_law_end, cd_law_end, ct_law_end, l_law_end, c_law_end⟩ := fnV_ok (f := A_f_law_end) (n := "_law_end") (q := "_law_end") (st := s_law_end) (c.defn 61 (d := d61) rfl) (c.fact 295 (f := e295) rfl)
  have k_law_end : PySem.W.keepIn K (.ref (A_f_law_end K)) = true := (c.fact 296 (f := e296) rfl)
  have a_law_walk : PySem.W.nsIn K mainGlobals "_law_walk" = some (some (.ref (A_f_law_walk K))) := of_decide_eq_true (c.fact 297 (f := e297) rfl)
  obtain ⟨oc_law_walk, od_law_walk, sl_law_walk, kV_law_walk, dc_law_walk, pm_law_walk, an_law_walk, cd_law_walk, ct_law_walk, l_law_walk, c_law_walk⟩ := fnV_ok (f := A_f_law_walk) (n := "_law_walk") (q := "_law_walk") (st := s_law_walk) (c.defn 62 (d := d62) rfl) (c.fact 298 (f := e298) rfl)
  have k_law_walk : PySem.W.keepIn K (.ref (A_f_law_walk K)) = true := (c.fact 299 (f := e299) rfl)
  have a_law_told : PySem.W.nsIn K mainGlobals "_law_told" = some (some (.ref (A_f_law_told K))) := of_decide_eq_true (c.fact 300 (f := e300) rfl)
  obtain ⟨oc_law_told, od_law_told, sl_law_told, kV_law_told, dc_law_told, pm_law_told, an_law_told, cd_law_told, ct_law_told, l_law_told, c_law_told⟩ := fnV_ok (f := A_f_law_told) (n := "_law_told") (q := "_law_told") (st := s_law_told) (c.defn 63 (d := d63) rfl) (c.fact 301 (f := e301) rfl)
  have k_law_told : PySem.W.keepIn K (.ref (A_f_law_told K)) = true := (c.fact 302 (f := e302) rfl)
  have a_law_lines : PySem.W.nsIn K mainGlobals "_law_lines" = some (some (.ref (A_f_law_lines K))) := of_decide_eq_true (c.fact 303 (f := e303) rfl)
  obtain ⟨oc_law_lines, od_law_lines, sl_law_lines, kV_law_lines, dc_law_lines, pm_law_lines, an_law_lines, cd_law_lines, ct_law_lines, l_law_lines, c_law_lines⟩ := fnV_ok (f := A_f_law_lines) (n := "_law_lines") (q := "_law_lines") (st := s_law_lines) (c.defn 64 (d := d64) rfl) (c.fact 304 (f := e304) rfl)
  have k_law_lines : PySem.W.keepIn K (.ref (A_f_law_lines K)) = true := (c.fact 305 (f := e305) rfl)
  have a_law_near : PySem.W.nsIn K mainGlobals "_law_near" = some (some (.ref (A_f_law_near K))) := of_decide_eq_true (c.fact 306 (f := e306) rfl)
  obtain ⟨oc_law_near, od_law_near, sl_law_near, kV_law_near, dc_law_near, pm_law_near, an_law_near, cd_law_near, ct_law_near, l_law_near, c_law_near⟩ := fnV_ok (f := A_f_law_near) (n := "_law_near") (q := "_law_near") (st := s_law_near) (c.defn 65 (d := d65) rfl) (c.fact 307 (f := e307) rfl)
  have k_law_near : PySem.W.keepIn K (.ref (A_f_law_near K)) = true := (c.fact 308 (f := e308) rfl)
  have a_law_far : PySem.W.nsIn K mainGlobals "_law_far" = some (some (.ref (A_f_law_far K))) := of_decide_eq_true (c.fact 309 (f := e309) rfl)
  obtain ⟨oc_law_far, od_law_far, sl_law_far, kV_law_far, dc_law_far, pm_law_far, an_law_far, cd_law_far, ct_law_far, l_law_far, c_law_far⟩ := fnV_ok (f := A_f_law_far) (n := "_law_far") (q := "_law_far") (st := s_law_far) (c.defn 66 (d := d66) rfl) (c.fact 310 (f := e310) rfl)
  have k_law_far : PySem.W.keepIn K (.ref (A_f_law_far K)) = true := (c.fact 311 (f := e311) rfl)
  have a_law_right : PySem.W.nsIn K mainGlobals "_law_right" = some (some (.ref (A_f_law_right K))) := of_decide_eq_true (c.fact 312 (f := e312) rfl)
  obtain ⟨oc_law_right, od_law_right, sl_law_right, kV_law_right, dc_law_right, pm_law_right, an_law_right, cd_law_right, ct_law_right, l_law_right, c_law_right⟩ := fnV_ok (f := A_f_law_right) (n := "_law_right") (q := "_law_right") (st := s_law_right) (c.defn 67 (d := d67) rfl) (c.fact 313 (f := e313) rfl)
  have k_law_right : PySem.W.keepIn K (.ref (A_f_law_right K)) = true := (c.fact 314 (f := e314) rfl)
  have a_law : PySem.W.nsIn K mainGlobals "law" = some (some (.ref (A_f_law K))) := of_decide_eq_true (c.fact 315 (f := e315) rfl)
  obtain ⟨oc_law, od_law, sl_law, kV_law, dc_law, pm_law, an_law, cd_law, ct_law, l_law, c_law⟩ := fnV_ok (f := A_f_law) (n := "law") (q := "law") (st := s_law) (c.defn 68 (d := d68) rfl) (c.fact 316 (f := e316) rfl)
  have k_law : PySem.W.keepIn K (.ref (A_f_law K)) = true := (c.fact 317 (f := e317) rfl)
  have ne_first_reaching_first_passing : (A_PA_first_reaching K) ≠ (A_PA_first_passing K) := of_decide_eq_true (c.fact 318 (f := e318) rfl)
  have ne_first_passing_first_reaching : (A_PA_first_passing K) ≠ (A_PA_first_reaching K) := of_decide_eq_true (c.fact 319 (f := e319) rfl)
  exact all_mk X G hmg aG aOh aPi aJo aOp laOp aWo laWo aJ pgJ hdJ poJ saJ mkJ kcJ nJ_row caJ cmJ cn ct aC pgC hdC poC saC mkC kcC nC_row nC_matrix nC_scale nC_four kt_J sfC rdC gaC a_JoinedRow_init i_JoinedRow_init l_JoinedRow_init c_JoinedRow_init k_JoinedRow_init a_Pattern_init i_Pattern_init l_Pattern_init c_Pattern_init k_Pattern_init a_Pattern_call i_Pattern_call l_Pattern_call c_Pattern_call k_Pattern_call fi_call a_Pattern_add i_Pattern_add l_Pattern_add c_Pattern_add k_Pattern_add pa_Pattern_numbers pg_Pattern_numbers pt_Pattern_numbers pc_Pattern_numbers l_Pattern_numbers c_Pattern_numbers k_Pattern_numbers sa_Pattern_read sc_Pattern_read l_Pattern_read c_Pattern_read k_Pattern_read z_len z_abs z_int z_bool z_tuple z_isinstance z_divmod z_max z_min z_range z_all z_repr z_str z_enumerate a_is_integer l_is_integer c_is_integer k_is_integer a_is_integer_within l_is_integer_within c_is_integer_within k_is_integer_within a_is_pair_of_integers l_is_pair_of_integers c_is_pair_of_integers k_is_pair_of_integers a_is_resistance l_is_resistance c_is_resistance k_is_resistance a_pair_of l_pair_of c_pair_of k_pair_of a_common_divisor l_common_divisor c_common_divisor k_common_divisor a_lowest_terms l_lowest_terms c_lowest_terms k_lowest_terms a_lowest_pair l_lowest_pair c_lowest_pair k_lowest_pair a_is_piece l_is_piece c_is_piece k_is_piece a_checked_row l_checked_row c_checked_row k_checked_row a_matrix_and_scale l_matrix_and_scale c_matrix_and_scale k_matrix_and_scale a_shown_before l_shown_before c_shown_before k_shown_before a_piece_text l_piece_text c_piece_text k_piece_text a_piece_with_text l_piece_with_text c_piece_with_text k_piece_with_text a_law_cup l_law_cup c_law_cup k_law_cup a_law_sip l_law_sip c_law_sip k_law_sip a_law_pick l_law_pick c_law_pick k_law_pick a_law_pair l_law_pair c_law_pair k_law_pair caC cmC aGP aMS aCe pgCe hdCe poCe saCe mkCe kcCe nCe_parts caCe cmCe aCl pgCl hdCl poCl saCl mkCl kcCl nCl_section nCl_behind nCl_far a_is_count l_is_count c_is_count k_is_count a_sign l_sign c_sign k_sign a_square_root l_square_root c_square_root k_square_root a_under_root l_under_root c_under_root k_under_root a_equation_of_fraction l_equation_of_fraction c_equation_of_fraction k_equation_of_fraction a_simplest_equation l_simplest_equation c_simplest_equation k_simplest_equation a_pair_order l_pair_order c_pair_order k_pair_order a_check_resistance l_check_resistance c_check_resistance k_check_resistance a_check_count l_check_count c_check_count k_check_count a_Exact_init i_Exact_init l_Exact_init c_Exact_init k_Exact_init a_check_pattern l_check_pattern c_check_pattern k_check_pattern a_ladder_limit l_ladder_limit c_ladder_limit k_ladder_limit a_Ladder_init i_Ladder_init l_Ladder_init c_Ladder_init k_Ladder_init a_Ladder_after i_Ladder_after l_Ladder_after c_Ladder_after k_Ladder_after a_Ladder_call i_Ladder_call l_Ladder_call c_Ladder_call k_Ladder_call fi_lcall pa_Ladder_goes pg_Ladder_goes pt_Ladder_goes pc_Ladder_goes l_Ladder_goes c_Ladder_goes k_Ladder_goes pa_Ladder_limit pg_Ladder_limit pt_Ladder_limit pc_Ladder_limit l_Ladder_limit c_Ladder_limit k_Ladder_limit pa_Exact_equation pg_Exact_equation pt_Exact_equation pc_Exact_equation l_Exact_equation c_Exact_equation k_Exact_equation pa_Exact_fraction pg_Exact_fraction pt_Exact_fraction pc_Exact_fraction l_Exact_fraction c_Exact_fraction k_Exact_fraction a_law_front l_law_front c_law_front k_law_front a_law_row l_law_row c_law_row k_law_row a_law_words l_law_words c_law_words k_law_words a_law_read l_law_read c_law_read k_law_read a_law_mixed l_law_mixed c_law_mixed k_law_mixed kt_E nf_E a_Exact_eq i_Exact_eq l_Exact_eq c_Exact_eq k_Exact_eq caCl cmCl aCg aCs z_reversed a_beside_fraction l_beside_fraction c_beside_fraction k_beside_fraction a_limit_beside l_limit_beside c_limit_beside k_limit_beside pa_Ladder_load pg_Ladder_load pt_Ladder_load pc_Ladder_load l_Ladder_load c_Ladder_load k_Ladder_load a_Ladder_last_stage i_Ladder_last_stage l_Ladder_last_stage c_Ladder_last_stage k_Ladder_last_stage a_check_run l_check_run c_check_run k_check_run a_squared l_squared c_squared k_squared a_sections_before l_sections_before c_sections_before k_sections_before a_least_number l_least_number c_least_number k_least_number a_first_with l_first_with c_first_with k_first_with a_first_reaching l_first_reaching c_first_reaching k_first_reaching e_first_reaching lc_first_reaching pl_first_reaching ch_first_reaching tt_first_reaching kn_first_reaching a_first_passing l_first_passing c_first_passing k_first_passing e_first_passing lc_first_passing pl_first_passing ch_first_passing tt_first_passing kn_first_passing a_count_of l_count_of c_count_of k_count_of a_law_end l_law_end c_law_end k_law_end a_law_walk l_law_walk c_law_walk k_law_walk a_law_told l_law_told c_law_told k_law_told a_law_lines l_law_lines c_law_lines k_law_lines a_law_near l_law_near c_law_near k_law_near a_law_far l_law_far c_law_far k_law_far a_law_right l_law_right c_law_right k_law_right a_law l_law c_law k_law ne_first_reaching_first_passing ne_first_passing_first_reaching
end RL
open PySem PySem.W PySem.Calls PyProof.Rows
set_option maxHeartbeats 0 in
theorem PySem.Challenge.cw_rungladders_k23_whole_numbers_that_show_holds : PySem.Challenge.rw_rungladders_k23_whole_numbers_that_show.Holds := by
  w_on; o_law
  refine HandSHeadRun.head_any (r := OpenLaw.row PySem.Challenge.rw_rungladders_k23_whole_numbers_that_show) (q := view (OpenLaw.row PySem.Challenge.rw_rungladders_k23_whole_numbers_that_show).prog [102]) (H := RL.hkH) (ob := RL.obH) (M := 14000) (loose := RL.loL) (d := HandSHeadRun.topDef (OpenLaw.row PySem.Challenge.rw_rungladders_k23_whole_numbers_that_show).prog 102) (kwd := []) RL.obH_eq
    (by kernel_rfl) (fun s => by kernel_rfl) RL.runH (by kernel_rfl) (by kernel_rfl) (by kernel_rfl) (by rfl) (by first | assumption | decide +kernel) (by decide +kernel) ⟨rfl, rfl, rfl, rfl, rfl, by decide +kernel⟩ ?hw ?hc
  case hw => w_witness2
  case hc =>
    refine RL.walk_ofZ (l := PySem.Challenge.rw_rungladders_k23_whole_numbers_that_show) (n := 63) (k := 15) (x := "_law_script") rfl (by decide) (by kernel_rfl) ⟨rfl, by decide, by decide⟩ ?F
    intro w mg fa h Y G hmg0
    obtain ⟨K, KX, c⟩ := Y
    have hmg : mg ("law" : PySem.Str) = some (.ref fa) := by
      have e : (HandSHeadRun.topDef (OpenLaw.row PySem.Challenge.rw_rungladders_k23_whole_numbers_that_show).prog 102).name = ("law" : PySem.Str) := by kernel_rfl
      rw [← e]
      exact hmg0
    exact ⟨K, KX, RL.factsH KX G hmg c⟩


