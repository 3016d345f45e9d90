import PyProof.Rows.All
import Wide.All
import OpenK.AllK
import Wide.FinOn
import HandS.ForMost
import HandS.IsInst
import HandS.Wide
import HandS.WideBits
import HandS.MakeKwOnly
import HandS.SlotsOwn
import PyProof.ReprRoads
import HandS.Property
import HandS.FStr
import HandS.RaiseMore
import KE.KCallOwn
import PyProof.InstNe
import PyProof.ReprLen
import PyProof.Rows.ReprOcc
import HandS.Star
import HandS.ClsMeth
import HandS.Style
import HandS.TupAny
import HandS.Deep
import KE.KRevSl
import KE.GoesMore
import HandS.Iter
import HandS.Exc
import KE.KExcInit
import HandS.ExcInit
import KE.KExcIs
import PyProof.CallFns
import PyProof.StrLawsRepr
import PyProof.EqLayable
import HandS.Dict
import HandS.HotCalls
import HandS.ExcInitHot
import HandS.Lambda
import HandS.Comp
import KE.KLam
import PyProof.NeData
import HandS.More
import HandS.CallLocal
import HandS.TupMul
import HandS.Codes
import PyProof.Rows.CountFlat
import HandS.SetFor
import HandS.Text
import PyProof.ExcBaseAll.LookupError
import PyProof.ExcBaseAll.ArithmeticError
import PyProof.ExcBaseAll.ValueError
import PyProof.InstStoreFacts
import HandS.EndTab
import KE.KNestM
import OpenK.KOps
import KE.KOpsOwn
import HandS.Small
import HandS.Walk
import HandS.WordsDict
import HandS.List
import PyProof.Rows.StrMeet
import HandS.HeadHook3
import HandS.HeadHook4
import HandS.Head2
import PySem.Challenge.RW_rungladders_k61_patterns_under_names
set_option Elab.async false
set_option linter.all false
set_option maxRecDepth 100000
namespace RL
open PySem L2 PySem.Spec PyProof.Rows
end RL

namespace RL
open PySem L2 PySem.Spec PyProof.Rows
end RL

namespace RL
open PySem L2 PySem.Spec PyProof.Rows PySem.W Builtin
end RL

namespace RL
end RL

namespace RL
end RL

namespace RL
end RL

namespace RL
end RL

namespace RL
open PySem L2
def ts (i : Int) : Str := Str.ofString (toString i)
end RL

set_option maxHeartbeats 1000000
namespace RL
open PySem L2 PySem.Spec PyProof.Rows PySem.W
end RL

namespace RL
end RL

namespace RL
open PySem L2
def top (i : Nat) : Stmt := PySem.Challenge.pw_rungladders_k61_patterns_under_names.main.body.getD i (.Pass ⟨0, 0, 0, 0⟩)
end RL

namespace RL
open PySem L2
end RL

namespace RL
open PySem L2
section
variable {P : Program} {w : World} {K : PySem.W.Frag} {mg : Str → Option Value} {base : Heap} {tG : Tok} {aO : Addr}
abbrev s_is_integer : Stmt := top 9
abbrev s_is_integer_within : Stmt := top 10
abbrev s_pair_of : Stmt := top 14
abbrev s_common_divisor : Stmt := top 15
abbrev s_lowest_terms : Stmt := top 16
abbrev s_lowest_pair : Stmt := top 17
end
end RL

set_option maxHeartbeats 1000000
namespace RL
open PySem L2 PySem.Spec PyProof.Rows
open AutoSeq1 (wpAny_loadPart')
end RL

namespace RL
open PySem L2
section
variable {P : Program} {w : World} {K : PySem.W.Frag} {mg : Str → Option Value} {base : Heap} {tG t1 t2 t3 : Tok} {aO aW J C : Addr}
abbrev s_JoinedRow_init : Stmt := inClass (top 45) 0
abbrev s_is_piece : Stmt := top 48
abbrev s_checked_row : Stmt := top 47
abbrev s_matrix_and_scale : Stmt := top 49
abbrev s_piece_text : Stmt := top 52
abbrev s_piece_with_text : Stmt := top 53
end
end RL

set_option maxHeartbeats 2000000
namespace PySem
namespace RLX
open PySem.W PySem.Calls PyProof.Rows PySem.HandSPX
end RLX
end PySem

set_option maxHeartbeats 2000000
namespace RL
open PySem L2 PySem.Spec PyProof.Rows Builtin Builtin.ObjectAttr
def xcB (K : PySem.W.Frag) (C : Addr) (bmB : List Value) (nid : String) : Bool :=
  PySem.W.excInitIn K C bmB nid && PySem.W.excOver K C bmB && PySem.W.hasDictIn K C && PySem.W.keepIn K (.ref C) && (PySem.W.clsIn K C).isSome &&
  decide (PySem.W.findIn K (.ref C) "__setattr__" = some (some (.builtin "object.__setattr__"))) &&
  decide (PySem.W.findIn K (.ref C) "__getattribute__" = some (some (.builtin "BaseException.__getattribute__"))) &&
  decide (PySem.W.findIn K (.ref C) "__getattr__" = some none) &&
  decide (PySem.W.findIn K (.ref C) "__class__" = some (some (.builtin "object.__class__"))) &&
  decide (PySem.W.subIn K (.ref C) (.type "BaseException") = some true) && decide (PySem.W.mroIn K C (.type "object") = some true) &&
  decide (PySem.W.findIn K (.ref C) "given" = some none) && decide (PySem.W.findIn K (.ref C) "index" = some none) && decide (PySem.W.findIn K (.ref C) "most" = some none)
end RL

set_option maxHeartbeats 1000000
namespace RL
open PySem L2 PySem.Spec PyProof.Rows
end RL

set_option maxHeartbeats 1000000
namespace RL
open PySem L2 PySem.Spec PyProof.Rows PySem.Builtin.Str
end RL

set_option maxHeartbeats 1000000
namespace RL
open PySem L2
end RL

set_option maxHeartbeats 2000000
namespace RL
open PySem L2 PySem.Spec PyProof.Rows
end RL

set_option maxHeartbeats 2000000
namespace RL
open PySem L2 PySem.Spec PyProof.Rows
end RL

set_option maxHeartbeats 2000000
namespace RL
open PySem L2 PySem.Spec PyProof.Rows
end RL

set_option maxHeartbeats 2000000
namespace RL
open PySem L2 PySem.Spec PyProof.Rows
end RL

set_option maxHeartbeats 2000000
namespace RL
open PySem L2 PySem.Spec PyProof.Rows
end RL

namespace RL
open PySem L2 PySem.Spec PyProof.Rows
end RL

set_option maxHeartbeats 2000000
namespace RL
open PySem L2 PySem.Spec PyProof.Rows
section
variable {P : Program} {w : World} {K : PySem.W.Frag} {mg : Str → Option Value} {base : Heap}
abbrev s_law_cell : Stmt := top 88
abbrev s_law_src : Stmt := top 89
abbrev s_law_pick : Stmt := top 90
end
end RL

set_option maxHeartbeats 2000000
namespace RL
open PySem L2 PySem.Spec PyProof.Rows PySem.SeqAt PySem.MeetsSeq
open AutoSeq1 (wpAny_loadPart')
end RL

set_option maxHeartbeats 2000000
namespace RL
open PySem L2 PySem.Spec PyProof.Rows
end RL

namespace RL
end RL

namespace RL
end RL

set_option maxHeartbeats 2000000
namespace RL
open PySem L2 PySem.Spec PyProof.Rows
end RL

set_option maxHeartbeats 2000000
namespace RL
open PySem L2 PySem.Spec PyProof.Rows
end RL

set_option maxHeartbeats 2000000
namespace RL
open PySem L2 PySem.Spec PyProof.Rows
end RL

set_option maxHeartbeats 2000000
namespace RL
open PySem L2 PySem.Spec PyProof.Rows
end RL

set_option maxHeartbeats 2000000
namespace RL
open PySem L2 PySem.Spec PyProof.Rows
end RL

set_option maxHeartbeats 4000000
namespace RL
open PySem L2 PySem.Spec PyProof.Rows
section
variable {P : Program} {w : World} {K : PySem.W.Frag} {mg : Str → Option Value} {base : Heap} {tG t1 t3 tC tK : Tok} {aO aW aCh : Addr}
abbrev s_law_anyrow : Stmt := top 91
end
end RL

set_option maxHeartbeats 4000000
namespace RL
open PySem L2 PySem.Spec PyProof.Rows
end RL

set_option maxHeartbeats 4000000
namespace RL
open PySem L2 PySem.Spec PyProof.Rows
end RL

set_option maxHeartbeats 1000000
namespace RL
open PySem L2 PySem.Spec PyProof.Rows
section
variable {P : Program} {w : World} {K : PySem.W.Frag} {mg : Str → Option Value} {base : Heap} {tG t1 t2 t3 : Tok} {aO aW J C fP fJ : Addr} {fdJ : FuncData}
abbrev s_Pattern_init : Stmt := inClass (top 46) 0
end
end RL

set_option maxHeartbeats 2000000
namespace RL
open PySem L2 PySem.Spec PyProof.Rows
section
variable {P : Program} {w : World} {K : PySem.W.Frag} {mg : Str → Option Value} {base : Heap} {tG t1 t2 t3 : Tok} {aO aW J C fP fJ : Addr} {fdJ : FuncData}
abbrev s_Pattern_read : Stmt := inClass (top 46) 10
abbrev s_Pattern_pieces : Stmt := inClass (top 46) 2
abbrev s_check_pattern : Stmt := top 55
abbrev s_law_text : Stmt := top 92
abbrev s_law_pat : Stmt := top 93
end
end RL

set_option maxHeartbeats 2000000
namespace RL
open PySem L2 PySem.Spec PyProof.Rows
end RL

namespace RL
open PySem L2 PySem.Spec PyProof.Rows PySem.SeqAt
end RL
namespace RL
open PySem L2 PySem.Spec PyProof.Rows
end RL

set_option maxHeartbeats 2000000
namespace RL
open PySem L2 PySem.Spec PyProof.Rows
def upF (j : Nat) : Nat := if j < 9 then 0 else if j < 11 then 1 else 2
def tbF (j i : Nat) : Bool := (i == j) || (i == 15 + upF j)
section
variable {P : Program} {w : World} {K : PySem.W.Frag} {mg : Str → Option Value} {base : Heap} {c : Nat → Addr}
abbrev s_law_error : Stmt := top 97
end
end RL

set_option maxHeartbeats 2000000
namespace RL
open PySem L2 PySem.Spec PyProof.Rows
abbrev s_law_told : Stmt := top 98
end RL

set_option maxHeartbeats 2000000
namespace RL
open PySem L2 PySem.Spec PyProof.Rows
def cF (cs : List Addr) (i : Nat) : Addr := cs.getD i 0
def rowBF (K : PySem.W.Frag) (cs : List Addr) (j : Nat) : Bool := (List.range 18).all fun i => decide (PySem.W.kitOne K (.ref (cF cs j)) (.ref (cF cs i)) = some (tbF j i))
section
variable {P : Program} {w : World} {K : PySem.W.Frag} {mg : Str → Option Value} {base : Heap}
abbrev s_WrongValue_init : Stmt := inClass (top 23) 0
abbrev s_WrongName_init : Stmt := inClass (top 35) 0
abbrev s_NotAPattern_init : Stmt := inClass (top 24) 0
abbrev s_InvalidName_init : Stmt := inClass (top 30) 0
abbrev s_UnknownName_init : Stmt := inClass (top 36) 0
end
end RL

set_option maxHeartbeats 2000000
namespace RL
open PySem L2 PySem.Spec PyProof.Rows
end RL

set_option maxHeartbeats 2000000
namespace RL
open PySem L2 PySem.Spec PyProof.Rows
end RL

namespace RL
open PySem L2 PySem.Spec PyProof.Rows
end RL

set_option maxHeartbeats 4000000
namespace RL
open PySem L2 PySem.Spec PyProof.Rows
end RL

set_option maxHeartbeats 2000000
namespace RL
open PySem L2 PySem.Spec PyProof.Rows
end RL

set_option maxHeartbeats 1000000
namespace RL
open PySem L2 PySem.Spec PyProof.Rows PySem.W
end RL

set_option maxHeartbeats 1000000
namespace RBo
open PySem PySem.Spec PyProof.Rows
end RBo
namespace RL
open PySem L2 PySem.Spec PyProof.Rows
end RL

set_option maxHeartbeats 2000000
namespace RL
open PySem L2 PySem.Spec PyProof.Rows PySem.Calls
end RL

set_option maxHeartbeats 4000000
namespace RL
open PySem L2 PySem.Spec PyProof.Rows
def lettersS : Str := Str.ofString "abcdefghijklmnopqrstuvwxyz"
section
variable {P : Program} {w : World} {K : PySem.W.Frag} {mg : Str → Option Value} {base : Heap} {tG t1 t2 t3 tLo tLe : Tok} {aO aW J C Cb Cm : Addr}
abbrev s_is_name : Stmt := top 11
abbrev s_law_is_name : Stmt := top 94
end
end RL

set_option maxHeartbeats 4000000
namespace RL
open PySem L2 PySem.Spec PyProof.Rows
end RL

set_option maxHeartbeats 4000000
namespace RL
open PySem L2 PySem.Spec PyProof.Rows
section
variable {P : Program} {w : World} {K : PySem.W.Frag} {mg : Str → Option Value} {base : Heap} {tG t1 t2 t3 tLo tLe : Tok} {aO aW J C Cb Cm fM gC : Addr} {fdM fdC : FuncData}
abbrev s_Moment_init : Stmt := inClass (top 85) 0
end
end RL

set_option maxHeartbeats 4000000
namespace RL
open PySem L2 PySem.Spec PyProof.Rows
section
variable {P : Program} {w : World} {K : PySem.W.Frag} {mg : Str → Option Value} {base : Heap} {tG t1 t2 t3 tLo tLe : Tok} {aO aW J C Cb Cm fM gC : Addr} {fdM fdC : FuncData}
abbrev s_Bench_init : Stmt := inClass (top 86) 0
abbrev s_Bench_contains : Stmt := inClass (top 86) 3
abbrev s_Bench_len : Stmt := inClass (top 86) 4
abbrev s_Bench_names : Stmt := inClass (top 86) 6
abbrev s_Bench_claims : Stmt := inClass (top 86) 7
abbrev s_Bench_changes : Stmt := inClass (top 86) 8
abbrev s_Bench_change : Stmt := inClass (top 86) 12
abbrev s_Bench_getitem : Stmt := inClass (top 86) 2
end
end RL

set_option maxHeartbeats 4000000
namespace RL
open PySem L2 PySem.Spec PyProof.Rows
section
variable {P : Program} {w : World} {K : PySem.W.Frag} {mg : Str → Option Value} {base : Heap} {tG t1 t2 t3 tLo tLe : Tok} {aO aW J C Cb Cm fN fC gC gG : Addr} {fdN fdC fdG fdK : FuncData} {c : Nat → Addr}
abbrev s_Bench_setitem : Stmt := inClass (top 86) 1
abbrev s_Bench_drop : Stmt := inClass (top 86) 9
end
end RL

set_option maxHeartbeats 4000000
namespace RL
open PySem L2 PySem.Spec PyProof.Rows
section
variable {P : Program} {w : World} {K : PySem.W.Frag} {mg : Str → Option Value} {base : Heap}
abbrev s_law_anyword : Stmt := top 95
end
end RL

set_option maxHeartbeats 4000000
namespace RL
open PySem L2 PySem.Spec PyProof.Rows
section
variable {P : Program} {w : World} {K : PySem.W.Frag} {mg : Str → Option Value} {base : Heap} {tG t1 t3 tC tK : Tok} {aO aW aCh : Addr}
abbrev s_law_anything : Stmt := top 96
end
end RL

namespace RL
open PySem L2 PySem.Spec PyProof.Rows
end RL

namespace RL
open PySem L2
end RL

set_option maxHeartbeats 4000000
namespace RL
open PySem L2 PySem.Spec PyProof.Rows
section
variable {P : Program} {w : World} {K : PySem.W.Frag} {mg : Str → Option Value} {base : Heap} {tG t1 t2 t3 tLo tLe : Tok} {aO aW J C Cb Cm gS gN gC gG gL pP gP pN gNm pC gCl pH gH : Addr} {fdS fdN fdC fdG fdL fdP fdNm fdCl fdH : FuncData} {c : Nat → Addr}
abbrev s_law_put : Stmt := top 99
abbrev s_law_state_right : Stmt := top 100
end
end RL

set_option maxHeartbeats 4000000
namespace RL
open PySem L2 PySem.Spec PyProof.Rows
section
variable {P : Program} {w : World} {K : PySem.W.Frag} {mg : Str → Option Value} {base : Heap} {tG t1 t2 t3 tLo tLe : Tok} {aO aW J C Cb Cm gGN gDN gC gG pP gP : Addr} {fdGN fdDN fdC fdG fdP : FuncData} {c : Nat → Addr}
abbrev s_law_refused_right : Stmt := top 101
end
end RL

set_option maxHeartbeats 4000000
namespace RL
open PySem L2 PySem.Spec PyProof.Rows
def strG (x v : Str) (K : PySem.W.Frag) : Bool := match PySem.W.nsIn K mainGlobals x with
  | some (some (.str s _)) => decide (s = v)
  | _ => false
section
variable {P : Program} {w : World} {K : PySem.W.Frag} {mg : Str → Option Value} {base : Heap} {tG t1 t2 t3 tLo tLe : Tok} {aO aW J C Cb Cm fB : Addr} {c : Nat → Addr}
abbrev s_law_right : Stmt := top 102
abbrev s_law : Stmt := top 103
end
end RL


namespace RL
open PySem L2
end RL

set_option maxHeartbeats 2000000
namespace RL
open PySem PySem.Spec PyProof.Rows L2 He
abbrev Ad : Type := PySem.W.Frag → Addr
def rcA (a : Ad) (s : String) : Ad := fun K => match PySem.W.recIn K (a K) s with
  | some (.ref f :: _) => f
  | _ => 0
def glA (x : Str) : Ad := fun K => ga K x
def meA (a : Ad) (m : Str) : Ad := fun K => ma K (a K) m
def cdA (a : Ad) : Ad := fun K => match K.lookup (a K) with
  | some ⟨_, _, .func fd, _⟩ => (match fd.code with
    | .ref c => c
    | _ => 0)
  | _ => 0
def tbA (a : Ad) : Ad := fun K => tabOf K (a K)
def intB (x : Str) (i : Int) (K : PySem.W.Frag) : Bool := match PySem.W.nsIn K mainGlobals x with
  | some (some (.int j _)) => decide (j = i)
  | _ => false
def recB (a f : Ad) (s : String) (K : PySem.W.Frag) : Bool := match PySem.W.recIn K (a K) s with
  | some (.ref g :: _) => decide (g = f K)
  | _ => false
def codeB (f : Ad) (q : Str) (K : PySem.W.Frag) : Bool := match K.lookup (f K) with
  | some ⟨_, _, .func fd, _⟩ => PySem.W.codeIn K fd.code q
  | _ => false
def fnV (f : Ad) (K : PySem.W.Frag) : FnV := match K.lookup (f K) with
  | some ⟨_, _, .func fd, _⟩ => some (fd.name, fd.qualname, fd.params, fd.body, fd.scope, fd.globals, fd.closure, fd.defaults, fd.builtins)
  | _ => none
structure DnH where
  at_ : Ad
  name : Str
  qual : Str
  st : Stmt
def DnH.val (d : DnH) : FnV := some (d.name, d.qual, defArgs d.st, .stmts (defBody d.st), defScope d.st, mainGlobals, [], .none, builtinsNs)
def tup2i (a : Ad) (i j : Int) (K : PySem.W.Frag) : Bool := match K.lookup (a K) with
  | some ⟨t, _, .seq vs _, _⟩ => decide (t = .type "tuple") && (match vs.toList with
    | [.int x _, .int y _] => decide (x = i) && decide (y = j)
    | _ => false)
  | _ => false
def tup2s (a : Ad) (i j : Str) (K : PySem.W.Frag) : Bool := match K.lookup (a K) with
  | some ⟨t, _, .seq vs _, _⟩ => decide (t = .type "tuple") && (match vs.toList with
    | [.str x _, .str y _] => decide (x = i) && decide (y = j)
    | _ => false)
  | _ => false
def smA (a : Ad) (m : Str) : Ad := fun K => match PySem.W.findCls K (.ref (a K)) (.type "type") m with
  | some (.get _ (.ref p) _ _) => p
  | _ => 0
def smB (a p : Ad) (m : Str) (K : PySem.W.Frag) : Bool := match PySem.W.findCls K (.ref (a K)) (.type "type") m with
  | some (.get g (.ref q) z (.ref c)) => decide (g = .builtin "staticmethod.__get__") && (decide (q = p K) && (decide (z = .none) && decide (c = a K)))
  | _ => false
def clvB (a f : Ad) (m : Str) (K : PySem.W.Frag) : Bool := match PySem.W.findCls K (.ref (a K)) (.type "type") m with
  | some (.val (.ref q)) => decide (q = f K)
  | _ => false
def tabsZ (g : Addr → Option Obj) (tf : List Ad) (K : PySem.W.Frag) : Bool := tf.all fun p => PySem.W.codeHdIn K (cdA p K) (tbA (cdA p) K) && (match g (tbA (cdA p) K) with
  | some o => emptyTab o
  | none => false)
abbrev AlZ : Type := List FnV × Bool × Bool
def obsK (fn : List DnH) (tf : List Ad) (ex : List (PySem.W.Frag → Bool)) (g : Addr → Option Obj) (K : PySem.W.Frag) : AlZ := (fn.map (fun d => fnV d.at_ K), (ex.all fun e => e K), tabsZ g tf K)
def obsZ (n : List Addr) (fn : List DnH) (tf : List Ad) (ex : List (PySem.W.Frag → Bool)) (g : Addr → Option Obj) : AlZ := obsK fn tf ex g (frT g n)
def valZ (fn : List DnH) : AlZ := (fn.map DnH.val, true, true)
end RL

set_option maxHeartbeats 2000000
namespace RL
open PySem PySem.Spec PyProof.Rows L2 He
abbrev Tz : Type := Ad × List Str
abbrev AlW : Type := AlZ × List (Option (List (Option (Str × Int))))
def obsW (n : List Addr) (fn : List DnH) (tf : List Ad) (ex : List (PySem.W.Frag → Bool)) (ts : List Tz) (g : Addr → Option Obj) : AlW := (obsZ n fn tf ex g, ts.map fun t => dicW (frT g n) (t.1 (frT g n)))
def valW (fn : List DnH) (ts : List Tz) (w : World) : AlW := (valZ fn, ts.map fun t => some (keysIn w.params t.2))
end RL

set_option maxHeartbeats 0
namespace RL
open PySem PySem.Spec PyProof.Rows L2 He
def e0 : PySem.W.Frag → Bool := fun K => intB "GREATEST" 1000000000000 K
def e1 : PySem.W.Frag → Bool := fun K => intB "MOST_OHMS" 12 K
def e2 : PySem.W.Frag → Bool := fun K => intB "MOST_JOINED" 8 K
def A_aO : Ad := glA "OPEN"
def e3 : PySem.W.Frag → Bool := fun K => decide (PySem.W.nsIn K mainGlobals "OPEN" = some (some (.ref (A_aO K))))
def e4 : PySem.W.Frag → Bool := fun K => tup2i A_aO 1 0 K
def A_aW : Ad := glA "WORDS"
def e5 : PySem.W.Frag → Bool := fun K => decide (PySem.W.nsIn K mainGlobals "WORDS" = some (some (.ref (A_aW K))))
def e6 : PySem.W.Frag → Bool := fun K => tup2s A_aW (Str.ofString "rail") (Str.ofString "rung") K
def e7 : PySem.W.Frag → Bool := fun K => intB "LONGEST_NAME" 8 K
def e8 : PySem.W.Frag → Bool := fun K => strG "LETTERS" lettersS K
def e9 : PySem.W.Frag → Bool := fun K => decide (PySem.W.nsIn K mainGlobals "len" = some none)
def e10 : PySem.W.Frag → Bool := fun K => decide (PySem.W.nsIn K mainGlobals "abs" = some none)
def e11 : PySem.W.Frag → Bool := fun K => decide (PySem.W.nsIn K mainGlobals "int" = some none)
def e12 : PySem.W.Frag → Bool := fun K => decide (PySem.W.nsIn K mainGlobals "bool" = some none)
def e13 : PySem.W.Frag → Bool := fun K => decide (PySem.W.nsIn K mainGlobals "tuple" = some none)
def e14 : PySem.W.Frag → Bool := fun K => decide (PySem.W.nsIn K mainGlobals "isinstance" = some none)
def e15 : PySem.W.Frag → Bool := fun K => decide (PySem.W.nsIn K mainGlobals "divmod" = some none)
def e16 : PySem.W.Frag → Bool := fun K => decide (PySem.W.nsIn K mainGlobals "max" = some none)
def e17 : PySem.W.Frag → Bool := fun K => decide (PySem.W.nsIn K mainGlobals "min" = some none)
def e18 : PySem.W.Frag → Bool := fun K => decide (PySem.W.nsIn K mainGlobals "range" = some none)
def e19 : PySem.W.Frag → Bool := fun K => decide (PySem.W.nsIn K mainGlobals "all" = some none)
def e20 : PySem.W.Frag → Bool := fun K => decide (PySem.W.nsIn K mainGlobals "repr" = some none)
def e21 : PySem.W.Frag → Bool := fun K => decide (PySem.W.nsIn K mainGlobals "str" = some none)
def e22 : PySem.W.Frag → Bool := fun K => decide (PySem.W.nsIn K mainGlobals "enumerate" = some none)
def e23 : PySem.W.Frag → Bool := fun K => decide (PySem.W.nsIn K mainGlobals "list" = some none)
def e24 : PySem.W.Frag → Bool := fun K => decide (PySem.W.nsIn K mainGlobals "sorted" = some none)
def e25 : PySem.W.Frag → Bool := fun K => decide (PySem.W.nsIn K mainGlobals "dict" = some none)
def A_Cm : Ad := glA "Moment"
def e26 : PySem.W.Frag → Bool := fun K => decide (PySem.W.nsIn K mainGlobals "Moment" = some (some (.ref (A_Cm K))))
def e27 : PySem.W.Frag → Bool := fun K => PySem.W.plainGet K (A_Cm K) Str.empty
def e28 : PySem.W.Frag → Bool := fun K => PySem.W.hasDictIn K (A_Cm K)
def e29 : PySem.W.Frag → Bool := fun K => PySem.W.plainOver K (A_Cm K)
def e30 : PySem.W.Frag → Bool := fun K => decide (PySem.W.findIn K (.ref (A_Cm K)) "__setattr__" = some (some (.builtin "object.__setattr__")))
def e31 : PySem.W.Frag → Bool := fun K => PySem.W.makesIn K (A_Cm K)
def e32 : PySem.W.Frag → Bool := fun K => PySem.W.keepIn K (.ref (A_Cm K))
def e33 : PySem.W.Frag → Bool := fun K => decide (PySem.W.findIn K (.ref (A_Cm K)) "stored" = some none)
def e34 : PySem.W.Frag → Bool := fun K => decide (PySem.W.findIn K (.ref (A_Cm K)) "stated" = some none)
def e35 : PySem.W.Frag → Bool := fun K => decide (PySem.W.findIn K (.ref (A_Cm K)) "before" = some none)
def e36 : PySem.W.Frag → Bool := fun K => decide (PySem.W.findIn K (.ref (A_Cm K)) "depth" = some none)
def A_Cb : Ad := glA "Bench"
def e37 : PySem.W.Frag → Bool := fun K => decide (PySem.W.nsIn K mainGlobals "Bench" = some (some (.ref (A_Cb K))))
def e38 : PySem.W.Frag → Bool := fun K => PySem.W.plainGet K (A_Cb K) Str.empty
def e39 : PySem.W.Frag → Bool := fun K => PySem.W.hasDictIn K (A_Cb K)
def e40 : PySem.W.Frag → Bool := fun K => PySem.W.plainOver K (A_Cb K)
def e41 : PySem.W.Frag → Bool := fun K => decide (PySem.W.findIn K (.ref (A_Cb K)) "__setattr__" = some (some (.builtin "object.__setattr__")))
def e42 : PySem.W.Frag → Bool := fun K => PySem.W.makesIn K (A_Cb K)
def e43 : PySem.W.Frag → Bool := fun K => PySem.W.keepIn K (.ref (A_Cb K))
def e44 : PySem.W.Frag → Bool := fun K => decide (PySem.W.findIn K (.ref (A_Cb K)) "present" = some none)
def e45 : PySem.W.Frag → Bool := fun K => PySem.W.noSeq K (A_Cb K)
def e46 : PySem.W.Frag → Bool := fun K => decide (PySem.W.findIn K (.ref (A_Cb K)) "__bool__" = some none)
def A_f_is_integer : Ad := glA "is_integer"
def e47 : PySem.W.Frag → Bool := fun K => decide (PySem.W.nsIn K mainGlobals "is_integer" = some (some (.ref (A_f_is_integer K))))
def e48 : PySem.W.Frag → Bool := fun K => codeB A_f_is_integer "is_integer" K
def d0 : DnH := ⟨A_f_is_integer, "is_integer", "is_integer", s_is_integer⟩
def e49 : PySem.W.Frag → Bool := fun K => PySem.W.keepIn K (.ref (A_f_is_integer K))
def A_f_is_integer_within : Ad := glA "is_integer_within"
def e50 : PySem.W.Frag → Bool := fun K => decide (PySem.W.nsIn K mainGlobals "is_integer_within" = some (some (.ref (A_f_is_integer_within K))))
def e51 : PySem.W.Frag → Bool := fun K => codeB A_f_is_integer_within "is_integer_within" K
def d1 : DnH := ⟨A_f_is_integer_within, "is_integer_within", "is_integer_within", s_is_integer_within⟩
def e52 : PySem.W.Frag → Bool := fun K => PySem.W.keepIn K (.ref (A_f_is_integer_within K))
def A_f_is_piece : Ad := glA "is_piece"
def e53 : PySem.W.Frag → Bool := fun K => decide (PySem.W.nsIn K mainGlobals "is_piece" = some (some (.ref (A_f_is_piece K))))
def e54 : PySem.W.Frag → Bool := fun K => codeB A_f_is_piece "is_piece" K
def d2 : DnH := ⟨A_f_is_piece, "is_piece", "is_piece", s_is_piece⟩
def e55 : PySem.W.Frag → Bool := fun K => PySem.W.keepIn K (.ref (A_f_is_piece K))
def A_f_pair_of : Ad := glA "pair_of"
def e56 : PySem.W.Frag → Bool := fun K => decide (PySem.W.nsIn K mainGlobals "pair_of" = some (some (.ref (A_f_pair_of K))))
def e57 : PySem.W.Frag → Bool := fun K => codeB A_f_pair_of "pair_of" K
def d3 : DnH := ⟨A_f_pair_of, "pair_of", "pair_of", s_pair_of⟩
def e58 : PySem.W.Frag → Bool := fun K => PySem.W.keepIn K (.ref (A_f_pair_of K))
def A_f_common_divisor : Ad := glA "common_divisor"
def e59 : PySem.W.Frag → Bool := fun K => decide (PySem.W.nsIn K mainGlobals "common_divisor" = some (some (.ref (A_f_common_divisor K))))
def e60 : PySem.W.Frag → Bool := fun K => codeB A_f_common_divisor "common_divisor" K
def d4 : DnH := ⟨A_f_common_divisor, "common_divisor", "common_divisor", s_common_divisor⟩
def e61 : PySem.W.Frag → Bool := fun K => PySem.W.keepIn K (.ref (A_f_common_divisor K))
def A_f_lowest_terms : Ad := glA "lowest_terms"
def e62 : PySem.W.Frag → Bool := fun K => decide (PySem.W.nsIn K mainGlobals "lowest_terms" = some (some (.ref (A_f_lowest_terms K))))
def e63 : PySem.W.Frag → Bool := fun K => codeB A_f_lowest_terms "lowest_terms" K
def d5 : DnH := ⟨A_f_lowest_terms, "lowest_terms", "lowest_terms", s_lowest_terms⟩
def e64 : PySem.W.Frag → Bool := fun K => PySem.W.keepIn K (.ref (A_f_lowest_terms K))
def A_f_matrix_and_scale : Ad := glA "matrix_and_scale"
def e65 : PySem.W.Frag → Bool := fun K => decide (PySem.W.nsIn K mainGlobals "matrix_and_scale" = some (some (.ref (A_f_matrix_and_scale K))))
def e66 : PySem.W.Frag → Bool := fun K => codeB A_f_matrix_and_scale "matrix_and_scale" K
def d6 : DnH := ⟨A_f_matrix_and_scale, "matrix_and_scale", "matrix_and_scale", s_matrix_and_scale⟩
def e67 : PySem.W.Frag → Bool := fun K => PySem.W.keepIn K (.ref (A_f_matrix_and_scale K))
def e68 : PySem.W.Frag → Bool := fun K => intB "MOST_PIECES" 4 K
def A_J : Ad := glA "JoinedRow"
def e69 : PySem.W.Frag → Bool := fun K => decide (PySem.W.nsIn K mainGlobals "JoinedRow" = some (some (.ref (A_J K))))
def e70 : PySem.W.Frag → Bool := fun K => PySem.W.plainGet K (A_J K) Str.empty
def e71 : PySem.W.Frag → Bool := fun K => PySem.W.hasDictIn K (A_J K)
def e72 : PySem.W.Frag → Bool := fun K => PySem.W.plainOver K (A_J K)
def e73 : PySem.W.Frag → Bool := fun K => decide (PySem.W.findIn K (.ref (A_J K)) "__setattr__" = some (some (.builtin "object.__setattr__")))
def e74 : PySem.W.Frag → Bool := fun K => PySem.W.makesIn K (A_J K)
def e75 : PySem.W.Frag → Bool := fun K => PySem.W.keepIn K (.ref (A_J K))
def e76 : PySem.W.Frag → Bool := fun K => decide (PySem.W.findIn K (.ref (A_J K)) "row" = some none)
def e77 : PySem.W.Frag → Bool := fun K => decide (PySem.W.findIn K (.ref (A_J K)) "__class__" = some (some (.builtin "object.__class__")))
def e78 : PySem.W.Frag → Bool := fun K => decide (PySem.W.mroIn K (A_J K) (.type "object") = some true)
def e79 : PySem.W.Frag → Bool := fun K => decide (PySem.W.specialIn K (.builtin "object.__class__") "__get__" = some (some (.builtin "getset_descriptor.__get__")))
def e80 : PySem.W.Frag → Bool := fun K => decide (PySem.W.takesIn K (.builtin "object.__class__") = some true)
def A_C : Ad := glA "Pattern"
def e81 : PySem.W.Frag → Bool := fun K => decide (PySem.W.nsIn K mainGlobals "Pattern" = some (some (.ref (A_C K))))
def e82 : PySem.W.Frag → Bool := fun K => PySem.W.plainGet K (A_C K) Str.empty
def e83 : PySem.W.Frag → Bool := fun K => PySem.W.hasDictIn K (A_C K)
def e84 : PySem.W.Frag → Bool := fun K => PySem.W.plainOver K (A_C K)
def e85 : PySem.W.Frag → Bool := fun K => decide (PySem.W.findIn K (.ref (A_C K)) "__setattr__" = some (some (.builtin "object.__setattr__")))
def e86 : PySem.W.Frag → Bool := fun K => PySem.W.makesIn K (A_C K)
def e87 : PySem.W.Frag → Bool := fun K => PySem.W.keepIn K (.ref (A_C K))
def e88 : PySem.W.Frag → Bool := fun K => decide (PySem.W.findIn K (.ref (A_C K)) "row" = some none)
def e89 : PySem.W.Frag → Bool := fun K => decide (PySem.W.findIn K (.ref (A_C K)) "matrix" = some none)
def e90 : PySem.W.Frag → Bool := fun K => decide (PySem.W.findIn K (.ref (A_C K)) "scale" = some none)
def e91 : PySem.W.Frag → Bool := fun K => decide (PySem.W.findIn K (.ref (A_C K)) "four" = some none)
def e92 : PySem.W.Frag → Bool := fun K => decide (PySem.W.findIn K (.ref (A_C K)) "__class__" = some (some (.builtin "object.__class__")))
def e93 : PySem.W.Frag → Bool := fun K => decide (PySem.W.mroIn K (A_C K) (.type "object") = some true)
def e94 : PySem.W.Frag → Bool := fun K => decide (PySem.W.kitOne K (.type "tuple") (.ref (A_J K)) = some false)
def e95 : PySem.W.Frag → Bool := fun K => PySem.W.readsIn K (A_C K) (.type "type")
def e96 : PySem.W.Frag → Bool := fun K => decide (PySem.W.specialIn K (.ref (A_C K)) "__getattribute__" = some (some (.builtin "type.__getattribute__")))
def A_f_checked_row : Ad := glA "checked_row"
def e97 : PySem.W.Frag → Bool := fun K => decide (PySem.W.nsIn K mainGlobals "checked_row" = some (some (.ref (A_f_checked_row K))))
def e98 : PySem.W.Frag → Bool := fun K => codeB A_f_checked_row "checked_row" K
def d7 : DnH := ⟨A_f_checked_row, "checked_row", "checked_row", s_checked_row⟩
def e99 : PySem.W.Frag → Bool := fun K => PySem.W.keepIn K (.ref (A_f_checked_row K))
def A_f_lowest_pair : Ad := glA "lowest_pair"
def e100 : PySem.W.Frag → Bool := fun K => decide (PySem.W.nsIn K mainGlobals "lowest_pair" = some (some (.ref (A_f_lowest_pair K))))
def e101 : PySem.W.Frag → Bool := fun K => codeB A_f_lowest_pair "lowest_pair" K
def d8 : DnH := ⟨A_f_lowest_pair, "lowest_pair", "lowest_pair", s_lowest_pair⟩
def e102 : PySem.W.Frag → Bool := fun K => PySem.W.keepIn K (.ref (A_f_lowest_pair K))
def A_f_piece_text : Ad := glA "piece_text"
def e103 : PySem.W.Frag → Bool := fun K => decide (PySem.W.nsIn K mainGlobals "piece_text" = some (some (.ref (A_f_piece_text K))))
def e104 : PySem.W.Frag → Bool := fun K => codeB A_f_piece_text "piece_text" K
def d9 : DnH := ⟨A_f_piece_text, "piece_text", "piece_text", s_piece_text⟩
def e105 : PySem.W.Frag → Bool := fun K => PySem.W.keepIn K (.ref (A_f_piece_text K))
def A_f_piece_with_text : Ad := glA "piece_with_text"
def e106 : PySem.W.Frag → Bool := fun K => decide (PySem.W.nsIn K mainGlobals "piece_with_text" = some (some (.ref (A_f_piece_with_text K))))
def e107 : PySem.W.Frag → Bool := fun K => codeB A_f_piece_with_text "piece_with_text" K
def d10 : DnH := ⟨A_f_piece_with_text, "piece_with_text", "piece_with_text", s_piece_with_text⟩
def e108 : PySem.W.Frag → Bool := fun K => PySem.W.keepIn K (.ref (A_f_piece_with_text K))
def A_f_JoinedRow_init : Ad := meA A_J "__init__"
def e109 : PySem.W.Frag → Bool := fun K => decide (PySem.W.findIn K (.ref (A_J K)) "__init__" = some (some (.ref (A_f_JoinedRow_init K))))
def e110 : PySem.W.Frag → Bool := fun K => PySem.W.isFn K (.ref (A_f_JoinedRow_init K))
def e111 : PySem.W.Frag → Bool := fun K => codeB A_f_JoinedRow_init "JoinedRow.__init__" K
def d11 : DnH := ⟨A_f_JoinedRow_init, "__init__", "JoinedRow.__init__", s_JoinedRow_init⟩
def e112 : PySem.W.Frag → Bool := fun K => PySem.W.keepIn K (.ref (A_f_JoinedRow_init K))
def A_f_Pattern_init : Ad := meA A_C "__init__"
def e113 : PySem.W.Frag → Bool := fun K => decide (PySem.W.findIn K (.ref (A_C K)) "__init__" = some (some (.ref (A_f_Pattern_init K))))
def e114 : PySem.W.Frag → Bool := fun K => PySem.W.isFn K (.ref (A_f_Pattern_init K))
def e115 : PySem.W.Frag → Bool := fun K => codeB A_f_Pattern_init "Pattern.__init__" K
def d12 : DnH := ⟨A_f_Pattern_init, "__init__", "Pattern.__init__", s_Pattern_init⟩
def e116 : PySem.W.Frag → Bool := fun K => PySem.W.keepIn K (.ref (A_f_Pattern_init K))
def A_pr_Pattern_read : Ad := smA A_C "read"
def e117 : PySem.W.Frag → Bool := fun K => smB A_C A_pr_Pattern_read "read" K
def A_f_Pattern_read : Ad := rcA A_pr_Pattern_read "staticmethod"
def e118 : PySem.W.Frag → Bool := fun K => recB A_pr_Pattern_read A_f_Pattern_read "staticmethod" K
def e119 : PySem.W.Frag → Bool := fun K => codeB A_f_Pattern_read "Pattern.read" K
def d13 : DnH := ⟨A_f_Pattern_read, "read", "Pattern.read", s_Pattern_read⟩
def e120 : PySem.W.Frag → Bool := fun K => PySem.W.keepIn K (.ref (A_f_Pattern_read K))
def A_pr_Pattern_pieces : Ad := meA A_C "pieces"
def e121 : PySem.W.Frag → Bool := fun K => decide (PySem.W.findIn K (.ref (A_C K)) "pieces" = some (some (.ref (A_pr_Pattern_pieces K))))
def e122 : PySem.W.Frag → Bool := fun K => decide (PySem.W.specialIn K (.ref (A_pr_Pattern_pieces K)) "__get__" = some (some (.builtin "property.__get__")))
def e123 : PySem.W.Frag → Bool := fun K => decide (PySem.W.takesIn K (.ref (A_pr_Pattern_pieces K)) = some true)
def A_f_Pattern_pieces : Ad := rcA A_pr_Pattern_pieces "property"
def e124 : PySem.W.Frag → Bool := fun K => recB A_pr_Pattern_pieces A_f_Pattern_pieces "property" K
def e125 : PySem.W.Frag → Bool := fun K => codeB A_f_Pattern_pieces "Pattern.pieces" K
def d14 : DnH := ⟨A_f_Pattern_pieces, "pieces", "Pattern.pieces", s_Pattern_pieces⟩
def e126 : PySem.W.Frag → Bool := fun K => PySem.W.keepIn K (.ref (A_f_Pattern_pieces K))
def e127 : PySem.W.Frag → Bool := fun K => decide (PySem.W.kitOne K (.type "NoneType") (.ref (A_C K)) = some false)
def e128 : PySem.W.Frag → Bool := fun K => decide (PySem.W.kitOne K (.type "bool") (.ref (A_C K)) = some false)
def e129 : PySem.W.Frag → Bool := fun K => decide (PySem.W.kitOne K (.type "int") (.ref (A_C K)) = some false)
def e130 : PySem.W.Frag → Bool := fun K => decide (PySem.W.kitOne K (.type "str") (.ref (A_C K)) = some false)
def e131 : PySem.W.Frag → Bool := fun K => decide (PySem.W.kitOne K (.type "list") (.ref (A_C K)) = some false)
def e132 : PySem.W.Frag → Bool := fun K => decide (PySem.W.kitOne K (.type "dict") (.ref (A_C K)) = some false)
def e133 : PySem.W.Frag → Bool := fun K => decide (PySem.W.kitOne K (.type "tuple") (.ref (A_C K)) = some false)
def A_f_check_pattern : Ad := glA "check_pattern"
def e134 : PySem.W.Frag → Bool := fun K => decide (PySem.W.nsIn K mainGlobals "check_pattern" = some (some (.ref (A_f_check_pattern K))))
def e135 : PySem.W.Frag → Bool := fun K => codeB A_f_check_pattern "check_pattern" K
def d15 : DnH := ⟨A_f_check_pattern, "check_pattern", "check_pattern", s_check_pattern⟩
def e136 : PySem.W.Frag → Bool := fun K => PySem.W.keepIn K (.ref (A_f_check_pattern K))
def A_f_is_name : Ad := glA "is_name"
def e137 : PySem.W.Frag → Bool := fun K => decide (PySem.W.nsIn K mainGlobals "is_name" = some (some (.ref (A_f_is_name K))))
def e138 : PySem.W.Frag → Bool := fun K => codeB A_f_is_name "is_name" K
def d16 : DnH := ⟨A_f_is_name, "is_name", "is_name", s_is_name⟩
def e139 : PySem.W.Frag → Bool := fun K => PySem.W.keepIn K (.ref (A_f_is_name K))
def A_X0 : Ad := glA "NotAPattern"
def e140 : PySem.W.Frag → Bool := fun K => decide (PySem.W.nsIn K mainGlobals "NotAPattern" = some (some (.ref (A_X0 K))))
def A_X1 : Ad := glA "NotARun"
def e141 : PySem.W.Frag → Bool := fun K => decide (PySem.W.nsIn K mainGlobals "NotARun" = some (some (.ref (A_X1 K))))
def A_X2 : Ad := glA "InvalidResistance"
def e142 : PySem.W.Frag → Bool := fun K => decide (PySem.W.nsIn K mainGlobals "InvalidResistance" = some (some (.ref (A_X2 K))))
def A_X3 : Ad := glA "InvalidCount"
def e143 : PySem.W.Frag → Bool := fun K => decide (PySem.W.nsIn K mainGlobals "InvalidCount" = some (some (.ref (A_X3 K))))
def A_X4 : Ad := glA "InvalidText"
def e144 : PySem.W.Frag → Bool := fun K => decide (PySem.W.nsIn K mainGlobals "InvalidText" = some (some (.ref (A_X4 K))))
def A_X5 : Ad := glA "InvalidName"
def e145 : PySem.W.Frag → Bool := fun K => decide (PySem.W.nsIn K mainGlobals "InvalidName" = some (some (.ref (A_X5 K))))
def A_X6 : Ad := glA "InvalidClaim"
def e146 : PySem.W.Frag → Bool := fun K => decide (PySem.W.nsIn K mainGlobals "InvalidClaim" = some (some (.ref (A_X6 K))))
def A_X7 : Ad := glA "InvalidIndex"
def e147 : PySem.W.Frag → Bool := fun K => decide (PySem.W.nsIn K mainGlobals "InvalidIndex" = some (some (.ref (A_X7 K))))
def A_X8 : Ad := glA "InvalidDeeds"
def e148 : PySem.W.Frag → Bool := fun K => decide (PySem.W.nsIn K mainGlobals "InvalidDeeds" = some (some (.ref (A_X8 K))))
def A_X9 : Ad := glA "UnknownName"
def e149 : PySem.W.Frag → Bool := fun K => decide (PySem.W.nsIn K mainGlobals "UnknownName" = some (some (.ref (A_X9 K))))
def A_X10 : Ad := glA "InUse"
def e150 : PySem.W.Frag → Bool := fun K => decide (PySem.W.nsIn K mainGlobals "InUse" = some (some (.ref (A_X10 K))))
def A_X11 : Ad := glA "TooMany"
def e151 : PySem.W.Frag → Bool := fun K => decide (PySem.W.nsIn K mainGlobals "TooMany" = some (some (.ref (A_X11 K))))
def A_X12 : Ad := glA "Broken"
def e152 : PySem.W.Frag → Bool := fun K => decide (PySem.W.nsIn K mainGlobals "Broken" = some (some (.ref (A_X12 K))))
def A_X13 : Ad := glA "NoLimit"
def e153 : PySem.W.Frag → Bool := fun K => decide (PySem.W.nsIn K mainGlobals "NoLimit" = some (some (.ref (A_X13 K))))
def A_X14 : Ad := glA "NothingToUndo"
def e154 : PySem.W.Frag → Bool := fun K => decide (PySem.W.nsIn K mainGlobals "NothingToUndo" = some (some (.ref (A_X14 K))))
def A_X15 : Ad := glA "WrongValue"
def e155 : PySem.W.Frag → Bool := fun K => decide (PySem.W.nsIn K mainGlobals "WrongValue" = some (some (.ref (A_X15 K))))
def A_X16 : Ad := glA "WrongName"
def e156 : PySem.W.Frag → Bool := fun K => decide (PySem.W.nsIn K mainGlobals "WrongName" = some (some (.ref (A_X16 K))))
def A_X17 : Ad := glA "NoAnswer"
def e157 : PySem.W.Frag → Bool := fun K => decide (PySem.W.nsIn K mainGlobals "NoAnswer" = some (some (.ref (A_X17 K))))
def A_f_WrongValue_init : Ad := meA A_X15 "__init__"
def e158 : PySem.W.Frag → Bool := fun K => decide (PySem.W.findIn K (.ref (A_X15 K)) "__init__" = some (some (.ref (A_f_WrongValue_init K))))
def e159 : PySem.W.Frag → Bool := fun K => PySem.W.isFn K (.ref (A_f_WrongValue_init K))
def e160 : PySem.W.Frag → Bool := fun K => codeB A_f_WrongValue_init "WrongValue.__init__" K
def d17 : DnH := ⟨A_f_WrongValue_init, "__init__", "WrongValue.__init__", s_WrongValue_init⟩
def e161 : PySem.W.Frag → Bool := fun K => PySem.W.keepIn K (.ref (A_f_WrongValue_init K))
def e162 : PySem.W.Frag → Bool := fun K => PySem.W.readsIn K (A_X15 K) (.type "type")
def e163 : PySem.W.Frag → Bool := fun K => decide (PySem.W.specialIn K (.ref (A_X15 K)) "__getattribute__" = some (some (.builtin "type.__getattribute__")))
def e164 : PySem.W.Frag → Bool := fun K => clvB A_X15 A_f_WrongValue_init "__init__" K
def A_f_WrongName_init : Ad := meA A_X16 "__init__"
def e165 : PySem.W.Frag → Bool := fun K => decide (PySem.W.findIn K (.ref (A_X16 K)) "__init__" = some (some (.ref (A_f_WrongName_init K))))
def e166 : PySem.W.Frag → Bool := fun K => PySem.W.isFn K (.ref (A_f_WrongName_init K))
def e167 : PySem.W.Frag → Bool := fun K => codeB A_f_WrongName_init "WrongName.__init__" K
def d18 : DnH := ⟨A_f_WrongName_init, "__init__", "WrongName.__init__", s_WrongName_init⟩
def e168 : PySem.W.Frag → Bool := fun K => PySem.W.keepIn K (.ref (A_f_WrongName_init K))
def e169 : PySem.W.Frag → Bool := fun K => PySem.W.readsIn K (A_X16 K) (.type "type")
def e170 : PySem.W.Frag → Bool := fun K => decide (PySem.W.specialIn K (.ref (A_X16 K)) "__getattribute__" = some (some (.builtin "type.__getattribute__")))
def e171 : PySem.W.Frag → Bool := fun K => clvB A_X16 A_f_WrongName_init "__init__" K
def A_f_NotAPattern_init : Ad := meA A_X0 "__init__"
def e172 : PySem.W.Frag → Bool := fun K => decide (PySem.W.findIn K (.ref (A_X0 K)) "__init__" = some (some (.ref (A_f_NotAPattern_init K))))
def e173 : PySem.W.Frag → Bool := fun K => PySem.W.isFn K (.ref (A_f_NotAPattern_init K))
def e174 : PySem.W.Frag → Bool := fun K => codeB A_f_NotAPattern_init "NotAPattern.__init__" K
def d19 : DnH := ⟨A_f_NotAPattern_init, "__init__", "NotAPattern.__init__", s_NotAPattern_init⟩
def e175 : PySem.W.Frag → Bool := fun K => PySem.W.keepIn K (.ref (A_f_NotAPattern_init K))
def e176 : PySem.W.Frag → Bool := fun K => xcB K (A_X0 K) [.type "ValueError", .type "Exception", .type "BaseException", .type "object"] "ValueError.__new__"
def e177 : PySem.W.Frag → Bool := fun K => rowBF K [(A_X0 K), (A_X1 K), (A_X2 K), (A_X3 K), (A_X4 K), (A_X5 K), (A_X6 K), (A_X7 K), (A_X8 K), (A_X9 K), (A_X10 K), (A_X11 K), (A_X12 K), (A_X13 K), (A_X14 K), (A_X15 K), (A_X16 K), (A_X17 K)] 0
def e178 : PySem.W.Frag → Bool := fun K => decide (PySem.W.exmAny K (.ref (A_X0 K)) [.ref (A_X15 K), .ref (A_X16 K), .ref (A_X17 K)] = some true)
def e179 : PySem.W.Frag → Bool := fun K => decide (PySem.W.typeIn K (.ref (A_X0 K)) = some (.type "type"))
def e180 : PySem.W.Frag → Bool := fun K => decide (PySem.W.findIn K (.ref (A_X0 K)) "given" = some none)
def A_f_InvalidName_init : Ad := meA A_X5 "__init__"
def e181 : PySem.W.Frag → Bool := fun K => decide (PySem.W.findIn K (.ref (A_X5 K)) "__init__" = some (some (.ref (A_f_InvalidName_init K))))
def e182 : PySem.W.Frag → Bool := fun K => PySem.W.isFn K (.ref (A_f_InvalidName_init K))
def e183 : PySem.W.Frag → Bool := fun K => codeB A_f_InvalidName_init "InvalidName.__init__" K
def d20 : DnH := ⟨A_f_InvalidName_init, "__init__", "InvalidName.__init__", s_InvalidName_init⟩
def e184 : PySem.W.Frag → Bool := fun K => PySem.W.keepIn K (.ref (A_f_InvalidName_init K))
def e185 : PySem.W.Frag → Bool := fun K => xcB K (A_X5 K) [.type "ValueError", .type "Exception", .type "BaseException", .type "object"] "ValueError.__new__"
def e186 : PySem.W.Frag → Bool := fun K => rowBF K [(A_X0 K), (A_X1 K), (A_X2 K), (A_X3 K), (A_X4 K), (A_X5 K), (A_X6 K), (A_X7 K), (A_X8 K), (A_X9 K), (A_X10 K), (A_X11 K), (A_X12 K), (A_X13 K), (A_X14 K), (A_X15 K), (A_X16 K), (A_X17 K)] 5
def e187 : PySem.W.Frag → Bool := fun K => decide (PySem.W.exmAny K (.ref (A_X5 K)) [.ref (A_X15 K), .ref (A_X16 K), .ref (A_X17 K)] = some true)
def e188 : PySem.W.Frag → Bool := fun K => decide (PySem.W.typeIn K (.ref (A_X5 K)) = some (.type "type"))
def e189 : PySem.W.Frag → Bool := fun K => decide (PySem.W.findIn K (.ref (A_X5 K)) "given" = some none)
def A_f_UnknownName_init : Ad := meA A_X9 "__init__"
def e190 : PySem.W.Frag → Bool := fun K => decide (PySem.W.findIn K (.ref (A_X9 K)) "__init__" = some (some (.ref (A_f_UnknownName_init K))))
def e191 : PySem.W.Frag → Bool := fun K => PySem.W.isFn K (.ref (A_f_UnknownName_init K))
def e192 : PySem.W.Frag → Bool := fun K => codeB A_f_UnknownName_init "UnknownName.__init__" K
def d21 : DnH := ⟨A_f_UnknownName_init, "__init__", "UnknownName.__init__", s_UnknownName_init⟩
def e193 : PySem.W.Frag → Bool := fun K => PySem.W.keepIn K (.ref (A_f_UnknownName_init K))
def e194 : PySem.W.Frag → Bool := fun K => xcB K (A_X9 K) [.type "LookupError", .type "Exception", .type "BaseException", .type "object"] "LookupError.__new__"
def e195 : PySem.W.Frag → Bool := fun K => rowBF K [(A_X0 K), (A_X1 K), (A_X2 K), (A_X3 K), (A_X4 K), (A_X5 K), (A_X6 K), (A_X7 K), (A_X8 K), (A_X9 K), (A_X10 K), (A_X11 K), (A_X12 K), (A_X13 K), (A_X14 K), (A_X15 K), (A_X16 K), (A_X17 K)] 9
def e196 : PySem.W.Frag → Bool := fun K => decide (PySem.W.exmAny K (.ref (A_X9 K)) [.ref (A_X15 K), .ref (A_X16 K), .ref (A_X17 K)] = some true)
def e197 : PySem.W.Frag → Bool := fun K => decide (PySem.W.typeIn K (.ref (A_X9 K)) = some (.type "type"))
def e198 : PySem.W.Frag → Bool := fun K => decide (PySem.W.findIn K (.ref (A_X9 K)) "given" = some none)
def A_f_law_error : Ad := glA "_law_error"
def e199 : PySem.W.Frag → Bool := fun K => decide (PySem.W.nsIn K mainGlobals "_law_error" = some (some (.ref (A_f_law_error K))))
def e200 : PySem.W.Frag → Bool := fun K => codeB A_f_law_error "_law_error" K
def d22 : DnH := ⟨A_f_law_error, "_law_error", "_law_error", s_law_error⟩
def e201 : PySem.W.Frag → Bool := fun K => PySem.W.keepIn K (.ref (A_f_law_error K))
def A_f_law_told : Ad := glA "_law_told"
def e202 : PySem.W.Frag → Bool := fun K => decide (PySem.W.nsIn K mainGlobals "_law_told" = some (some (.ref (A_f_law_told K))))
def e203 : PySem.W.Frag → Bool := fun K => codeB A_f_law_told "_law_told" K
def d23 : DnH := ⟨A_f_law_told, "_law_told", "_law_told", s_law_told⟩
def e204 : PySem.W.Frag → Bool := fun K => PySem.W.keepIn K (.ref (A_f_law_told K))
def A_f_Moment_init : Ad := meA A_Cm "__init__"
def e205 : PySem.W.Frag → Bool := fun K => decide (PySem.W.findIn K (.ref (A_Cm K)) "__init__" = some (some (.ref (A_f_Moment_init K))))
def e206 : PySem.W.Frag → Bool := fun K => PySem.W.isFn K (.ref (A_f_Moment_init K))
def e207 : PySem.W.Frag → Bool := fun K => codeB A_f_Moment_init "Moment.__init__" K
def d24 : DnH := ⟨A_f_Moment_init, "__init__", "Moment.__init__", s_Moment_init⟩
def e208 : PySem.W.Frag → Bool := fun K => PySem.W.keepIn K (.ref (A_f_Moment_init K))
def A_f_Bench_init : Ad := meA A_Cb "__init__"
def e209 : PySem.W.Frag → Bool := fun K => decide (PySem.W.findIn K (.ref (A_Cb K)) "__init__" = some (some (.ref (A_f_Bench_init K))))
def e210 : PySem.W.Frag → Bool := fun K => PySem.W.isFn K (.ref (A_f_Bench_init K))
def e211 : PySem.W.Frag → Bool := fun K => codeB A_f_Bench_init "Bench.__init__" K
def d25 : DnH := ⟨A_f_Bench_init, "__init__", "Bench.__init__", s_Bench_init⟩
def e212 : PySem.W.Frag → Bool := fun K => PySem.W.keepIn K (.ref (A_f_Bench_init K))
def A_f_Bench_contains : Ad := meA A_Cb "__contains__"
def e213 : PySem.W.Frag → Bool := fun K => decide (PySem.W.findIn K (.ref (A_Cb K)) "__contains__" = some (some (.ref (A_f_Bench_contains K))))
def e214 : PySem.W.Frag → Bool := fun K => PySem.W.isFn K (.ref (A_f_Bench_contains K))
def e215 : PySem.W.Frag → Bool := fun K => codeB A_f_Bench_contains "Bench.__contains__" K
def d26 : DnH := ⟨A_f_Bench_contains, "__contains__", "Bench.__contains__", s_Bench_contains⟩
def e216 : PySem.W.Frag → Bool := fun K => PySem.W.keepIn K (.ref (A_f_Bench_contains K))
def A_f_Bench_len : Ad := meA A_Cb "__len__"
def e217 : PySem.W.Frag → Bool := fun K => decide (PySem.W.findIn K (.ref (A_Cb K)) "__len__" = some (some (.ref (A_f_Bench_len K))))
def e218 : PySem.W.Frag → Bool := fun K => PySem.W.isFn K (.ref (A_f_Bench_len K))
def e219 : PySem.W.Frag → Bool := fun K => codeB A_f_Bench_len "Bench.__len__" K
def d27 : DnH := ⟨A_f_Bench_len, "__len__", "Bench.__len__", s_Bench_len⟩
def e220 : PySem.W.Frag → Bool := fun K => PySem.W.keepIn K (.ref (A_f_Bench_len K))
def A_pr_Bench_names : Ad := meA A_Cb "names"
def e221 : PySem.W.Frag → Bool := fun K => decide (PySem.W.findIn K (.ref (A_Cb K)) "names" = some (some (.ref (A_pr_Bench_names K))))
def e222 : PySem.W.Frag → Bool := fun K => decide (PySem.W.specialIn K (.ref (A_pr_Bench_names K)) "__get__" = some (some (.builtin "property.__get__")))
def e223 : PySem.W.Frag → Bool := fun K => decide (PySem.W.takesIn K (.ref (A_pr_Bench_names K)) = some true)
def A_f_Bench_names : Ad := rcA A_pr_Bench_names "property"
def e224 : PySem.W.Frag → Bool := fun K => recB A_pr_Bench_names A_f_Bench_names "property" K
def e225 : PySem.W.Frag → Bool := fun K => codeB A_f_Bench_names "Bench.names" K
def d28 : DnH := ⟨A_f_Bench_names, "names", "Bench.names", s_Bench_names⟩
def e226 : PySem.W.Frag → Bool := fun K => PySem.W.keepIn K (.ref (A_f_Bench_names K))
def A_pr_Bench_claims : Ad := meA A_Cb "claims"
def e227 : PySem.W.Frag → Bool := fun K => decide (PySem.W.findIn K (.ref (A_Cb K)) "claims" = some (some (.ref (A_pr_Bench_claims K))))
def e228 : PySem.W.Frag → Bool := fun K => decide (PySem.W.specialIn K (.ref (A_pr_Bench_claims K)) "__get__" = some (some (.builtin "property.__get__")))
def e229 : PySem.W.Frag → Bool := fun K => decide (PySem.W.takesIn K (.ref (A_pr_Bench_claims K)) = some true)
def A_f_Bench_claims : Ad := rcA A_pr_Bench_claims "property"
def e230 : PySem.W.Frag → Bool := fun K => recB A_pr_Bench_claims A_f_Bench_claims "property" K
def e231 : PySem.W.Frag → Bool := fun K => codeB A_f_Bench_claims "Bench.claims" K
def d29 : DnH := ⟨A_f_Bench_claims, "claims", "Bench.claims", s_Bench_claims⟩
def e232 : PySem.W.Frag → Bool := fun K => PySem.W.keepIn K (.ref (A_f_Bench_claims K))
def A_pr_Bench_changes : Ad := meA A_Cb "changes"
def e233 : PySem.W.Frag → Bool := fun K => decide (PySem.W.findIn K (.ref (A_Cb K)) "changes" = some (some (.ref (A_pr_Bench_changes K))))
def e234 : PySem.W.Frag → Bool := fun K => decide (PySem.W.specialIn K (.ref (A_pr_Bench_changes K)) "__get__" = some (some (.builtin "property.__get__")))
def e235 : PySem.W.Frag → Bool := fun K => decide (PySem.W.takesIn K (.ref (A_pr_Bench_changes K)) = some true)
def A_f_Bench_changes : Ad := rcA A_pr_Bench_changes "property"
def e236 : PySem.W.Frag → Bool := fun K => recB A_pr_Bench_changes A_f_Bench_changes "property" K
def e237 : PySem.W.Frag → Bool := fun K => codeB A_f_Bench_changes "Bench.changes" K
def d30 : DnH := ⟨A_f_Bench_changes, "changes", "Bench.changes", s_Bench_changes⟩
def e238 : PySem.W.Frag → Bool := fun K => PySem.W.keepIn K (.ref (A_f_Bench_changes K))
def A_f_Bench_change : Ad := meA A_Cb "change"
def e239 : PySem.W.Frag → Bool := fun K => decide (PySem.W.findIn K (.ref (A_Cb K)) "change" = some (some (.ref (A_f_Bench_change K))))
def e240 : PySem.W.Frag → Bool := fun K => PySem.W.isFn K (.ref (A_f_Bench_change K))
def e241 : PySem.W.Frag → Bool := fun K => codeB A_f_Bench_change "Bench.change" K
def d31 : DnH := ⟨A_f_Bench_change, "change", "Bench.change", s_Bench_change⟩
def e242 : PySem.W.Frag → Bool := fun K => PySem.W.keepIn K (.ref (A_f_Bench_change K))
def A_f_Bench_setitem : Ad := meA A_Cb "__setitem__"
def e243 : PySem.W.Frag → Bool := fun K => decide (PySem.W.findIn K (.ref (A_Cb K)) "__setitem__" = some (some (.ref (A_f_Bench_setitem K))))
def e244 : PySem.W.Frag → Bool := fun K => PySem.W.isFn K (.ref (A_f_Bench_setitem K))
def e245 : PySem.W.Frag → Bool := fun K => codeB A_f_Bench_setitem "Bench.__setitem__" K
def d32 : DnH := ⟨A_f_Bench_setitem, "__setitem__", "Bench.__setitem__", s_Bench_setitem⟩
def e246 : PySem.W.Frag → Bool := fun K => PySem.W.keepIn K (.ref (A_f_Bench_setitem K))
def e247 : PySem.W.Frag → Bool := fun K => PySem.W.fnIn K (A_f_Bench_setitem K)
def A_f_Bench_getitem : Ad := meA A_Cb "__getitem__"
def e248 : PySem.W.Frag → Bool := fun K => decide (PySem.W.findIn K (.ref (A_Cb K)) "__getitem__" = some (some (.ref (A_f_Bench_getitem K))))
def e249 : PySem.W.Frag → Bool := fun K => PySem.W.isFn K (.ref (A_f_Bench_getitem K))
def e250 : PySem.W.Frag → Bool := fun K => codeB A_f_Bench_getitem "Bench.__getitem__" K
def d33 : DnH := ⟨A_f_Bench_getitem, "__getitem__", "Bench.__getitem__", s_Bench_getitem⟩
def e251 : PySem.W.Frag → Bool := fun K => PySem.W.keepIn K (.ref (A_f_Bench_getitem K))
def e252 : PySem.W.Frag → Bool := fun K => PySem.W.fnIn K (A_f_Bench_getitem K)
def A_f_Bench_drop : Ad := meA A_Cb "drop"
def e253 : PySem.W.Frag → Bool := fun K => decide (PySem.W.findIn K (.ref (A_Cb K)) "drop" = some (some (.ref (A_f_Bench_drop K))))
def e254 : PySem.W.Frag → Bool := fun K => PySem.W.isFn K (.ref (A_f_Bench_drop K))
def e255 : PySem.W.Frag → Bool := fun K => codeB A_f_Bench_drop "Bench.drop" K
def d34 : DnH := ⟨A_f_Bench_drop, "drop", "Bench.drop", s_Bench_drop⟩
def e256 : PySem.W.Frag → Bool := fun K => PySem.W.keepIn K (.ref (A_f_Bench_drop K))
def A_f_law_cell : Ad := glA "_law_cell"
def e257 : PySem.W.Frag → Bool := fun K => decide (PySem.W.nsIn K mainGlobals "_law_cell" = some (some (.ref (A_f_law_cell K))))
def e258 : PySem.W.Frag → Bool := fun K => codeB A_f_law_cell "_law_cell" K
def d35 : DnH := ⟨A_f_law_cell, "_law_cell", "_law_cell", s_law_cell⟩
def e259 : PySem.W.Frag → Bool := fun K => PySem.W.keepIn K (.ref (A_f_law_cell K))
def A_f_law_src : Ad := glA "_law_src"
def e260 : PySem.W.Frag → Bool := fun K => decide (PySem.W.nsIn K mainGlobals "_law_src" = some (some (.ref (A_f_law_src K))))
def e261 : PySem.W.Frag → Bool := fun K => codeB A_f_law_src "_law_src" K
def d36 : DnH := ⟨A_f_law_src, "_law_src", "_law_src", s_law_src⟩
def e262 : PySem.W.Frag → Bool := fun K => PySem.W.keepIn K (.ref (A_f_law_src K))
def A_f_law_pick : Ad := glA "_law_pick"
def e263 : PySem.W.Frag → Bool := fun K => decide (PySem.W.nsIn K mainGlobals "_law_pick" = some (some (.ref (A_f_law_pick K))))
def e264 : PySem.W.Frag → Bool := fun K => codeB A_f_law_pick "_law_pick" K
def d37 : DnH := ⟨A_f_law_pick, "_law_pick", "_law_pick", s_law_pick⟩
def e265 : PySem.W.Frag → Bool := fun K => PySem.W.keepIn K (.ref (A_f_law_pick K))
def A_f_law_anyrow : Ad := glA "_law_anyrow"
def e266 : PySem.W.Frag → Bool := fun K => decide (PySem.W.nsIn K mainGlobals "_law_anyrow" = some (some (.ref (A_f_law_anyrow K))))
def e267 : PySem.W.Frag → Bool := fun K => codeB A_f_law_anyrow "_law_anyrow" K
def d38 : DnH := ⟨A_f_law_anyrow, "_law_anyrow", "_law_anyrow", s_law_anyrow⟩
def e268 : PySem.W.Frag → Bool := fun K => PySem.W.keepIn K (.ref (A_f_law_anyrow K))
def A_f_law_text : Ad := glA "_law_text"
def e269 : PySem.W.Frag → Bool := fun K => decide (PySem.W.nsIn K mainGlobals "_law_text" = some (some (.ref (A_f_law_text K))))
def e270 : PySem.W.Frag → Bool := fun K => codeB A_f_law_text "_law_text" K
def d39 : DnH := ⟨A_f_law_text, "_law_text", "_law_text", s_law_text⟩
def e271 : PySem.W.Frag → Bool := fun K => PySem.W.keepIn K (.ref (A_f_law_text K))
def A_f_law_pat : Ad := glA "_law_pat"
def e272 : PySem.W.Frag → Bool := fun K => decide (PySem.W.nsIn K mainGlobals "_law_pat" = some (some (.ref (A_f_law_pat K))))
def e273 : PySem.W.Frag → Bool := fun K => codeB A_f_law_pat "_law_pat" K
def d40 : DnH := ⟨A_f_law_pat, "_law_pat", "_law_pat", s_law_pat⟩
def e274 : PySem.W.Frag → Bool := fun K => PySem.W.keepIn K (.ref (A_f_law_pat K))
def A_f_law_is_name : Ad := glA "_law_is_name"
def e275 : PySem.W.Frag → Bool := fun K => decide (PySem.W.nsIn K mainGlobals "_law_is_name" = some (some (.ref (A_f_law_is_name K))))
def e276 : PySem.W.Frag → Bool := fun K => codeB A_f_law_is_name "_law_is_name" K
def d41 : DnH := ⟨A_f_law_is_name, "_law_is_name", "_law_is_name", s_law_is_name⟩
def e277 : PySem.W.Frag → Bool := fun K => PySem.W.keepIn K (.ref (A_f_law_is_name K))
def A_f_law_anyword : Ad := glA "_law_anyword"
def e278 : PySem.W.Frag → Bool := fun K => decide (PySem.W.nsIn K mainGlobals "_law_anyword" = some (some (.ref (A_f_law_anyword K))))
def e279 : PySem.W.Frag → Bool := fun K => codeB A_f_law_anyword "_law_anyword" K
def d42 : DnH := ⟨A_f_law_anyword, "_law_anyword", "_law_anyword", s_law_anyword⟩
def e280 : PySem.W.Frag → Bool := fun K => PySem.W.keepIn K (.ref (A_f_law_anyword K))
def A_f_law_anything : Ad := glA "_law_anything"
def e281 : PySem.W.Frag → Bool := fun K => decide (PySem.W.nsIn K mainGlobals "_law_anything" = some (some (.ref (A_f_law_anything K))))
def e282 : PySem.W.Frag → Bool := fun K => codeB A_f_law_anything "_law_anything" K
def d43 : DnH := ⟨A_f_law_anything, "_law_anything", "_law_anything", s_law_anything⟩
def e283 : PySem.W.Frag → Bool := fun K => PySem.W.keepIn K (.ref (A_f_law_anything K))
def A_f_law_put : Ad := glA "_law_put"
def e284 : PySem.W.Frag → Bool := fun K => decide (PySem.W.nsIn K mainGlobals "_law_put" = some (some (.ref (A_f_law_put K))))
def e285 : PySem.W.Frag → Bool := fun K => codeB A_f_law_put "_law_put" K
def d44 : DnH := ⟨A_f_law_put, "_law_put", "_law_put", s_law_put⟩
def e286 : PySem.W.Frag → Bool := fun K => PySem.W.keepIn K (.ref (A_f_law_put K))
def A_f_law_state_right : Ad := glA "_law_state_right"
def e287 : PySem.W.Frag → Bool := fun K => decide (PySem.W.nsIn K mainGlobals "_law_state_right" = some (some (.ref (A_f_law_state_right K))))
def e288 : PySem.W.Frag → Bool := fun K => codeB A_f_law_state_right "_law_state_right" K
def d45 : DnH := ⟨A_f_law_state_right, "_law_state_right", "_law_state_right", s_law_state_right⟩
def e289 : PySem.W.Frag → Bool := fun K => PySem.W.keepIn K (.ref (A_f_law_state_right K))
def A_f_law_refused_right : Ad := glA "_law_refused_right"
def e290 : PySem.W.Frag → Bool := fun K => decide (PySem.W.nsIn K mainGlobals "_law_refused_right" = some (some (.ref (A_f_law_refused_right K))))
def e291 : PySem.W.Frag → Bool := fun K => codeB A_f_law_refused_right "_law_refused_right" K
def d46 : DnH := ⟨A_f_law_refused_right, "_law_refused_right", "_law_refused_right", s_law_refused_right⟩
def e292 : PySem.W.Frag → Bool := fun K => PySem.W.keepIn K (.ref (A_f_law_refused_right K))
def A_PA_law_refused_right : Ad := tbA (cdA A_f_law_refused_right)
def A_f_law_right : Ad := glA "_law_right"
def e293 : PySem.W.Frag → Bool := fun K => decide (PySem.W.nsIn K mainGlobals "_law_right" = some (some (.ref (A_f_law_right K))))
def e294 : PySem.W.Frag → Bool := fun K => codeB A_f_law_right "_law_right" K
def d47 : DnH := ⟨A_f_law_right, "_law_right", "_law_right", s_law_right⟩
def e295 : PySem.W.Frag → Bool := fun K => PySem.W.keepIn K (.ref (A_f_law_right K))
def A_PA_law_right : Ad := tbA (cdA A_f_law_right)
def A_f_law : Ad := glA "law"
def e296 : PySem.W.Frag → Bool := fun K => decide (PySem.W.nsIn K mainGlobals "law" = some (some (.ref (A_f_law K))))
def e297 : PySem.W.Frag → Bool := fun K => codeB A_f_law "law" K
def d48 : DnH := ⟨A_f_law, "law", "law", s_law⟩
def e298 : PySem.W.Frag → Bool := fun K => PySem.W.keepIn K (.ref (A_f_law K))
def A_PA_law : Ad := tbA (cdA A_f_law)
def e299 : PySem.W.Frag → Bool := fun K => decide ((A_PA_law_refused_right K) ≠ (A_PA_law_right K))
def e300 : PySem.W.Frag → Bool := fun K => decide ((A_PA_law_refused_right K) ≠ (A_PA_law K))
def e301 : PySem.W.Frag → Bool := fun K => decide ((A_PA_law_right K) ≠ (A_PA_law_refused_right K))
def e302 : PySem.W.Frag → Bool := fun K => decide ((A_PA_law_right K) ≠ (A_PA_law K))
def e303 : PySem.W.Frag → Bool := fun K => decide ((A_PA_law K) ≠ (A_PA_law_refused_right K))
def e304 : PySem.W.Frag → Bool := fun K => decide ((A_PA_law K) ≠ (A_PA_law_right K))
def exA0 : List (PySem.W.Frag → Bool) := [e0, e1, e2, e3, e4, e5, e6, e7, e8, e9, e10, e11, e12, e13, e14, e15, e16, e17, e18, e19, e20, e21, e22, e23, e24, e25, e26, e27, e28, e29]
def exA1 : List (PySem.W.Frag → Bool) := [e30, e31, e32, e33, e34, e35, e36, e37, e38, e39, e40, e41, e42, e43, e44, e45, e46, e47, e48, e49, e50, e51, e52, e53, e54, e55, e56, e57, e58, e59]
def exA2 : List (PySem.W.Frag → Bool) := [e60, e61, e62, e63, e64, e65, e66, e67, e68, e69, e70, e71, e72, e73, e74, e75, e76, e77, e78, e79, e80, e81, e82, e83, e84, e85, e86, e87, e88, e89]
def exA3 : List (PySem.W.Frag → Bool) := [e90, e91, e92, e93, e94, e95, e96, e97, e98, e99, e100, e101, e102, e103, e104, e105, e106, e107, e108, e109, e110, e111, e112, e113, e114, e115, e116, e117, e118, e119]
def exA4 : List (PySem.W.Frag → Bool) := [e120, e121, e122, e123, e124, e125, e126, e127, e128, e129, e130, e131, e132, e133, e134, e135, e136, e137, e138, e139, e140, e141, e142, e143, e144, e145, e146, e147, e148, e149]
def exA5 : List (PySem.W.Frag → Bool) := [e150, e151]
def exA : List (PySem.W.Frag → Bool) := exA0 ++ (exA1 ++ (exA2 ++ (exA3 ++ (exA4 ++ (exA5)))))
def exB0 : List (PySem.W.Frag → Bool) := [e152, e153, e154, e155, e156, e157, e158, e159, e160, e161, e162, e163, e164, e165, e166, e167, e168, e169, e170, e171, e172, e173, e174, e175, e176, e177, e178, e179, e180, e181]
def exB1 : List (PySem.W.Frag → Bool) := [e182, e183, e184, e185, e186, e187, e188, e189, e190, e191, e192, e193, e194, e195, e196, e197, e198, e199, e200, e201, e202, e203, e204, e205, e206, e207, e208, e209, e210, e211]
def exB2 : List (PySem.W.Frag → Bool) := [e212, e213, e214, e215, e216, e217, e218, e219, e220, e221, e222, e223, e224, e225, e226, e227, e228, e229, e230, e231, e232, e233, e234, e235, e236, e237, e238, e239, e240, e241]
def exB3 : List (PySem.W.Frag → Bool) := [e242, e243, e244, e245, e246, e247, e248, e249, e250, e251, e252, e253, e254, e255, e256, e257, e258, e259, e260, e261, e262, e263, e264, e265, e266, e267, e268, e269, e270, e271]
def exB4 : List (PySem.W.Frag → Bool) := [e272, e273, e274, e275, e276, e277, e278, e279, e280, e281, e282, e283, e284, e285, e286, e287, e288, e289, e290, e291, e292, e293, e294, e295, e296, e297, e298, e299, e300, e301]
def exB5 : List (PySem.W.Frag → Bool) := [e302, e303, e304]
def exB : List (PySem.W.Frag → Bool) := exB0 ++ (exB1 ++ (exB2 ++ (exB3 ++ (exB4 ++ (exB5)))))
def exL : List (PySem.W.Frag → Bool) := exA ++ exB
def fnL0 : List DnH := [d0, d1, d2, d3, d4, d5, d6, d7, d8, d9, d10, d11, d12, d13, d14, d15, d16, d17, d18, d19, d20, d21, d22, d23, d24, d25, d26, d27, d28, d29]
def fnL1 : List DnH := [d30, d31, d32, d33, d34, d35, d36, d37, d38, d39, d40, d41, d42, d43, d44, d45, d46, d47, d48]
def fnL : List DnH := fnL0 ++ (fnL1)
def tfL0 : List Ad := [A_f_law_refused_right, A_f_law_right, A_f_law]
def tfL : List Ad := tfL0
def tsL : List Tz := []
def loL0 : List Str := ["_wall", "MOST_OHMS", "MOST_PIECES", "MOST_JOINED", "GREATEST", "OPEN", "__name__", "LETTERS", "LONGEST_NAME", "is_integer", "is_integer_within", "is_name", "is_pair_of_integers", "is_resistance", "pair_of", "common_divisor", "lowest_terms", "lowest_pair", "pair_order", "fraction_text", "sign", "square_root", "WrongValue", "NotAPattern", "NotARun", "InvalidResistance", "InvalidCount", "InvalidNumber", "InvalidText", "InvalidName"]
def loL1 : List Str := ["InvalidClaim", "InvalidIndex", "InvalidPieces", "InvalidDeeds", "WrongName", "UnknownName", "InUse", "NoAnswer", "TooMany", "Broken", "NoLimit", "NothingToUndo", "WORDS", "JoinedRow", "Pattern", "checked_row", "is_piece", "matrix_and_scale", "shown_before", "row_text", "piece_text", "piece_with_text", "check_pattern", "GREATEST_PART", "Exact", "under_root", "simplest_equation", "equation_of_fraction", "beside_fraction", "sign_along_line"]
def loL2 : List Str := ["limit_beside", "with_commas", "ladder_limit", "difference", "sign_at", "sign_far_out", "sign_from", "sign_towards", "never_below", "never_more", "WORDS_FOR_PAIRS", "WORDS_FOR_BOUNDS", "is_claim", "names_of", "holds", "stays_beside", "Moment", "Bench", "_law_cell", "_law_src", "_law_pick", "_law_anyrow", "_law_text", "_law_pat", "_law_is_name", "_law_anyword", "_law_anything", "_law_error", "_law_told", "_law_put"]
def loL3 : List Str := ["_law_state_right", "_law_refused_right", "_law_right"]
def loL : List Str := loL0 ++ (loL1 ++ (loL2 ++ (loL3)))
abbrev rwH : PySem.W.OpenRow := PySem.W.OpenLaw.row PySem.Challenge.rw_rungladders_k61_patterns_under_names
def asL0 : List Addr := [2, 3, 22, 29, 36, 41, 62, 69, 76, 83, 128, 148, 167, 186, 205, 243, 262, 281, 300, 338, 357, 377, 396, 415, 435, 454, 466, 478, 481, 498]
def asL1 : List Addr := [590, 601, 608, 615, 634, 641, 648, 877, 1021, 1032, 1039, 1046, 1051, 1056, 1063, 1068, 1073, 1080, 1087, 1094, 1101, 1106, 1113, 1118, 1123, 28, 35, 40, 61, 68]
def asL2 : List Addr := [75, 82, 127, 147, 261, 356, 376, 497, 589, 600, 607, 614, 633, 640, 647, 876, 1020, 1031, 1038, 1045, 1050, 1055, 1062, 1067, 1072, 1079, 1086, 1093, 1100, 1105]
def asL3 : List Addr := [1112, 1117, 1122, 125, 145, 259, 354, 374, 495, 514, 529, 586, 874, 895, 902, 909, 916, 923, 938, 946, 954, 961, 982, 124, 144, 258, 353, 373, 494, 513]
def asL4 : List Addr := [528, 584, 873, 894, 901, 908, 915, 922, 937, 945, 953, 960, 981, 527, 583, 936, 944, 952]
def asL : List Addr := asL0 ++ (asL1 ++ (asL2 ++ (asL3 ++ (asL4))))
def obH (s : PySem.W.SharedT) : AlW := obsW asL fnL tfL exL tsL (HandSHeadRun.getT s)
abbrev qH : Program := PySem.W.view rwH.prog [103]
abbrev rowS : String := "special-get-raises"
noncomputable abbrev GH (w : World) (os : OsState) := HandSHeadRun.endF (HandSHeadRun.stepQ (HandSHeadRun.denQ HandSHeadRun.tabQ) rwH.prog w) 14000 rwH.prog w os
def obA (s : PySem.W.SharedT) : Bool := exA.all fun e => e (frT (HandSHeadRun.getT s) asL)
def obB (s : PySem.W.SharedT) : Bool × Bool := (exB.all fun e => e (frT (HandSHeadRun.getT s) asL), tabsZ (HandSHeadRun.getT s) tfL (frT (HandSHeadRun.getT s) asL))
abbrev PqA (w : World) : Prop := ∀ os : OsState, (GH w os).map (fun s => (HandSHeadRun.looksF rwH.prog (PySem.W.boot_heap w.params) s.abs, (obH s).2)) = some (true, (valW fnL tsL w).2)
abbrev PqB (w : World) : Prop := ∀ os : OsState, (GH w os).map (fun s => HandSHeadRun.seenQ qH loL (PySem.importedModules rwH.prog.main.body) (fun s => PySem.W.xlAt qH [] s && PySem.W.recOk rwH.toRowW.records s) s.abs) = some (PySem.W.openGood qH loL)
abbrev PqC (w : World) : Prop := ∀ os : OsState, (GH w os).map (fun s => (obH s).1.1) = some (valZ fnL).1
abbrev PqD (w : World) : Prop := ∀ os : OsState, (GH w os).map obA = some true
abbrev PqE (w : World) : Prop := ∀ os : OsState, (GH w os).map obB = some (true, true)
theorem pAF (w : World) : PqA (w.withFollow rowS false) := by
  intro os
  kernel_rfl
theorem pAT (w : World) : PqA (w.withFollow rowS true) := by
  intro os
  kernel_rfl
theorem pBF (w : World) : PqB (w.withFollow rowS false) := by
  intro os
  kernel_rfl
theorem pBT (w : World) : PqB (w.withFollow rowS true) := by
  intro os
  kernel_rfl
theorem pCF (w : World) : PqC (w.withFollow rowS false) := by
  intro os
  kernel_rfl
theorem pCT (w : World) : PqC (w.withFollow rowS true) := by
  intro os
  kernel_rfl
theorem pDF (w : World) : PqD (w.withFollow rowS false) := by
  intro os
  kernel_rfl
theorem pDT (w : World) : PqD (w.withFollow rowS true) := by
  intro os
  kernel_rfl
theorem pEF (w : World) : PqE (w.withFollow rowS false) := by
  intro os
  kernel_rfl
theorem pET (w : World) : PqE (w.withFollow rowS true) := by
  intro os
  kernel_rfl
end RL
set_option Elab.async false
set_option linter.all false
set_option maxRecDepth 100000
/-! Defs that are called where no repr is under way: repr of lists and tuples within them; == by an own __eq__. -/
namespace RL
open PySem L2 PySem.Spec PyProof.Rows
structure FnG (P : Program) (w : World) (K : PySem.W.Frag) (mg : Str → Option Value) (base : Heap) (k : Nat) (f : Addr) (fd : FuncData) (ps : List Str) (sp : Sp) : Prop where
  len : ∀ vs H Q E, sp vs H Q E → vs.length = ps.length
  run : ∀ (A : Around) (outer : List Env) (s : Shared) (H : Hp) (args : Args) (us : List Value) (vs : List V) (Q : VK) (E : XK), A.guards = some [] → Room k A → Env0 P w K mg base A outer s H → BindsTo s fd args (ps.zip us) → Vals vs us → sp vs H Q E →
    codeAny (model P w) A (.call (.ref f) args) (CR CX0 outer P w H s Q E) s
section
variable {P : Program} {w : World} {K : PySem.W.Frag} {mg : Str → Option Value} {base : Heap}
theorem okG {x qual : Str} {st : Stmt} {f : Addr} {fd : FuncData} {N ps : List Str} {k : Nat} {sp : Sp} (F : Fun K x qual st f fd) (S : FnScope N ps (defScope st)) (len : ∀ vs H Q E, sp vs H Q E → vs.length = ps.length)
    (bd : ∀ (cdv : Value) (A : Around) (outer : List Env) (s : Shared) (H : Hp) (vs : List V) (Q : VK) (E : XK), A.guards = some [] → Room k (A.deeper (envOfC qual (defScope st) s.heap.objs.size f cdv)) → sp vs H Q E →
      ∃ t, PSs (cxOf CX0 P w K mg base N qual (defScope st) f cdv A outer s H E).nox (defBody st) t ∧ t { nx := fun _ H' => Q .non H', rt := Q } (start N vs) H) : FnG P w K mg base (k + 1) f fd ps sp := by
  obtain ⟨oc, od, kV, doc, pm, an, cdv, ct, osl, rfl, lk, hcd⟩ := F.ex
  refine ⟨len, fun A outer s H args us vs Q E hg hr e0 hb r hsp => ?_⟩
  have KX : K.In s.heap := e0.mod.kin.keeps fun b o e => (e0.bs b o e).1
  have lim := e0.mod.nolimit.keeps fun b o e => (e0.bs b o e).1
  refine codeAny_call_function hr.depth (KX _ _ lk) rfl S.co S.gen rfl (PySem.W.codeRec_of KX hcd) (hb _ _ _ _ (wpAny_newFunctionEnv_cells S.kind (fun ⟨n, v⟩ hy => ?_) fun env he s1 x => ?_))
  · exact (S.par n (List.of_mem_zip hy).1).imp id fun q => ⟨q, PySem.W.cellsFrom_some _ _ _ (.inl q)⟩
  · subst he
    obtain ⟨t, ht, hq⟩ := bd cdv A outer s H vs Q E hg (hr.deeper _) hsp
    have I : Inv (cxOf CX0 P w K mg base N qual (defScope st) f cdv A outer s H E) [] (start N vs) H s1 := inv_start S hr.hd e0 (len _ _ _ _ hsp) r x
    refine ⟨lim.keeps x.toInCall.keep, codeAny_func (wpAny_mono (ht.nox.run [] s1 _ H _ I hq) (fun fl s' hs => ?_) fun _ _ z => z)⟩
    cases fl with
    | ret u =>
      obtain ⟨v, σ', H', J, rv, q⟩ := hs
      exact ⟨v, H', J.os, J.bare, J.base, J.hok, rv, q⟩
    | next =>
      obtain ⟨σ', H', J, q⟩ := hs
      exact ⟨V.non, H', J.os, J.bare, J.base, J.hok, rfl, q⟩
    | brk => exact hs.elim fun _ z => z.elim fun _ y => False.elim y.2
    | cont => exact hs.elim fun _ z => z.elim fun _ y => False.elim y.2
end
structure DfG (P : Program) (w : World) (K : PySem.W.Frag) (mg : Str → Option Value) (base : Heap) (k : Nat) (x : Str) (ps : List Str) (sp : Sp) : Prop where
  ex : ∃ (f : Addr) (fd : FuncData), FnG P w K mg base k f fd ps sp ∧ mg x = some (.ref f) ∧ PySem.W.keepIn K (.ref f) = true ∧ Binds K fd ps []
section
variable {X : Cx} {k : Nat} {ps : List Str} {sp : Sp} {x : Str} {p pos : Pos} {e : Expr} {es : List Expr} {t : TA}
theorem pe_dfG (D : DfG X.prog X.w X.K X.mg X.base k x ps sp) (hG : X.A.guards = some []) (hr : Room k X.A) (hg : Gl X x)
    (ha : PA X (e :: es) t) (hdb : (x == ("__debug__" : Str)) = false := by decide) (he : starEach (e :: es) X.env = (false, eval e X.env) :: starEach es X.env := by rfl) (hpl : (backTo pos (starEach es X.env)).any (·.1) = false := by rfl) :
    PE X (.Call (.Name x p) (e :: es) [] pos) (tCall sp [] E0 t) := by
  obtain ⟨f, fd, F, hm, hk, hb⟩ := D.ex
  refine ⟨fun pins s σ H Q I h => wpAny_Call_Name_kw (ld_glob I hg hm (PySem.W.callWith_K (h₀ := X.base) I.ok.mod.kin hk (thn (ha.run pos pins s σ H _ I h) fun us s1 ⟨vs, H1, I1, r, q⟩ => ⟨I1.kIn, ?_⟩) he hpl) hdb)⟩
  have q0 : sp vs H1 Q E0 := by
    have q1 : sp (vs ++ []) H1 Q E0 := q
    rw [List.append_nil] at q1
    exact q1
  have hl : (us ++ []).length = ps.length := by
    rw [List.append_nil, ← r.length]
    exact F.len _ _ _ _ q0
  have hbb := hb s1 us I1.kIn hl
  rw [List.append_nil] at hbb
  refine wpAny_call (codeAny_mono (F.run X.A X.stack s1 H1 ⟨us, []⟩ us vs Q E0 hG hr I1.env0 hbb r q0) fun z s' hq => ?_)
  cases z with
  | error e => exact hq.elim
  | ok fl =>
    cases fl with
    | ret u => exact I1.after hq
    | next => exact hq.elim
    | brk => exact hq.elim
    | cont => exact hq.elim
/-! ### repr of a list or tuple of plain things -/
def rRepr (K : PySem.W.Frag) : List V → Hp → VK → Prop := fun vs H Q => ∃ (a : Addr) (d : PyData), vs = [.ref a] ∧ Dp K H (.ref a) d ∧ d.showable = true ∧ d.hasDict = false ∧ d.depth ≤ 40 ∧ d.shown.length ≤ sizeLine ∧ Q (.str d.shown) H
theorem cr_repr (hG : X.A.guards = some []) (hu : X.A.units + 64 < cLine) : CallR X (.builtin "repr") (rRepr X.K) := by
  intro pins s σ H vs us Q I r h
  obtain ⟨a, d, rfl, hd, h1, h2, h3, h4, q⟩ := h
  obtain ⟨as, rd⟩ := Dp.reads I d _ (.ref a) hd rfl
  rw [Vals.ref1 r]
  refine repr_of_reads' (h₀ := s.heap) rd h1 (fun z => by rw [h2] at z; cases z) hG (by omega) (fun _ _ z => z) (fun h' u tk hk => ?_) h4
  exact ⟨.str d.shown, H, I.kept hk, ⟨_, rfl⟩, q⟩
/-! ### == by an own __eq__ -/
def rEqOwn (K : PySem.W.Frag) (C : Addr) (sp : Sp) : R2 := fun x y H Q => ∃ a dx fs ty, x = .ref a ∧ H a = some (.ins C dx fs) ∧ TyX K H y ty ∧ PySem.W.notFirst K C ty = true ∧ sp [x, y] H Q E0
end
end RL

/-! The end of a law whose own def is promised where no repr is under way. -/
namespace RL
open PySem L2 PySem.Spec PyProof.Rows
end RL

/-! != of an own class with __eq__ alone; str and repr of its instances; a new one by keywords. -/
namespace RL
open PySem L2 PySem.Spec PyProof.Rows PySem.W Builtin
section
variable {prog : Program} {w : World} {A : Around} {E : Value → Shared → Prop} {s : Shared} {K : Frag} {x C L f : Addr} {h₀ : Heap} {m : Str → Option Value} {ox : Obj} {od : Option Obj} {b tb : Value}
end
section
variable {X : Cx} {k : Nat} {ps : List Str} {sp : Sp} {C g : Addr} {fd : FuncData}
def rNeOwn (K : PySem.W.Frag) (C : Addr) (sp : Sp) : R2 := fun x y H Q => ∃ a dx fs ty, x = .ref a ∧ H a = some (.ins C dx fs) ∧ TyX K H y ty ∧ PySem.W.notFirst K C ty = true ∧ sp [x, y] H (fun v H' => ∃ t, v = .bl t ∧ Q (.bl (!t)) H') E0
/-! ### str and repr of an instance -/
def rTextOwn (C : Addr) (sp : Sp) : List V → Hp → VK → Prop := fun vs H Q => ∃ a dx fs, vs = [.ref a] ∧ H a = some (.ins C dx fs) ∧ sp [.ref a] H (fun z H' => ∃ y : Str, z = .str y ∧ Q z H') E0
end
end RL

/-! The mathematics: whole roots, common divisors, the one equation of a number, its sign beside a fraction. -/
namespace RL
def Sm (n : Nat) (x : Int) : Prop := x.natAbs < 2 ^ n
theorem Sm.mono {m n : Nat} {x : Int} (h : Sm m x) (l : m ≤ n) : Sm n x := Nat.lt_of_lt_of_le h (Nat.pow_le_pow_right (by decide) l)
theorem Sm.mul {m n : Nat} {x y : Int} (h : Sm m x) (k : Sm n y) : Sm (m + n) (x * y) := by
  unfold Sm at *
  rw [Int.natAbs_mul, Nat.pow_add]
  exact Nat.mul_lt_mul'' h k
theorem Sm.add {n : Nat} {x y : Int} (h : Sm n x) (k : Sm n y) : Sm (n + 1) (x + y) := by
  unfold Sm at *
  rw [Nat.pow_succ]
  omega
theorem Sm.sub {n : Nat} {x y : Int} (h : Sm n x) (k : Sm n y) : Sm (n + 1) (x - y) := by
  unfold Sm at *
  rw [Nat.pow_succ]
  omega
theorem Sm.of {n : Nat} {x y : Int} (h : Sm n y) (a : -y ≤ x) (b : x ≤ y) : Sm n x := by
  unfold Sm at *
  omega
/-! ### whole roots -/
def IsRt (w r : Int) : Prop := 0 ≤ r ∧ r * r ≤ w ∧ w < (r + 1) * (r + 1)
theorem IsRt.le {w r s : Int} (h : IsRt w r) (k : IsRt w s) : r ≤ s := by
  obtain ⟨h0, h1, h2⟩ := h
  obtain ⟨k0, k1, k2⟩ := k
  rcases Int.lt_or_le s r with l | l
  · have : (s + 1) * (s + 1) ≤ r * r := Int.mul_le_mul (by omega) (by omega) (by omega) (by omega)
    omega
  · exact l
theorem IsRt.eq {w r s : Int} (h : IsRt w r) (k : IsRt w s) : r = s := Int.le_antisymm (h.le k) (k.le h)
def rtN : Nat → Nat
  | 0 => 0
  | n + 1 => if (rtN n + 1) * (rtN n + 1) ≤ n + 1 then rtN n + 1 else rtN n
def rt (w : Int) : Int := (rtN w.toNat : Int)
/-! ### common divisors -/
def gc (a b : Int) : Int := (Int.gcd a b : Int)
theorem gc_pos {a b : Int} (h : a ≠ 0 ∨ b ≠ 0) : 0 < gc a b := by
  unfold gc
  have : 0 < Int.gcd a b := by
    rcases Nat.eq_zero_or_pos (Int.gcd a b) with z | z
    · rw [Int.gcd_eq_zero_iff] at z
      omega
    · exact z
  omega
theorem gc_dvd1 (a b : Int) : gc a b ∣ a := Int.gcd_dvd_left ..
theorem gc_dvd2 (a b : Int) : gc a b ∣ b := Int.gcd_dvd_right ..
theorem gc_zero {a : Int} (h : 0 ≤ a) : gc a 0 = a := by
  unfold gc
  rw [Int.gcd_zero_right]
  omega
theorem gc_step {a b : Int} (ha : 0 ≤ a) (hb : 0 < b) : gc b (a % b) = gc a b := by
  obtain ⟨n, rfl⟩ := Int.eq_ofNat_of_zero_le ha
  obtain ⟨m, rfl⟩ := Int.eq_ofNat_of_zero_le (Int.le_of_lt hb)
  unfold gc
  congr 1
  rw [← Int.natCast_emod, Int.gcd_natCast_natCast, Int.gcd_natCast_natCast, Nat.gcd_comm, ← Nat.gcd_rec, Nat.gcd_comm]
theorem gc_abs (a b : Int) : gc (if a < 0 then -a else a) (if b < 0 then -b else b) = gc a b := by
  unfold gc
  congr 1
  split <;> split <;> simp
/-! ### the one equation of a number -/
def Good (a b c : Int) : Prop := (a = 0 ∧ 1 ≤ b ∧ 0 ≤ c) ∨ (1 ≤ a ∧ 1 ≤ c)
structure Nrm (a b c s l w : Int) : Prop where
  good : Good s l w
  /-- the sign beside x / y -/
  sgn : ∀ x y : Int, 0 ≤ x → 1 ≤ y → (0 < w * y * y - l * x * y - s * x * x ↔ a * x * x + b * x * y - c * y * y < 0) ∧ (w * y * y - l * x * y - s * x * x = 0 ↔ a * x * x + b * x * y - c * y * y = 0)
def parts (a b c : Int) : Int × Int × Int :=
  if a = 0 then (0, b / gc c b, c / gc c b)
  else if rt (b * b + 4 * a * c) * rt (b * b + 4 * a * c) = b * b + 4 * a * c then
    (0, 2 * a / gc (rt (b * b + 4 * a * c) - b) (2 * a), (rt (b * b + 4 * a * c) - b) / gc (rt (b * b + 4 * a * c) - b) (2 * a))
  else (a / gc (gc a b) c, b / gc (gc a b) c, c / gc (gc a b) c)
/-! ### beside a fraction -/
def sg (n : Int) : Int := if 0 < n then 1 else if n < 0 then -1 else 0
def side (a b c x y : Int) : Int := if y = 0 then -1 else sg (-(a * x * x + b * x * y - c * y * y))
def beside (s l w x y : Int) : Int := sg (w * y * y - l * x * y - s * x * x)
theorem Nrm.side {a b c s l w x y : Int} (h : Nrm a b c s l w) (hx : 0 ≤ x) (hy : 1 ≤ y) : beside s l w x y = RL.side a b c x y := by
  obtain ⟨k1, k2⟩ := h.sgn x y hx hy
  unfold beside RL.side sg
  rw [if_neg (show ¬ y = 0 by omega)]
  generalize w * y * y - l * x * y - s * x * x = u at *
  generalize a * x * x + b * x * y - c * y * y = v at *
  by_cases p : 0 < u
  · have := k1.mp p
    rw [if_pos p, if_pos (by omega)]
  · by_cases q : u = 0
    · have := k2.mp q
      rw [if_neg p, if_neg (by omega), if_neg (by omega), if_neg (by omega)]
    · have : ¬ v < 0 := fun z => p (k1.mpr z)
      have : ¬ v = 0 := fun z => q (k2.mpr z)
      rw [if_neg p, if_pos (by omega), if_neg (by omega), if_pos (by omega)]
/-! ### floors -/
def flo (s l w t : Int) : Int := if s = 0 then t * w / l else (rt (t * t * (l * l + 4 * s * w)) - t * l) / (2 * s)
end RL

/-! The order of two numbers: by the program's signs, and that unlike small ones differ within thirty figures. -/
namespace RL
def Fv (s l w x y : Int) : Int := w * y * y - l * x * y - s * x * x
/-! ### the program's order -/
def sal0 (s l w sl h : Int) : Int := if sl = 0 ∨ h < 0 then sg (-h) else beside s l w h sl
def sal (s l w sl h : Int) : Int := if sl < 0 then -(sal0 s l w (-sl) (-h)) else sal0 s l w sl h
def ord (s l w s' l' w' : Int) : Int := if s' = 0 then beside s l w w' l' else -(sal s' l' w' (l * s' - l' * s) (w * s' - w' * s))
/-! ### lowest terms, and one equation for one number -/
end RL

namespace RL
structure Tiny (a b c : Int) : Prop where
  good : Good a b c
  ha : a ≤ 60
  hb : -61 ≤ b ∧ b ≤ 61
  hc : c ≤ 60
theorem Tiny.nn {a b c : Int} (h : Tiny a b c) : 0 ≤ a ∧ 0 ≤ c := by
  rcases h.good with g | g <;> omega
theorem off {a b c n N : Int} (t : Tiny a b c) (hN : 1 ≤ N) (hn : 0 ≤ n) (h1 : 0 ≤ Fv a b c n N) (h2 : Fv a b c (n + 1) N < 0) : n ≤ 62 * N ∧ Fv a b c n N ≤ 8000 * N := by
  obtain ⟨a0, c0⟩ := t.nn
  have nb : n ≤ 62 * N := by
    refine Classical.byContradiction fun q => ?_
    have q' : 62 * N < n := by omega
    rcases t.good with ⟨rfl, b0, _⟩ | ⟨a1, c1⟩
    · have e : Fv 0 b c n N = N * (c * N - b * n) := by unfold Fv; grind
      have k1 : n ≤ b * n := by
        have := Int.mul_le_mul_of_nonneg_right (a := 1) (b := b) (c := n) b0 hn
        omega
      have k2 : c * N ≤ 60 * N := Int.mul_le_mul_of_nonneg_right t.hc (by omega)
      have := Int.mul_neg_of_pos_of_neg (a := N) (b := c * N - b * n) (by omega) (by omega)
      omega
    · have k1 : n * n ≤ a * (n * n) := by
        have := Int.mul_le_mul_of_nonneg_right (a := 1) (b := a) (c := n * n) a1 (Int.mul_nonneg hn hn)
        omega
      have k2 : -61 * (n * N) ≤ b * (n * N) := Int.mul_le_mul_of_nonneg_right t.hb.1 (Int.mul_nonneg hn (by omega))
      have k3 : c * (N * N) ≤ 60 * (N * N) := Int.mul_le_mul_of_nonneg_right t.hc (Int.mul_nonneg (by omega) (by omega))
      have k4 : 62 * N * N ≤ n * (n - 61 * N) := Int.mul_le_mul (by omega) (by omega) (by omega) hn
      have e1 : Fv a b c n N = c * (N * N) - b * (n * N) - a * (n * n) := by unfold Fv; grind
      have e2 : n * (n - 61 * N) = n * n - 61 * (n * N) := by grind
      have e3 : 62 * N * N = 62 * (N * N) := by grind
      have k5 : 0 < N * N := Int.mul_pos (by omega) (by omega)
      omega
  refine ⟨nb, ?_⟩
  have e : Fv a b c n N - Fv a b c (n + 1) N = a * (2 * n + 1) + b * N := by unfold Fv; grind
  have k1 : a * (2 * n + 1) ≤ 60 * (2 * n + 1) := Int.mul_le_mul_of_nonneg_right t.ha (by omega)
  have k2 : b * N ≤ 61 * N := Int.mul_le_mul_of_nonneg_right t.hb.2 (by omega)
  omega
end RL

namespace RL
abbrev ordP (p q : Int × Int × Int) : Int := ord p.1 p.2.1 p.2.2 q.1 q.2.1 q.2.2
def dueAt (a b c a' b' c' : Int) : List Nat → Int
  | [] => 0
  | n :: r => if flo a b c (10 ^ n) = flo a' b' c' (10 ^ n) then dueAt a b c a' b' c' r else if flo a b c (10 ^ n) < flo a' b' c' (10 ^ n) then -1 else 1
def dueV (a b c a' b' c' : Int) : Int := if parts a b c = parts a' b' c' then 0 else dueAt a b c a' b' c' [3, 12, 30]
/-! ### k + sqrt(k * k + 1) and sqrt(4 * k * k + 2) -/
/-! ### a number and a fraction -/
end RL

/-! The texts of numbers, and that repr of what is told fits. -/
namespace RL
open PySem L2
structure OkT (n : Nat) (x : Str) : Prop where
  len : x.length ≤ n
  cps : ∀ c ∈ x.cps.toList, c < 16 ^ 8
theorem OkT.mono {m n : Nat} {x : Str} (h : OkT m x) (l : m ≤ n) : OkT n x := ⟨Nat.le_trans h.len l, h.cps⟩
theorem OkT.of (s : String) : OkT s.length (Str.ofString s) := by
  refine ⟨Nat.le_of_eq (ofString_length s), fun c hc => ?_⟩
  rw [PyProof.Rows.signs_ofString] at hc
  obtain ⟨ch, _, rfl⟩ := List.mem_map.mp hc
  have h1 : ch.toNat < 2 ^ 32 := ch.val.toNat_lt
  have h2 : (16 : Nat) ^ 8 = 2 ^ 32 := by decide
  omega
theorem OkT.app {m n : Nat} {x y : Str} (h : OkT m x) (k : OkT n y) : OkT (m + n) (x ++ y) := by
  refine ⟨?_, fun c hc => ?_⟩
  · rw [Str.length_append]
    have := h.len
    have := k.len
    omega
  · have e : (x ++ y).cps.toList = x.cps.toList ++ y.cps.toList := by
      show (x.cps ++ y.cps).toList = _
      rw [Array.toList_append]
    rw [e] at hc
    exact (List.mem_append.mp hc).elim (h.cps c) (k.cps c)
theorem log_sm {n : Nat} {i : Int} (hn : 0 < n) (h : Sm n i) : i.natAbs.log2 < n := PySem.Flt.log2_lt_of hn h
theorem ts_ok {i : Int} (h : Sm 200 i) : OkT 201 (ts i) := (OkT.of (toString i)).mono (int_text_length_le (by decide) (log_sm (by decide) h))
theorem show_int {i : Int} (h : Sm 200 i) : (PyData.int i).showable = true ∧ (PyData.int i).leavesShort 300 = true ∧ (PyData.int i).weight ≤ 200 := by
  have l := log_sm (by decide) h
  refine ⟨?_, ?_, ?_⟩
  · show decide (i.natAbs.log2 < 1920) = true
    exact decide_eq_true (by omega)
  · show decide ((PyData.shown (.int i)).length ≤ 300) = true
    refine decide_eq_true ?_
    have e : PyData.shown (.int i) = ts i := rfl
    rw [e]
    exact Nat.le_trans (ts_ok h).len (by decide)
  · show (if i == 0 then 0 else i.natAbs.log2 + 1) ≤ 200
    split <;> omega
theorem show_str {n : Nat} {x : Str} (h : OkT n x) : (PyData.str x).leavesShort 300 = true ∧ (PyData.str x).weight ≤ n := by
  refine ⟨?_, h.len⟩
  show (x.cps.toList.all fun c => decide (c < 16 ^ 8)) = true
  rw [List.all_eq_true]
  exact fun c hc => decide_eq_true (h.cps c hc)
structure Shows (d : PyData) : Prop where
  s : d.showable = true
  n : d.hasDict = false
  p : d.depth ≤ 40
  l : d.shown.length ≤ sizeLine
/-! ### the texts -/
def commas (a b c : Int) : Str := ts a ++ ", " ++ ts b ++ ", " ++ ts c
def ftext (t b : Int) : Str := if b = 1 then ts t else ts t ++ "/" ++ ts b
def xtext (s l w : Int) : Str := if s = 0 then ftext w l else "root of " ++ commas s l w
def rtext (s l w : Int) : Str := "Exact(" ++ commas s l w ++ ")"
theorem OkT.fits {n : Nat} {x : Str} (h : OkT n x) (l : n ≤ 100000 := by decide) : x.length ≤ sizeLine := by
  have := h.len
  rw [sizeLine_eq]
  omega
end RL

set_option maxHeartbeats 1000000
/-! Further rules: o.f as a target within a tuple; an own binary operator; a static method read off its class; an instance called by keyword; t[::-1] of a tuple; x in a tuple of data. -/
namespace RL
open PySem L2 PySem.Spec PyProof.Rows PySem.W
section
variable {X : Cx}
def gFld (K : PySem.W.Frag) (ta : TE) (f : Str) : TG := fun v σ H Q => ta σ H fun x H1 => ∃ a C dx fs, x = .ref a ∧ H1 a = some (.ins C dx fs) ∧ Cls K C ∧ NoAttr K C f ∧ fs.length < 1000 ∧ Q σ (upd H1 a (.ins C dx (putF f v fs)))
theorem pg_fld {o : Expr} {f : Str} {pos : Pos} {ta : TE} (ho : PE X o ta) (ha : ∀ v, assign (.Attribute o f pos) X.env v = (do
      let ov ← holding [v] (eval o X.env)
      standAt pos.atName
      holding [v, ov] (setAttr ov f v)
      release [v, ov] []) := by intro _; rfl) : PG X (.Attribute o f pos) (gFld X.K ta f) := by
  refine ⟨fun pins s σ H v u Q I r h => ?_⟩
  rw [ha]
  refine wpAny_bind (wpAny_holding (thn (ho.run pins s σ H _ I h) fun ov s1 ⟨x, H1, I1, r1, a, C, dx, fs, ex, ea, c, n, l, q⟩ => ?_))
  subst ex
  obtain rfl : ov = Value.ref a := r1
  refine wpAny_bind (wpAny_standAt (wpAny_bind (wpAny_holding (setattr_ok I1 ea c n l r fun s2 I2 => ?_))))
  exact wpAny_release ⟨σ, _, I2, q⟩
end
/-! ### an own binary operator -/
section
variable {X : Cx} {k : Nat} {ps : List Str} {sp : Sp} {C g : Addr} {fd : FuncData}
def rBinOwn (C : Addr) (sp : Sp) : R2 := fun x y H Q => ∃ a dx fs b dy gs, x = .ref a ∧ H a = some (.ins C dx fs) ∧ y = .ref b ∧ H b = some (.ins C dy gs) ∧ sp [x, y] H Q E0
end
/-! ### C.m(..), m a static method -/
structure SMet (K : PySem.W.Frag) (C : Addr) (mc : Value) (m : Str) (p g : Addr) : Prop where
  at_ : PySem.W.findCls K (.ref C) mc m = some (.get (.builtin "staticmethod.__get__") (.ref p) .none (.ref C))
  rc : ∃ rest, PySem.W.recIn K p "staticmethod" = some (.ref g :: rest)
  kp : PySem.W.keepIn K (.ref g) = true
def tSMeth (C : Addr) (sp : Sp) (ta : TE) (t : TA) : TE := fun σ H Q => ta σ H fun x H1 => x = .ref C ∧ t σ H1 fun vs H2 => sp vs H2 Q E0
section
variable {X : Cx} {k : Nat} {ps : List Str} {C p g : Addr} {mc : Value} {sp : Sp} {fd : FuncData} {o e : Expr} {es : List Expr} {m : Str} {pos apos : Pos} {ta : TE} {t : TA} {pl : Sem Bool}
theorem pe_smeth (he : PE X o ta) (r : ClX.CRead X.K C mc) (c : SMet X.K C mc m p g) (F : FnOk X.prog X.w X.K X.mg X.base CX0 k g fd ps sp) (hb : Binds X.K fd ps []) (hr : Room k X.A) (ha : PA X (e :: es) t)
    (hst : starEach (e :: es) X.env = (false, eval e X.env) :: starEach es X.env := by rfl) (hpl : (backTo pos (starEach es X.env)).any (·.1) = false := by rfl)
    (ht : eval (.Call (.Attribute o m apos) (e :: es) [] pos) X.env = (do
      let ov ← eval o X.env
      standAt apos.atName
      let (f, first) ← holding [ov] (getMethod ov m pl)
      callWith pos f first (backTo pos (starEach (e :: es) X.env)) (backToKw pos (keywordEach [] X.env))) := by rfl) :
    PE X (.Call (.Attribute o m apos) (e :: es) [] pos) (tSMeth C sp ta t) := by
  refine ⟨fun pins s σ H Q I h => ?_⟩
  refine PySem.W.methodCall_KW (pl := pl) (thn (he.run pins s σ H _ I h) fun u s1 ⟨x, H1, I1, rx, ex, q⟩ => ?_) ht
  subst ex
  obtain rfl : u = Value.ref C := rx
  obtain ⟨rest, hp⟩ := c.rc
  refine PySem.W.method_cls I1.kIn r.ga (PySem.W.cls_bind I1.kIn r.rd c.at_ (wpAny_call (PySem.W.sm_get (s := { s1 with toks := s1.toks + 1 }) I1.kIn hp (PySem.W.handed_on rfl ?_))))
  have I2 := I1.tok (s1.toks + 1)
  refine PySem.W.callWith_K (first := []) (h₀ := X.base) I.ok.mod.kin c.kp (thn (ha.run pos pins _ σ H1 _ I2 q) fun us s2 ⟨vs, H2, I3, rv, q2⟩ => ⟨I3.kIn, ?_⟩) hst hpl
  have q0 : sp (vs ++ []) H2 Q E0 := by
    rw [List.append_nil]
    exact q2
  exact run_fn (us := us) F hr hb .nil pass0 I3 rv q0
end
/-! ### an instance called by one keyword -/
section
variable {X : Cx} {k : Nat} {C g : Addr} {sp : Sp} {fd : FuncData} {fe e : Expr} {es : List Expr} {pos kpos : Pos} {p1 kw : Str} {tf : TE} {tk : TA} {t : TA}
def tCallOK (X : Cx) (C : Addr) (sp : Sp) (tf : TE) (tk : TA) : TE := fun σ H Q => tf σ H fun y H1 => ∃ a, y = V.ref a ∧ tk σ H1 fun vs H2 => (∃ dx fs, H2 a = some (.ins C dx fs)) ∧ sp (V.ref a :: vs) H2 Q E0
end
/-! ### t[::-1] -/
section
variable {prog : Program} {w : World} {A : Around} {E : Value → Shared → Prop} {s : Shared}
open HT
end
section
variable {X : Cx}
def tRevT (K : PySem.W.Frag) (te : TE) : TE := fun σ H Q => te σ H fun x H1 => ∃ a xs, x = .ref a ∧ SqT K H1 a xs ∧ ∀ p, H1 p = none → Q (.ref p) (upd H1 p (.tup xs.reverse))
/-! ### x in a tuple of data -/
def rInT (K : PySem.W.Frag) : R2 := fun x y H Q => ∃ d ds, Dp K H x d ∧ Dp K H y (.tuple ds) ∧ SeqAt.shaped d = true ∧ SeqAt.shaped (.tuple ds) = true ∧ Q (.bl (ds.any fun z => PyData.eqv z d)) H
theorem op_inT (hu : X.A.units + 65 < cLine) : OpR X (compareOp .In) (rInT X.K) := by
  intro pins s σ H x y v u Q I rx ry h
  obtain ⟨d, ds, hd, he, sd, se, q⟩ := h
  obtain ⟨as, r1⟩ := Dp.reads I d x v hd rx
  obtain ⟨bs, r2⟩ := Dp.reads I (.tuple ds) y u he ry
  exact SeqAt.in_tuple_reads r2 r1 (SeqAt.canLay_of_shaped se) (SeqAt.canLay_of_shaped sd) (room_in_shaped sd hu) ⟨.bl _, H, I, rfl, q⟩
end
end RL

/-! The mathematics of rows of pieces: their maps, what they show. -/
namespace RL
abbrev Pc := Bool × Int
def PcOk (p : Pc) : Prop := 1 ≤ p.2 ∧ p.2 ≤ 12
structure Mx where
  a : Int
  b : Int
  c : Int
  d : Int
def stepM (m : Mx) (p : Pc) : Mx := if p.1 = true then ⟨m.a, m.a * p.2 + m.b, m.c, m.c * p.2 + m.d⟩ else ⟨m.a * p.2 + m.b, m.b * p.2, m.c * p.2 + m.d, m.d * p.2⟩
def stepS (s : Int) (p : Pc) : Int := if p.1 = true then s else s * p.2
def m1 : Mx := ⟨1, 0, 0, 1⟩
def matR (r : List Pc) : Mx := r.foldl stepM m1
def sclR (r : List Pc) : Int := r.foldl stepS 1
def Mx.app (m : Mx) (e : Int × Int) : Int × Int := (m.a * e.1 + m.b * e.2, m.c * e.1 + m.d * e.2)
def act (p : Pc) (e : Int × Int) : Int × Int := if p.1 = true then (e.1 + p.2 * e.2, e.2) else (p.2 * e.1, e.1 + p.2 * e.2)
def actR (r : List Pc) (e : Int × Int) : Int × Int := r.foldr act e
def Pos2 (e : Int × Int) : Prop := 0 ≤ e.1 ∧ 0 ≤ e.2 ∧ (0 < e.1 ∨ 0 < e.2)
def sc (k : Int) (e : Int × Int) : Int × Int := (k * e.1, k * e.2)
def RowOk (r : List Pc) : Prop := ∀ p ∈ r, PcOk p
theorem RowOk.tail {p : Pc} {r : List Pc} (h : RowOk (p :: r)) : RowOk r := fun q hq => h q (List.mem_cons_of_mem _ hq)
theorem RowOk.head {p : Pc} {r : List Pc} (h : RowOk (p :: r)) : PcOk p := h p List.mem_cons_self
theorem RowOk.app {r r' : List Pc} (h : RowOk r) (h' : RowOk r') : RowOk (r ++ r') := fun q hq => (List.mem_append.mp hq).elim (h q) (h' q)
def frt (p : Pc) (e : Int × Int) : Int × Int := if p.1 = true then (e.1 + p.2 * e.2, e.2) else if e.2 = 0 then (p.2, 1) else (p.2 * e.1, p.2 * e.2 + e.1)
def frtR (r : List Pc) (e : Int × Int) : Int × Int := r.foldr frt e
/-! ### lowest terms -/
def low (e : Int × Int) : Int × Int := (e.1 / gc e.1 e.2, e.2 / gc e.1 e.2)
theorem gc_pos2 {e : Int × Int} (h : Pos2 e) : 0 < gc e.1 e.2 := gc_pos (by have := h.2.2; omega)
theorem gc_sm {t b : Int} {n : Nat} (h : Pos2 (t, b)) (ht : Sm n t) (hb : Sm n b) : Sm n (gc t b) := by
  have g0 : 0 < gc t b := gc_pos2 h
  rcases h.2.2 with z | z
  · have := Int.le_of_dvd z (gc_dvd1 t b)
    exact ht.of (by omega) this
  · have := Int.le_of_dvd z (gc_dvd2 t b)
    exact hb.of (by omega) this
/-! ### the four fractions -/
/-! ### signs and sizes -/
def MxOk (m : Mx) : Prop := 0 ≤ m.a ∧ 0 ≤ m.b ∧ 0 ≤ m.c ∧ 0 ≤ m.d ∧ 0 < m.a * m.d - m.b * m.c
theorem step_ok {m : Mx} {p : Pc} (hp : PcOk p) (h : MxOk m) : MxOk (stepM m p) := by
  obtain ⟨h1, h2, h3, h4, h5⟩ := h
  have q0 : 0 ≤ p.2 := by have := hp.1; omega
  have z1 := Int.mul_nonneg h1 q0
  have z2 := Int.mul_nonneg h2 q0
  have z3 := Int.mul_nonneg h3 q0
  have z4 := Int.mul_nonneg h4 q0
  unfold stepM MxOk
  split
  · dsimp
    refine ⟨h1, by omega, h3, by omega, ?_⟩
    have : m.a * (m.c * p.2 + m.d) - (m.a * p.2 + m.b) * m.c = m.a * m.d - m.b * m.c := by grind
    omega
  · dsimp
    refine ⟨by omega, by omega, by omega, by omega, ?_⟩
    have : (m.a * p.2 + m.b) * (m.d * p.2) - m.b * p.2 * (m.c * p.2 + m.d) = p.2 * p.2 * (m.a * m.d - m.b * m.c) := by grind
    rw [this]
    have q1 : 0 < p.2 := by have := hp.1; omega
    exact Int.mul_pos (Int.mul_pos q1 q1) h5
theorem fold_ok {r : List Pc} : ∀ {m : Mx}, RowOk r → MxOk m → MxOk (r.foldl stepM m) := by
  induction r with
  | nil => exact fun _ h => h
  | cons p r ih => exact fun hr h => ih hr.tail (step_ok hr.head h)
theorem matR_ok {r : List Pc} (hr : RowOk r) : MxOk (matR r) := fold_ok hr ⟨by decide, by decide, by decide, by decide, by decide⟩
theorem scl_fold {r : List Pc} : ∀ {s : Int}, RowOk r → 0 < s → 0 < r.foldl stepS s := by
  induction r with
  | nil => exact fun _ h => h
  | cons p r ih =>
    intro s hr h
    refine ih hr.tail ?_
    unfold stepS
    split
    · exact h
    · exact Int.mul_pos h (by have := hr.head.1; omega)
theorem sclR_pos {r : List Pc} (hr : RowOk r) : 0 < sclR r := scl_fold hr (by decide)
def MxSm (n : Nat) (m : Mx) : Prop := Sm n m.a ∧ Sm n m.b ∧ Sm n m.c ∧ Sm n m.d
theorem ohm_sm {p : Pc} (hp : PcOk p) : Sm 4 p.2 := by
  obtain ⟨h1, h2⟩ := hp
  unfold Sm
  omega
theorem step_sm {m : Mx} {p : Pc} {n : Nat} (hp : PcOk p) (h : MxSm n m) : MxSm (n + 5) (stepM m p) := by
  obtain ⟨h1, h2, h3, h4⟩ := h
  have o := ohm_sm hp
  have up : ∀ {x : Int}, Sm n x → Sm (n + 4) x := fun z => z.mono (by omega)
  unfold stepM MxSm
  split
  · exact ⟨h1.mono (by omega), (h1.mul o).add (up h2), h3.mono (by omega), (h3.mul o).add (up h4)⟩
  · exact ⟨(h1.mul o).add (up h2), (h2.mul o).mono (by omega), (h3.mul o).add (up h4), (h4.mul o).mono (by omega)⟩
theorem fold_sm {r : List Pc} : ∀ {m : Mx} {n : Nat}, RowOk r → MxSm n m → MxSm (n + 5 * r.length) (r.foldl stepM m) := by
  induction r with
  | nil => exact fun _ h => h
  | cons p r ih =>
    intro m n hr h
    have := ih hr.tail (step_sm hr.head h)
    rw [List.foldl_cons, List.length_cons]
    have e : n + 5 * (r.length + 1) = n + 5 + 5 * r.length := by omega
    rw [e]
    exact this
theorem MxSm.mono {m n : Nat} {x : Mx} (h : MxSm m x) (l : m ≤ n) : MxSm n x := ⟨h.1.mono l, h.2.1.mono l, h.2.2.1.mono l, h.2.2.2.mono l⟩
theorem m1_sm : MxSm 1 m1 := ⟨by unfold Sm; decide, by unfold Sm; decide, by unfold Sm; decide, by unfold Sm; decide⟩
theorem matR_sm {r : List Pc} (hr : RowOk r) (hl : r.length ≤ 8) : MxSm 41 (matR r) := (fold_sm hr m1_sm).mono (by omega)
theorem scl_sm {r : List Pc} : ∀ {s : Int} {n : Nat}, RowOk r → Sm n s → Sm (n + 4 * r.length) (r.foldl stepS s) := by
  induction r with
  | nil => exact fun _ h => h
  | cons p r ih =>
    intro s n hr h
    rw [List.foldl_cons, List.length_cons]
    have e : n + 4 * (r.length + 1) = n + 4 + 4 * r.length := by omega
    rw [e]
    refine ih hr.tail ?_
    unfold stepS
    split
    · exact h.mono (by omega)
    · exact h.mul (ohm_sm hr.head)
theorem sclR_sm {r : List Pc} (hr : RowOk r) (hl : r.length ≤ 8) : Sm 41 (sclR r) := (scl_sm (n := 1) hr (by unfold Sm; decide)).mono (by omega)
/-! ### what is shown rises with the load -/
def below (e f : Int × Int) : Bool := decide (e.1 * f.2 < f.1 * e.2)
end RL

namespace RL
open PySem L2
/-! ### a def as its callers see it -/
structure Df (P : Program) (w : World) (K : PySem.W.Frag) (mg : Str → Option Value) (base : Heap) (k : Nat) (x : Str) (ps : List Str) (sp : Sp) : Prop where
  ex : ∃ (f : Addr) (fd : FuncData), FnOk P w K mg base CX0 k f fd ps sp ∧ mg x = some (.ref f) ∧ PySem.W.keepIn K (.ref f) = true ∧ Binds K fd ps []
section
variable {X : Cx} {k : Nat} {ps : List Str} {sp : Sp} {x : Str} {p pos : Pos} {e : Expr} {es : List Expr} {t : TA}
theorem pe_df (D : Df X.prog X.w X.K X.mg X.base k x ps sp) (hr : Room k X.A) (hg : Gl X x)
    (ha : PA X (e :: es) t) (hdb : (x == ("__debug__" : Str)) = false := by decide) (he : starEach (e :: es) X.env = (false, eval e X.env) :: starEach es X.env := by rfl) (hpl : (backTo pos (starEach es X.env)).any (·.1) = false := by rfl) :
    PE X (.Call (.Name x p) (e :: es) [] pos) (tCall sp [] E0 t) := by
  obtain ⟨f, fd, G, hm, hk, hb⟩ := D.ex
  exact pe_call G hr hg hm hk hb .nil pass0 ha hdb he hpl
end
theorem pe_fldK {X : Cx} {K : PySem.W.Frag} {e : Expr} {f : Str} {pos : Pos} {ta : TE} (he : PE X e ta) (hK : X.K = K := by rfl) (hb : attributeBase e f X.env (eval e X.env) = eval e X.env := by rfl) : PE X (.Attribute e f pos) (tFld K ta f) := by
  subst hK
  exact pe_fld he hb
structure Txt (K : PySem.W.Frag) (mg : Str → Option Value) : Prop where
  len : mg "len" = none
  abs : mg "abs" = none
  int_ : mg "int" = none
  bool_ : mg "bool" = none
  tuple_ : mg "tuple" = none
  isinstance : mg "isinstance" = none
  divmod : mg "divmod" = none
  max : mg "max" = none
  min : mg "min" = none
  range : mg "range" = none
  all : mg "all" = none
  repr : mg "repr" = none
  str_ : mg "str" = none
  enumerate : mg "enumerate" = none
/-! ### heaps -/
def But (c : Addr) (H H' : Hp) : Prop := ∀ b o, b ≠ c → H b = some o → H' b = some o
theorem But.refl (c : Addr) (H : Hp) : But c H H := fun _ _ _ h => h
theorem But.trans {c : Addr} {H H1 H2 : Hp} (a : But c H H1) (b : But c H1 H2) : But c H H2 := fun x o n h => b x o n (a x o n h)
theorem But.of {c : Addr} {H H' : Hp} (h : Same H H') : But c H H' := fun x o _ e => h x o e
theorem same_upd {H : Hp} {p : Addr} {o : HO} (h : H p = none) : Same H (upd H p o) := fun b x e => by
  rw [upd_ne (ne_of_none e h)]
  exact e
theorem But.upd {c : Addr} {H : Hp} {o : HO} : But c H (upd H c o) := fun b x n e => by
  rw [upd_ne n]
  exact e
theorem But.free {c : Addr} {H H' : Hp} (e : But c H H') {l : Addr} (n : l ≠ c) (h : H' l = none) : H l = none := by
  cases q : H l with
  | none => rfl
  | some o =>
    rw [e l o n q] at h
    cases h
def CupAt (c : Addr) (H : Hp) : Prop := ∃ x y : Int, H c = some (.lst [.int x, .int y]) ∧ 0 ≤ x ∧ x < 2147483629 ∧ 0 ≤ y
theorem CupAt.same {c : Addr} {H H' : Hp} (h : CupAt c H) (s : Same H H') : CupAt c H' := by
  obtain ⟨x, y, a, b⟩ := h
  exact ⟨x, y, s _ _ a, b⟩
theorem CupAt.ne {c b : Addr} {H : Hp} (h : CupAt c H) (n : H b = none) : c ≠ b := by
  obtain ⟨x, y, a, _⟩ := h
  exact ne_of_none a n
/-! ### promises -/
def spCup (K : PySem.W.Frag) : Sp := fun vs H Q _ => ∃ (a : Addr) (ns : List Int) (i : Nat), vs = [.ref a, .int (i : Int)] ∧ SqL K H a (ns.map V.int) ∧ i ≤ 100 ∧ ns.length ≤ 63 ∧
  ∀ H' c, Same H H' → H c = none → CupAt c H' → Q (.ref c) H'
def spSip : Sp := fun vs H Q _ => ∃ (c : Addr) (m : Int), vs = [.ref c, .int m] ∧ CupAt c H ∧ 0 < m ∧ Sm 200 m ∧
  ∀ H' r, But c H H' → CupAt c H' → 0 ≤ r → r < m → Q (.int r) H'
def spPick : Sp := fun vs H Q _ => ∃ (c l : Addr) (xs : List V), vs = [.ref c, .ref l] ∧ CupAt c H ∧ c ≠ l ∧ H l = some (.lst xs) ∧ 0 < xs.length ∧ xs.length ≤ 100 ∧
  ∀ H' v, But c H H' → CupAt c H' → v ∈ xs → Q v H'
def spPair : Sp := fun vs H Q _ => ∃ (t b : Int), vs = [.int t, .int b] ∧ Pos2 (t, b) ∧ Sm 4000 t ∧ Sm 4000 b ∧
  ∀ H' p, Same H H' → H p = none → H' p = some (.tup [.int (low (t, b)).1, .int (low (t, b)).2]) → Q (.ref p) H'
section
variable {P : Program} {w : World} {K : PySem.W.Frag} {mg : Str → Option Value} {base : Heap}
end
end RL

namespace RL
open PySem L2
section
variable {P : Program} {w : World} {K : PySem.W.Frag} {mg : Str → Option Value} {base : Heap}
end
end RL

namespace RL
open PySem L2
theorem mx {a b : Nat} {i j : Int} (hi : Sm a i) (hj : Sm b j) (h : a + b ≤ 134217728 := by decide) : CMulX i j := mulx_ok hi hj h
theorem dvw {b : Nat} {i j : Int} (h : 0 < j) (hb : Sm b j) (h0 : 0 < b := by decide) (h9 : b ≤ 9000 := by decide) : CDivW i j := wide_div h hb h0 h9
structure Txt2 (K : PySem.W.Frag) (mg : Str → Option Value) (tG : Tok) (aO : Addr) : Prop extends Txt K mg where
  mgG : mg "GREATEST" = some (.int 1000000000000 tG)
  mgO : mg "OPEN" = some (.ref aO)
  opn : ∃ (o : Obj) (its : Array Value) (n : Nat), K.lookup aO = some o ∧ o.cls = .type "tuple" ∧ o.data = .seq its n ∧ its.size ≤ sizeLine ∧ Vals [.int 1, .int 0] its.toList
def ResP (t b : Int) : Prop := (0 ≤ t ∧ t ≤ 1000000000000 ∧ 1 ≤ b ∧ b ≤ 1000000000000) ∨ (t = 1 ∧ b = 0)
def spIsInt : Sp := fun vs H Q _ => (∃ i, vs = [.int i] ∧ Q (.bl true) H) ∨ (∃ p xs, vs = [.ref p] ∧ H p = some (.tup xs) ∧ Q (.bl false) H)
def spWithin : Sp := fun vs H Q _ => ∃ v lo hi : Int, vs = [.int v, .int lo, .int hi] ∧ lo ≤ v ∧ v ≤ hi ∧ Q (.bl true) H
def spIsPair : Sp := fun vs H Q _ => ∃ (p : Addr) (t b : Int), vs = [.ref p] ∧ H p = some (.tup [.int t, .int b]) ∧ Q (.bl true) H
def spIsRes : Sp := fun vs H Q _ => (∃ i : Int, vs = [.int i] ∧ 0 ≤ i ∧ i ≤ 1000000000000 ∧ Q (.bl true) H) ∨ (∃ (p : Addr) (t b : Int), vs = [.ref p] ∧ H p = some (.tup [.int t, .int b]) ∧ ResP t b ∧ Q (.bl true) H)
def spPairOf : Sp := fun vs H Q _ => (∃ i, vs = [.int i] ∧ ∀ H' p, Same H H' → H p = none → H' p = some (.tup [.int i, .int 1]) → Q (.ref p) H') ∨ (∃ p xs, vs = [.ref p] ∧ H p = some (.tup xs) ∧ Q (.ref p) H)
def spGcd : Sp := fun vs H Q _ => ∃ x y : Int, vs = [.int x, .int y] ∧ Q (.int (gc x y)) H
def spLow : Sp := fun vs H Q _ => ∃ (t b : Int), vs = [.int t, .int b] ∧ Pos2 (t, b) ∧ Sm 4000 t ∧ Sm 4000 b ∧
  ∀ H' p, Same H H' → H p = none → H' p = some (.tup [.int (low (t, b)).1, .int (low (t, b)).2]) → Q (.ref p) H'
def spLowP : Sp := fun vs H Q _ => ∃ (v : V) (e : Int × Int), vs = [v] ∧ ((∃ i, v = .int i ∧ e = (i, 1)) ∨ (∃ p, v = .ref p ∧ H p = some (.tup [.int e.1, .int e.2]))) ∧ Pos2 e ∧ Sm 4000 e.1 ∧ Sm 4000 e.2 ∧
  ∀ H' p, Same H H' → H p = none → H' p = some (.tup [.int (low e).1, .int (low e).2]) → Q (.ref p) H'
section
variable {P : Program} {w : World} {K : PySem.W.Frag} {mg : Str → Option Value} {base : Heap} {tG : Tok} {aO : Addr}
theorem sc_is_integer : FnScope ["value"] ["value"] (defScope s_is_integer) := ⟨rfl, rfl, rfl, by decide +kernel, rfl, by decide +kernel, by decide +kernel⟩

theorem ok_isint {f : Addr} {fd : FuncData} (F : Fun K "is_integer" "is_integer" s_is_integer f fd) (T : Txt K mg) : FnOk P w K mg base CX0 1 f fd ["value"] spIsInt := by
  refine F.ok sc_is_integer (fun vs H Q E h => ?_) (fun cdv A outer s H vs Q E hr h => ?_)
  · rcases h with ⟨i, rfl, _⟩ | ⟨p, xs, rfl, _⟩ <;> rfl
  · refine ⟨_, (pss_one (ps_ret (pe_and (pe_callB call_isi (by rfl) T.isinstance (by decide +kernel) (pa_cons (pv 0) (pa_cons (pe_bltn (v := .ty "int") (by rfl) T.int_ (by decide +kernel) rfl) pa_nil))) (pe_one (pe_not (pe_callB call_isi (by rfl) T.isinstance (by decide +kernel) (pa_cons (pv 0) (pa_cons (pe_bltn (v := .ty "bool") (by rfl) T.bool_ (by decide +kernel) rfl) pa_nil)))))))), ?_⟩
    rcases h with ⟨i, rfl, k⟩ | ⟨p, xs, rfl, hp, k⟩
    · refine ⟨_, rfl, _, _, _, _, true, rfl, .ty _, .base (.int i), kit_ty (by decide +kernel), true, rfl, iteT ?_⟩
      exact ⟨_, rfl, _, _, _, _, false, rfl, .ty _, .base (.int i), kit_ty (by decide +kernel), false, rfl, k⟩
    · refine ⟨_, rfl, _, _, _, _, false, rfl, .ty _, .base (.tup hp), kit_ty (by decide +kernel), false, rfl, iteF ?_⟩
      exact k
theorem sc_is_integer_within : FnScope ["value", "least", "most"] ["value", "least", "most"] (defScope s_is_integer_within) := ⟨rfl, rfl, rfl, by decide +kernel, rfl, by decide +kernel, by decide +kernel⟩

theorem ok_within {f : Addr} {fd : FuncData} (F : Fun K "is_integer_within" "is_integer_within" s_is_integer_within f fd) (D_is_integer : Df P w K mg base 1 "is_integer" ["value"] spIsInt) : FnOk P w K mg base CX0 2 f fd ["value", "least", "most"] spWithin := by
  refine F.ok sc_is_integer_within (fun vs H Q E h => ?_) (fun cdv A outer s H vs Q E hr h => ?_)
  · obtain ⟨v, lo, hi, rfl, _⟩ := h
    rfl
  · obtain ⟨v, lo, hi, rfl, h1, h2, k⟩ := h
    refine ⟨_, (pss_one (ps_ret (pe_and (pe_df D_is_integer (hr.mono (by decide)) (by rfl) (pa_cons (pv 0) pa_nil)) (pe_one (pe_chain op_le op_le (pv 1) (pv 0) (pv 2)))))), ?_⟩
    refine ⟨_, rfl, .inl ⟨v, rfl, true, rfl, iteT ?_⟩⟩
    refine ⟨_, rfl, _, rfl, _, _, rfl, rfl, _, rfl, ite2 (fun _ => ?_) (fun e => absurd (decide_eq_true h1) e)⟩
    refine ⟨_, rfl, _, _, rfl, rfl, ?_⟩
    show Q (.bl (decide (v ≤ hi))) H
    rw [decide_eq_true h2]
    exact k
abbrev s_is_pair_of_integers : Stmt := top 12
abbrev s_is_resistance : Stmt := top 13
theorem sc_pair_of : FnScope ["fraction_or_open"] ["fraction_or_open"] (defScope s_pair_of) := ⟨rfl, rfl, rfl, by decide +kernel, rfl, by decide +kernel, by decide +kernel⟩

theorem ok_pairof {f : Addr} {fd : FuncData} (F : Fun K "pair_of" "pair_of" s_pair_of f fd) (D_is_integer : Df P w K mg base 1 "is_integer" ["value"] spIsInt) : FnOk P w K mg base CX0 2 f fd ["fraction_or_open"] spPairOf := by
  refine F.ok sc_pair_of (fun vs H Q E h => ?_) (fun cdv A outer s H vs Q E hr h => ?_)
  · rcases h with ⟨i, rfl, _⟩ | ⟨p, xs, rfl, _⟩ <;> rfl
  · refine ⟨_, (pss_cons (ps_if (pt_val (pe_df D_is_integer (hr.mono (by decide)) (by rfl) (pa_cons (pv 0) pa_nil))) (pss_one (ps_ret (pe_tup (pa_cons (pv 0) (pa_cons pe_int pa_nil))))) pss_nil)
      (pss_one (ps_ret (pv 0)))), ?_⟩
    rcases h with ⟨i, rfl, k⟩ | ⟨p, xs, rfl, hp, k⟩
    · refine ⟨_, rfl, .inl ⟨i, rfl, true, rfl, iteT ?_⟩⟩
      exact ⟨_, rfl, (by show 2 ≤ sizeLine; decide), fun q hq => k _ q (same_upd hq) hq upd_same⟩
    · refine ⟨_, rfl, .inr ⟨p, _, rfl, hp, false, rfl, iteF ?_⟩⟩
      exact ⟨_, rfl, k⟩
theorem sc_common_divisor : FnScope ["first", "second", "high", "low"] ["first", "second"] (defScope s_common_divisor) := ⟨rfl, rfl, rfl, by decide +kernel, rfl, by decide +kernel, by decide +kernel⟩

theorem ok_gcd {f : Addr} {fd : FuncData} (F : Fun K "common_divisor" "common_divisor" s_common_divisor f fd) (T : Txt K mg) : FnOk P w K mg base CX0 1 f fd ["first", "second"] spGcd := by
  refine F.ok sc_common_divisor (fun vs H Q E h => ?_) (fun cdv A outer s H vs Q E hr h => ?_)
  · obtain ⟨t, b, rfl, _⟩ := h
    rfl
  · obtain ⟨t, b, rfl, k⟩ := h
    refine ⟨_, (pss_cons (ps_par (by rfl) sc_common_divisor.nd (i := 2) (j := 3) rfl rfl (by decide) rfl rfl (pa_cons (pe_callB call_abs (by rfl) T.abs (by decide +kernel) (pa_cons (pv 0) pa_nil)) (pa_cons (pe_callB call_abs (by rfl) T.abs (by decide +kernel) (pa_cons (pv 1) pa_nil)) pa_nil)) (by rfl))
      (pss_cons (ps_while PassesOwn.never (pt_cmpR op_gt (pv 3) pe_int (nomark _)) (pss_one (ps_par (by rfl) sc_common_divisor.nd (i := 2) (j := 3) rfl rfl (by decide) rfl rfl (pa_cons (pv 3) (pa_cons (pe_op op_mod (pv 2) (pv 3)) pa_nil)) (by rfl))))
      (pss_one (ps_ret (pv 2))))), ?_⟩
    refine ⟨_, rfl, _, rfl, _, rfl, _, rfl, _, _, rfl, ?_⟩
    refine while_by (fun σ H' => H' = H ∧ ∃ x y : Int, σ = [some (.int t), some (.int b), some (.int x), some (.int y)] ∧ 0 ≤ x ∧ 0 ≤ y ∧ gc x y = gc t b) (fun σ _ => match σ with | [_, _, _, some (.int y)] => y.toNat | _ => 0) ⟨rfl, _, _, rfl, by split <;> omega, by split <;> omega, gc_abs _ _⟩ ?_ ?_
    · rintro σ H' ⟨rfl, x, y, rfl, x0, y0, eg⟩
      refine ⟨_, rfl, _, _, rfl, rfl, _, rfl, ite2 (fun e => ?_) (fun e => ?_)⟩
      · have e0 : 0 < y := of_decide_eq_true e
        refine ⟨_, rfl, _, rfl, _, rfl, _, _, rfl, rfl, e0, _, _, rfl, ?_⟩
        have q1 := Int.emod_nonneg x (show y ≠ 0 by omega)
        have q2 := Int.emod_lt_of_pos x e0
        refine ⟨⟨rfl, y, x % y, rfl, y0, q1, ?_⟩, ?_⟩
        · rw [gc_step x0 e0, eg]
        · show (x % y).toNat < y.toNat
          omega
      · have e0 : ¬ 0 < y := fun z => e (decide_eq_true z)
        have y1 : y = 0 := by omega
        subst y1
        rw [gc_zero x0] at eg
        subst eg
        exact ⟨_, rfl, k⟩
    · rintro σ H' Q1 Q2 hq h
      obtain ⟨v, e1, i, j, e2, e3, z⟩ := h
      exact ⟨v, e1, i, j, e2, e3, z.imp fun k z => ⟨z.1, hq _ _ z.2⟩⟩
theorem sc_lowest_terms : FnScope ["top", "bottom", "divisor"] ["top", "bottom"] (defScope s_lowest_terms) := ⟨rfl, rfl, rfl, by decide +kernel, rfl, by decide +kernel, by decide +kernel⟩

theorem ok_low {f : Addr} {fd : FuncData} (F : Fun K "lowest_terms" "lowest_terms" s_lowest_terms f fd) (D_common_divisor : Df P w K mg base 1 "common_divisor" ["first", "second"] spGcd) : FnOk P w K mg base CX0 2 f fd ["top", "bottom"] spLow := by
  refine F.ok sc_lowest_terms (fun vs H Q E h => ?_) (fun cdv A outer s H vs Q E hr h => ?_)
  · obtain ⟨t, b, rfl, _⟩ := h
    rfl
  · obtain ⟨t, b, rfl, tb, ts, bs, k⟩ := h
    refine ⟨_, (pss_cons (ps_set (i := 2) sc_lowest_terms.nd rfl (.inl rfl) (pe_df D_common_divisor (hr.mono (by decide)) (by rfl) (pa_cons (pv 0) (pa_cons (pv 1) pa_nil))))
      (pss_one (ps_ret (pe_tup (pa_cons (pe_op op_fdivW (pv 0) (pv 2)) (pa_cons (pe_op op_fdivW (pv 1) (pv 2)) pa_nil)))))), ?_⟩
    have g0 : 0 < gc t b := gc_pos2 tb
    have gs : Sm 4000 (gc t b) := gc_sm tb ts bs
    refine ⟨_, rfl, _, rfl, t, b, rfl, ?_⟩
    refine ⟨_, rfl, _, rfl, _, _, rfl, rfl, dvw g0 gs, _, rfl, _, rfl, _, _, rfl, rfl, dvw g0 gs, (by show 2 ≤ sizeLine; decide), fun p hp => ?_⟩
    exact k _ _ (same_upd hp) hp upd_same
theorem sc_lowest_pair : FnScope ["fraction_or_open", "top", "bottom"] ["fraction_or_open"] (defScope s_lowest_pair) := ⟨rfl, rfl, rfl, by decide +kernel, rfl, by decide +kernel, by decide +kernel⟩

theorem ok_lowp {f : Addr} {fd : FuncData} (F : Fun K "lowest_pair" "lowest_pair" s_lowest_pair f fd) (D_pair_of : Df P w K mg base 2 "pair_of" ["fraction_or_open"] spPairOf) (D_lowest_terms : Df P w K mg base 2 "lowest_terms" ["top", "bottom"] spLow) : FnOk P w K mg base CX0 3 f fd ["fraction_or_open"] spLowP := by
  refine F.ok sc_lowest_pair (fun vs H Q E h => ?_) (fun cdv A outer s H vs Q E hr h => ?_)
  · obtain ⟨v, e, rfl, _⟩ := h
    rfl
  · obtain ⟨v, e, rfl, hv, ep, e1, e2, k⟩ := h
    refine ⟨_, (pss_cons (ps_asg (pe_df D_pair_of (hr.mono (by decide)) (by rfl) (pa_cons (pv 0) pa_nil)) (pg_tup rfl (pgs_cons (pg_name (i := 1) sc_lowest_pair.nd rfl (.inl rfl)) (pgs_cons (pg_name (i := 2) sc_lowest_pair.nd rfl (.inl rfl)) pgs_nil))))
      (pss_one (ps_ret (pe_df D_lowest_terms (hr.mono (by decide)) (by rfl) (pa_cons (pv 1) (pa_cons (pv 2) pa_nil)))))), ?_⟩
    rcases hv with ⟨i, rfl, rfl⟩ | ⟨p, rfl, hp⟩
    · refine ⟨_, rfl, .inl ⟨i, rfl, fun H1 t s1 nt ht => ?_⟩⟩
      refine ⟨t, _, rfl, SqT.of ht, rfl, _, _, rfl, _, _, rfl, rfl, ?_⟩
      exact ⟨_, rfl, _, rfl, _, _, rfl, ep, e1, e2, fun H2 t2 s2 nt2 ht2 => k _ t2 (s1.trans s2) (s1.free nt2) ht2⟩
    · refine ⟨_, rfl, .inr ⟨p, _, rfl, hp, ?_⟩⟩
      refine ⟨p, _, rfl, SqT.of hp, rfl, _, _, rfl, _, _, rfl, rfl, ?_⟩
      exact ⟨_, rfl, _, rfl, _, _, rfl, ep, e1, e2, fun H2 t2 s2 nt2 ht2 => k _ t2 s2 nt2 ht2⟩
end
end RL

set_option maxHeartbeats 1000000
/-! for i, x in enumerate(t), t a tuple. -/
namespace RL
open PySem L2 PySem.Spec PyProof.Rows
open AutoSeq1 (wpAny_loadPart')
theorem meets_enumerate_newT (l : Addr) (items : Array Value) (n : Nat) (dct : Option Addr) (sl : Array (Option Value)) :
    Meets (Builtin.«enumerate.__new__» ⟨[.type "enumerate", .ref l], []⟩) (fun _ R s => s.heap.get? l = some { cls := .type "tuple", dict := dct, data := .seq items n, slots := sl } ∧
      R (.ok (.ret (.ref (s.heap.push { cls := .type "tuple_iterator", data := .fields #[.ref l, .int 0 0] }).objs.size)))
        { s with heap := (s.heap.push { cls := .type "tuple_iterator", data := .fields #[.ref l, .int 0 0] }).push { cls := .type "enumerate", data := .fields #[.none, .bool false, .ref s.heap.objs.size, rawInt 0, .none, .none] } }) :=
  .of_wp fun prog w A R s h => by
    obtain ⟨hp, g, d, tk, os⟩ := s; obtain ⟨hl, h⟩ := h
    have hsub := sub_enumerate
    have hL : Heap.IsTuple (Shared.heap ⟨hp, g, d, tk, os⟩) l items := ⟨_, hl, rfl, n, rfl⟩
    wp_walk using wpAny_loadPart' hl
    refine wpAny_stack_any fun st => wpAny_pure ?_
    split
    · rename_i c _ _ _ _ _
      cases (c == Value.type "enumerate")
      · wp_walk using wpAny_loadPart' hl, wpAny_pyIter_tuple hL
        exact ⟨_, rfl, h⟩
      · wp_walk using wpAny_loadPart' hl, wpAny_pyIter_tuple hL
        exact ⟨_, rfl, h⟩
    · wp_walk using wpAny_loadPart' hl, wpAny_pyIter_tuple hL
      exact ⟨_, rfl, h⟩
section
variable {prog : Program} {w : World} {A : Around} {E : Value → Shared → Prop} {s : Shared}
theorem call_enumerate_tuple {l : Addr} {items : Array Value} {Q : Value → Shared → Prop} (hL : s.heap.IsTuple l items)
    (h : ∀ h', IsEnum h' (s.heap.objs.size + 1) s.heap.objs.size 0 .none → h'.IsTupleIter s.heap.objs.size l 0 → h'.objs.size = s.heap.objs.size + 2 →
      (∀ b o, s.heap.get? b = some o → h'.get? b = some o) → Q (.ref (s.heap.objs.size + 1)) { s with heap := h' }) :
    wpAny (model prog w) A (call (.type "enumerate") [.ref l]) Q E s := by
  obtain ⟨⟨c, dct, dt, sl⟩, hl, hc, n, hd⟩ := hL
  replace hc : c = .type "tuple" := hc
  replace hd : dt = .seq items n := hd
  subst hc hd
  refine callType_new F.called_enumerate (by decide) (F.typeCall_enumerate_1 _) (F.newCall_enumerate_1 _) (fun obj => F.args_object_init_2 obj _) F.entry_enumerate_new
    (meets_enumerate_newT l items n dct sl) ⟨hl, ?_⟩
  have hz : (s.heap.push { cls := .type "tuple_iterator", data := .fields #[.ref l, .int 0 0] }).objs.size = s.heap.objs.size + 1 := Heap.size_push ..
  show _ ∧ _
  rw [hz]
  have he : IsEnum ((s.heap.push { cls := .type "tuple_iterator", data := .fields #[.ref l, .int 0 0] }).push
      { cls := .type "enumerate", data := .fields #[.none, .bool false, .ref s.heap.objs.size, rawInt 0, .none, .none] }) (s.heap.objs.size + 1) s.heap.objs.size 0 .none := by
    have := Heap.get?_push_size (s.heap.push { cls := .type "tuple_iterator", data := .fields #[.ref l, .int 0 0] })
      (o := { cls := .type "enumerate", data := .fields #[.none, .bool false, .ref s.heap.objs.size, rawInt 0, .none, .none] }) rfl
    rw [hz] at this; exact this
  refine ⟨⟨_, he, rfl⟩, h _ he ⟨_, Heap.get?_push_of_some _ (Heap.get?_push_size _ rfl), rfl, rfl⟩ (by rw [Heap.size_push, hz]) fun b o x => Heap.get?_push_of_some _ (Heap.get?_push_of_some _ x)⟩
end
def IteT (K : PySem.W.Frag) (a : Addr) : It :=
  ⟨fun i H => ∃ (xs : List V) (x : V), SqT K H a xs ∧ xs[i]? = some x, fun i H v H' => ∃ T x, v = .ref T ∧ H T = none ∧ H' = upd H T (.tup [.int (i : Nat), x]) ∧ ∀ xs, SqT K H a xs → xs[i]? = some x, fun i H => ∃ xs : List V, SqT K H a xs ∧ xs.length = i⟩
theorem turn_enumT {P : Program} {w : World} {K : PySem.W.Frag} {elts : List Expr} {kk : Nat} {tpos : Pos} (a e it : Addr) :
    Turn P w K (.Tuple elts kk tpos) (IteT K a) [e, it] e (fun i h => (∃ old, IsEnum h e it ((i : Nat) : Int) old) ∧ h.IsTupleIter it a i ∧ e ≠ it ∧ a ≠ it ∧ a ≠ e) where
  mem := by simp
  obj := fun i h st b hb => by
    obtain ⟨⟨old, he⟩, ⟨o, ho, hc, hd⟩, _⟩ := st
    have e' : b = e ∨ b = it := by simpa using hb
    rcases e' with z | z
    · rw [z]; exact ⟨_, he, fun v q => nomatch q⟩
    · rw [z]; exact ⟨o, ho, fun v q => by rw [hd] at q; cases q⟩
  keep := fun i h h' st k => let ⟨⟨old, he⟩, hi, hne⟩ := st; ⟨⟨old, k e (by simp) _ he⟩, hi.at fun o q => k it (by simp) o q, hne⟩
  item := by
    intro X hP hw hK hc i pins s σ H E I hf st hg
    subst hP hw hK
    obtain ⟨⟨old, he⟩, hit, hne, hai, hae⟩ := st
    obtain ⟨xs, x, hq, hx⟩ := hg
    obtain ⟨its, rv, p, hz⟩ := I.tuple hq
    obtain ⟨u, hu, ru⟩ := rv.get hx
    have hel : e < s.heap.objs.size := Heap.lt_size he
    have hil : it < s.heap.objs.size := by obtain ⟨_, q, _⟩ := hit; exact Heap.lt_size q
    have hi : i < its.toArray.size := by
      have := (List.getElem?_eq_some_iff.mp hu).1
      simpa using this
    refine wpAny_pyNext_enum_itemD (Draws.tuple (A := X.A.in1) (I.ok.hd hc) it a hai its.toArray) he ⟨hit, p⟩ hi hne (by simp [hne, Ne.symm hae]) fun x' h' tk hPx ho st' hT hsz hk => ?_
    have ex : x' = u := by
      have h1 : its.toArray[i]? = some u := by simpa using hu
      rw [h1] at hPx
      exact (Option.some.inj hPx).symm
    subst ex
    refine ⟨_, rfl, wpAny_letOwnedTupleGo_enum (s := { s with heap := h', toks := tk + 1 }) ho fun h'' he' sb => ?_⟩
    have hT2 : h''.get? s.heap.objs.size = some { cls := .type "tuple", data := .seq #[.int i tk, x'] } := (sb.2 _ (Nat.ne_of_gt hel)).trans hT
    have new : ObjOk X.prog X.w (upd H s.heap.objs.size (.tup [.int (i : Nat), x])) h'' s.heap.objs.size (.tup [.int (i : Nat), x]) :=
      ⟨by show 2 ≤ sizeLine; decide, [.int i tk, x'], .cons ⟨_, rfl⟩ (.cons ru .nil), ⟨_, hT2, rfl, _, rfl⟩⟩
    have I1 : Inv X pins σ (upd H s.heap.objs.size (.tup [.int (i : Nat), x])) { s with heap := h'', toks := tk + 1 } :=
      I.turnedNew (ch := [e, it]) (fun b ob hb q => (sb.2 b (fun z => hb (by simp [z]))).trans (hk b ob (fun z => hb (by simp [z])) (fun z => hb (by simp [z])) q)) hf (Nat.le_refl _) new
    refine ⟨.ref s.heap.objs.size, _, I1, rfl, ⟨_, x, rfl, I.hok.fresh (Nat.le_refl _), rfl, fun ys hy => by rw [I.tuple_inj hy hq]; exact hx⟩, ⟨⟨x', ?_⟩, st'.1.at fun o q => (sb.2 it (Ne.symm hne)).trans q, hne, hai, hae⟩, fun b hb => ?_⟩
    · have e1 : ((i + 1 : Nat) : Int) = (i : Int) + 1 := by omega
      rw [e1]; exact he'
    · have hb' : b < s.heap.objs.size := by
        have e' : b = e ∨ b = it := by simpa using hb
        rcases e' with z | z
        · rw [z]; exact hel
        · rw [z]; exact hil
      rw [upd_ne (Nat.ne_of_lt hb')]
      exact (hf b hb).1
  done := by
    intro X hP hw hK hc i pins s σ H E I hf st hg
    subst hP hw hK
    obtain ⟨⟨old, he⟩, hit, hne, hai, hae⟩ := st
    obtain ⟨xs, hq, hx⟩ := hg
    obtain ⟨its, rv, p, hz⟩ := I.tuple hq
    obtain ⟨f0, f1, f2, f3, f4, f5⟩ := hf it (by simp)
    have hl := rv.length
    have en : its.toArray.size = i := by simp; omega
    have hit' : s.heap.IsTupleIter it a its.toArray.size := by rw [en]; exact hit
    exact wpAny_pyNext_enum_endD (Draws.tuple (A := X.A.in1) (I.ok.hd hc) it a hai its.toArray) he ⟨hit', p⟩ fun h' eb => ⟨rfl, I.turned (t' := s.toks) (fun b o hb q => eb b o hb q) f0 f1 f3 f4 f5⟩
  self := fun A i s Q E st h => let ⟨⟨_, he⟩, _⟩ := st; wpAny_pyIter_enum he h
def iEnumT (K : PySem.W.Frag) (ta : TA) : TI := fun σ H R => ta σ H fun vs H1 => ∃ a xs, vs = [.ref a] ∧ SqT K H1 a xs ∧ R (IteT K a) H1
theorem pi_enumT {X : Cx} {e : Expr} {ta : TA} {p pos tpos : Pos} {elts : List Expr} {kk : Nat} (hg : Gl X "enumerate") (hm : X.mg "enumerate" = none) (ha : PA X [e] ta) (hs : starEach [e] X.env = [(false, eval e X.env)] := by rfl) :
    PI X (.Tuple elts kk tpos) (.Call (.Name "enumerate" p) [e] [] pos) (iEnumT X.K ta) := by
  refine ⟨fun pins s σ H R I h => ?_⟩
  refine Call_ (ld_blt I hg hm boot_enumerate (PyProof.Rows.callWith_type1 (thn (ha.run pos pins s σ H _ I h) fun us s1 ⟨vs, H1, I1, r1, q1⟩ => ?_) hs rfl))
  obtain ⟨a, xs, ex, hq, q⟩ := q1
  subst ex
  cases r1 with
  | cons r rr =>
    cases rr
    cases r
    obtain ⟨its, rv, p', hz⟩ := I1.tuple hq
    have hal : a < s1.heap.objs.size := by obtain ⟨o, ho, _⟩ := id p'; exact Heap.lt_size ho
    refine call_enumerate_tuple p' fun h' he hit hsz hk => wpAny_pyIter_enum he ?_
    have I2 : Inv X pins σ H1 { s1 with heap := h' } := I1.kept (t' := s1.toks) hk
    refine ⟨s1.heap.objs.size + 1, [s1.heap.objs.size + 1, s1.heap.objs.size], _, _, H1, rfl, I2, turn_enumT a (s1.heap.objs.size + 1) s1.heap.objs.size, ⟨⟨.none, he⟩, hit, Nat.succ_ne_self _, Nat.ne_of_lt hal, Nat.ne_of_lt (Nat.lt_succ_of_lt hal)⟩, fun b hb => ?_, q⟩
    have e' : b = s1.heap.objs.size + 1 ∨ b = s1.heap.objs.size := by simpa using hb
    have hle : s1.heap.objs.size ≤ b := by
      rcases e' with z | z
      · rw [z]; exact Nat.le_add_right _ _
      · rw [z]; exact Nat.le_refl _
    exact I1.fpOk hle (I1.hok.fresh hle)
theorem for_enumT {K : PySem.W.Frag} {a : Addr} {xs : List V} {g : TG} {tb : TS} {D : Ends} {σ : L2.St} {H : Hp} (Pv : Nat → L2.St → Hp → Prop) (h0 : Pv 0 σ H) (hl : ∀ i σ H, i ≤ xs.length → Pv i σ H → SqT K H a xs)
    (hs : ∀ i x σ H T, xs[i]? = some x → Pv i σ H → H T = none → g (.ref T) σ (upd H T (.tup [.int (i : Nat), x])) fun σ2 H2 => tb { D with nx := Pv (i + 1), ct := Pv (i + 1), bk := D.nx } σ2 H2) (hd : ∀ σ H, Pv xs.length σ H → D.nx σ H) :
    ∃ W : Nat → Nat → L2.St → Hp → Prop, (∃ m, W 0 m σ H) ∧ ∀ i m σ H, W i m σ H →
      ((IteT K a).stop i H ∧ D.nx σ H) ∨ ((IteT K a).go i H ∧ ∃ N : L2.St → Hp → Prop, (∀ σ' H', N σ' H' → ∃ m', m' < m ∧ W (i + 1) m' σ' H') ∧ ∀ x H', (IteT K a).yld i H x H' → g x σ H' fun σ2 H2 => tb { D with nx := N, ct := N, bk := D.nx } σ2 H2) := by
  refine ⟨fun i m σ H => m = xs.length - i ∧ i ≤ xs.length ∧ Pv i σ H, ⟨xs.length, by simp, Nat.zero_le _, h0⟩, ?_⟩
  rintro i m σ H ⟨rfl, hi, p⟩
  have q := hl i σ H hi p
  by_cases hlt : i < xs.length
  · refine .inr ⟨⟨xs, xs[i], q, by simp [hlt]⟩, Pv (i + 1), fun σ' H' p' => ⟨xs.length - (i + 1), by omega, rfl, hlt, p'⟩, fun x H' y => ?_⟩
    obtain ⟨T, x', rfl, nT, rfl, hx⟩ := y
    exact hs i x' σ H T (hx xs q) p nT
  · have : i = xs.length := by omega
    subst this
    exact .inl ⟨⟨xs, q, rfl⟩, hd σ H p⟩
theorem fnR_mk {P : Program} {w : World} {K : PySem.W.Frag} {mg : Str → Option Value} {base : Heap} {k : Nat} {g : Addr} {fd : FuncData} {ps : List Str} {sp : Sp} (F : FnOk P w K mg base CX0 k g fd ps sp) (hb : Binds K fd ps []) : FnR P w K mg base CX0 k g sp := by
  intro A outer s H us vs Q E hr e0 r h
  have hl : (us ++ []).length = ps.length := by
    rw [List.append_nil, ← r.length]
    exact F.len _ _ _ _ h
  have KX : K.In s.heap := e0.mod.kin.keeps fun b o e => (e0.bs b o e).1
  have hbb := hb s us KX hl
  rw [List.append_nil] at hbb
  exact F.run A outer s H ⟨us, []⟩ us vs Q E hr e0 hbb r h
end RL

namespace RL
open PySem L2
/-! ### the texts of pieces -/
def wd (r : Bool) : Str := if r = true then Str.ofString "rail" else Str.ofString "rung"
def ptx (p : Pc) : Str := wd p.1 ++ Str.ofString " " ++ ts p.2
theorem ptx_dec : ∀ r r' : Bool, ∀ i j : Fin 12, ptx (r, (i.val : Int) + 1) = ptx (r', (j.val : Int) + 1) → r = r' ∧ i = j := by decide +kernel
theorem ptx_free_dec : ∀ r : Bool, ∀ i : Fin 12, 44 ∉ TL.tl (ptx (r, (i.val : Int) + 1)) ∧ (ptx (r, (i.val : Int) + 1)).length ≤ 7 := by decide +kernel
theorem pc_fin {p : Pc} (h : PcOk p) : ∃ i : Fin 12, p = (p.1, (i.val : Int) + 1) := by
  obtain ⟨h1, h2⟩ := h
  refine ⟨⟨(p.2 - 1).toNat, by omega⟩, ?_⟩
  ext
  · rfl
  · dsimp
    omega
theorem ptx_inj {p q : Pc} (hp : PcOk p) (hq : PcOk q) (h : ptx p = ptx q) : p = q := by
  obtain ⟨i, ei⟩ := pc_fin hp
  obtain ⟨j, ej⟩ := pc_fin hq
  rw [ei, ej] at h
  obtain ⟨a, b⟩ := ptx_dec _ _ _ _ h
  rw [ei, ej, a, b]
theorem ptx_free {p : Pc} (hp : PcOk p) : 44 ∉ TL.tl (ptx p) := by
  obtain ⟨i, ei⟩ := pc_fin hp
  rw [ei]
  exact (ptx_free_dec _ _).1
theorem ptx_len {p : Pc} (hp : PcOk p) : (ptx p).length ≤ 7 := by
  obtain ⟨i, ei⟩ := pc_fin hp
  rw [ei]
  exact (ptx_free_dec _ _).2
theorem wd_inj {r r' : Bool} (h : wd r = wd r') : r = r' := by
  revert r r'
  decide +kernel
theorem both {R G : Prop} (f : R → G) (r : R) : G := f r
theorem ne_selfV (v : V) : ¬ (!decide (v = v)) = true := by
  rw [decide_eq_true rfl]
  decide
/-! ### rows in the heap -/
def PieceAt (H : Hp) (v : V) (p : Pc) : Prop := ∃ t, v = .ref t ∧ H t = some (.tup [.str (wd p.1), .int p.2])
def PiecesAt (H : Hp) (vs : List V) (r : List Pc) : Prop := vs.length = r.length ∧ ∀ (i : Nat) (p : Pc), r[i]? = some p → ∃ v, vs[i]? = some v ∧ PieceAt H v p
theorem PieceAt.same {H H' : Hp} {v : V} {p : Pc} (h : PieceAt H v p) (s : Same H H') : PieceAt H' v p := by
  obtain ⟨t, e, ht⟩ := h
  exact ⟨t, e, s _ _ ht⟩
theorem PiecesAt.same {H H' : Hp} {vs : List V} {r : List Pc} (h : PiecesAt H vs r) (s : Same H H') : PiecesAt H' vs r :=
  ⟨h.1, fun i p hp => let ⟨v, hv, q⟩ := h.2 i p hp; ⟨v, hv, q.same s⟩⟩
theorem PieceAt.but {H H' : Hp} {x : Addr} {v : V} {p : Pc} (h : PieceAt H v p) (s : But x H H') (hx : ∀ xs, H x ≠ some (.tup xs)) : PieceAt H' v p := by
  obtain ⟨t, e, ht⟩ := h
  refine ⟨t, e, s _ _ ?_ ht⟩
  rintro rfl
  exact hx _ ht
theorem PiecesAt.but {H H' : Hp} {x : Addr} {vs : List V} {r : List Pc} (h : PiecesAt H vs r) (s : But x H H') (hx : ∀ xs, H x ≠ some (.tup xs)) : PiecesAt H' vs r :=
  ⟨h.1, fun i p hp => let ⟨v, hv, q⟩ := h.2 i p hp; ⟨v, hv, q.but s hx⟩⟩
theorem PiecesAt.at_ {H : Hp} {vs : List V} {r : List Pc} (h : PiecesAt H vs r) {i : Nat} {v : V} (hv : vs[i]? = some v) : ∃ p, r[i]? = some p ∧ PieceAt H v p := by
  have hi : i < r.length := by
    rw [← h.1]
    exact (List.getElem?_eq_some_iff.mp hv).1
  obtain ⟨w, hw, q⟩ := h.2 i r[i] (List.getElem?_eq_getElem hi)
  rw [hv] at hw
  cases hw
  exact ⟨_, List.getElem?_eq_getElem hi, q⟩
theorem RowOk.at_ {r : List Pc} (h : RowOk r) {i : Nat} {p : Pc} (hp : r[i]? = some p) : PcOk p := h p (List.mem_of_getElem? hp)
structure Txt3 (K : PySem.W.Frag) (mg : Str → Option Value) (tG t1 t2 t3 : Tok) (aO aW J C : Addr) : Prop extends Txt2 K mg tG aO where
  mgOh : mg "MOST_OHMS" = some (.int 12 t1)
  mgPi : mg "MOST_PIECES" = some (.int 4 t2)
  mgJo : mg "MOST_JOINED" = some (.int 8 t3)
  mgW : mg "WORDS" = some (.ref aW)
  wds : ∃ (o : Obj) (its : Array Value) (n : Nat), K.lookup aW = some o ∧ o.cls = .type "tuple" ∧ o.data = .seq its n ∧ its.size ≤ sizeLine ∧ Vals [.str (Str.ofString "rail"), .str (Str.ofString "rung")] its.toList
  mgJ : mg "JoinedRow" = some (.ref J)
  mgC : mg "Pattern" = some (.ref C)
  clJ : Cls K J
  nJ : NoAttr K J "row"
  caJ : PySem.W.findIn K (.ref J) "__class__" = some (some (.builtin "object.__class__"))
  cnJ : PySem.W.specialIn K (.builtin "object.__class__") "__get__" = some (some (.builtin "getset_descriptor.__get__"))
  ctJ : PySem.W.takesIn K (.builtin "object.__class__") = some true
  cmJ : PySem.W.mroIn K J (.type "object") = some true
  isJ : PySem.W.kitOne K (.ref J) (.ref J) = some true
  ktJ : PySem.W.kitOne K (.type "tuple") (.ref J) = some false
  cl : Cls K C
  nRow : NoAttr K C "row"
  nMat : NoAttr K C "matrix"
  nScl : NoAttr K C "scale"
  nFour : NoAttr K C "four"
/-! ### promises -/
def spJ (J : Addr) : Sp := fun vs H Q _ => ∃ (x dx : Addr) (v : V), vs = [.ref x, v] ∧ H x = some (.ins J dx []) ∧ Q .non (upd H x (.ins J dx [("row", v)]))
def spIsPiece : Sp := fun vs H Q _ => ∃ (v : V) (p : Pc), vs = [v] ∧ PieceAt H v p ∧ PcOk p ∧ Q (.bl true) H
def spChk (J : Addr) : Sp := fun vs H Q _ => ∃ p : Addr, vs = [.ref p] ∧ ((∃ j dj q, H p = some (.tup [.ref j]) ∧ H j = some (.ins J dj [("row", .ref q)]) ∧ Q (.ref q) H) ∨
  (∃ ws r, H p = some (.tup ws) ∧ PiecesAt H ws r ∧ RowOk r ∧ 1 ≤ r.length ∧ r.length ≤ 4 ∧ ∀ H', Same H H' → Q (.ref p) H'))
def MatT (m : Mx) : List V := [.int m.a, .int m.b, .int m.c, .int m.d]
def spMat : Sp := fun vs H Q _ => ∃ (q : Addr) (ws : List V) (r : List Pc), vs = [.ref q] ∧ H q = some (.tup ws) ∧ PiecesAt H ws r ∧ RowOk r ∧ r.length ≤ 8 ∧
  ∀ H' p m, Same H H' → H' p = some (.tup [.ref m, .int (sclR r)]) → H' m = some (.tup (MatT (matR r))) → H p = none → H m = none → Q (.ref p) H'
def spShown : Sp := fun vs H Q _ => ∃ (a b : Addr) (m : Mx) (e : Int × Int), vs = [.ref a, .ref b] ∧ H a = some (.tup (MatT m)) ∧ H b = some (.tup [.int e.1, .int e.2]) ∧ MxSm 3000 m ∧ Sm 4000 e.1 ∧ Sm 4000 e.2 ∧
  ∀ H' p, Same H H' → H p = none → H' p = some (.tup [.int (m.app e).1, .int (m.app e).2]) → Q (.ref p) H'
def spPtx : Sp := fun vs H Q _ => ∃ p : Pc, vs = [.str (wd p.1), .int p.2] ∧ PcOk p ∧ Q (.str (ptx p)) H
def spPwt : Sp := fun vs H Q _ => ∃ p : Pc, vs = [.str (ptx p)] ∧ PcOk p ∧ ∀ H' t, Same H H' → H t = none → H' t = some (.tup [.str (wd p.1), .int p.2]) → Q (.ref t) H'
section
variable {P : Program} {w : World} {K : PySem.W.Frag} {mg : Str → Option Value} {base : Heap} {tG t1 t2 t3 : Tok} {aO aW J C : Addr}
theorem sc_JoinedRow_init : FnScope ["self", "row"] ["self", "row"] (defScope s_JoinedRow_init) := ⟨rfl, rfl, rfl, by decide +kernel, rfl, by decide +kernel, by decide +kernel⟩

theorem ok_join {f : Addr} {fd : FuncData} (F : Fun K "__init__" "JoinedRow.__init__" s_JoinedRow_init f fd) (T : Txt3 K mg tG t1 t2 t3 aO aW J C) : FnOk P w K mg base CX0 1 f fd ["self", "row"] (spJ J) := by
  refine F.ok sc_JoinedRow_init (fun vs H Q E h => ?_) (fun cdv A outer s H vs Q E hr h => ?_)
  · obtain ⟨x, dx, v, rfl, _⟩ := h
    rfl
  · obtain ⟨x, dx, v, rfl, hx, k⟩ := h
    refine ⟨_, (pss_one (ps_fld (pv 0) (pv 1) rfl)), ?_⟩
    exact ⟨_, rfl, _, rfl, x, J, dx, _, rfl, hx, T.clJ, T.nJ, (by show 0 < 1000; decide), k⟩
theorem sc_is_piece : FnScope ["value", "word", "ohms"] ["value"] (defScope s_is_piece) := ⟨rfl, rfl, rfl, by decide +kernel, rfl, by decide +kernel, by decide +kernel⟩

theorem ok_ispiece {f : Addr} {fd : FuncData} (F : Fun K "is_piece" "is_piece" s_is_piece f fd) (T : Txt3 K mg tG t1 t2 t3 aO aW J C) (D_is_integer_within : Df P w K mg base 2 "is_integer_within" ["value", "least", "most"] spWithin) : FnOk P w K mg base CX0 3 f fd ["value"] spIsPiece := by
  refine F.ok sc_is_piece (fun vs H Q E h => ?_) (fun cdv A outer s H vs Q E hr h => ?_)
  · obtain ⟨v, p, rfl, _⟩ := h
    rfl
  · obtain ⟨v, p, rfl, ⟨t, rfl, ht⟩, ⟨p1, p2⟩, k⟩ := h
    refine ⟨_, (pss_cons (ps_if (PW.pt (pw_or (pt_not (pt_val (pe_callB call_isi (by rfl) T.isinstance (by decide +kernel) (pa_cons (pv 0) (pa_cons (pe_bltn (v := .ty "tuple") (by rfl) T.tuple_ (by decide +kernel) rfl) pa_nil))))) (pw_or1 (pt_cmpR op_ne (pe_callB call_len_seq (by rfl) T.len (by decide +kernel) (pa_cons (pv 0) pa_nil)) pe_int (nomark _))))) (pss_one (ps_ret pe_bl)) pss_nil)
      (pss_cons (ps_asg (pv 0) (pg_tup rfl (pgs_cons (pg_name (i := 1) sc_is_piece.nd rfl (.inl rfl)) (pgs_cons (pg_name (i := 2) sc_is_piece.nd rfl (.inl rfl)) pgs_nil))))
      (pss_one (ps_ret (pe_and (pe_callB call_isi (by rfl) T.isinstance (by decide +kernel) (pa_cons (pv 1) (pa_cons (pe_bltn (v := .ty "str") (by rfl) T.str_ (by decide +kernel) rfl) pa_nil))) (pe_and (pe_cmpR op_in_seq (pv 1) (pe_glob (v := .ref aW) rfl T.mgW rfl) (by rfl)) (pe_one (pe_df D_is_integer_within (hr.mono (by decide)) (by rfl) (pa_cons (pv 2) (pa_cons pe_int (pa_cons (pe_glob (v := .int 12) rfl T.mgOh ⟨_, rfl⟩) pa_nil))))))))))), ?_⟩
    refine ⟨_, rfl, _, _, _, _, true, rfl, .ty _, .base (.tup ht), kit_ty (by decide +kernel), true, rfl, iteF ?_⟩
    refine ⟨_, rfl, t, _, rfl, .inr (SqT.of ht), rfl, _, rfl, ite2 (fun e => absurd e (ne_selfV (.int 2))) (fun _ => ?_)⟩
    refine ⟨_, rfl, t, _, rfl, SqT.of ht, rfl, _, _, rfl, _, _, rfl, rfl, ?_⟩
    refine ⟨_, rfl, _, _, _, _, true, rfl, .ty _, .base (.str _), kit_ty (by decide +kernel), true, rfl, iteT ?_⟩
    have hin : inV (V.str (wd p.1)) [.str (Str.ofString "rail"), .str (Str.ofString "rung")] = true := by
      cases p.1 <;> decide +kernel
    refine ⟨_, rfl, aW, _, rfl, .inr (.inr T.wds), rfl, rfl, true, congrArg V.bl hin, iteT ?_⟩
    exact ⟨_, rfl, p.2, 1, 12, rfl, p1, p2, k⟩
theorem sc_checked_row : FnScope ["pieces", "at", "piece"] ["pieces"] (defScope s_checked_row) := ⟨rfl, rfl, rfl, by decide +kernel, rfl, by decide +kernel, by decide +kernel⟩

theorem ok_chk {f : Addr} {fd : FuncData} (F : Fun K "checked_row" "checked_row" s_checked_row f fd) (T : Txt3 K mg tG t1 t2 t3 aO aW J C) (D_is_piece : Df P w K mg base 3 "is_piece" ["value"] spIsPiece) : FnOk P w K mg base CX0 4 f fd ["pieces"] (spChk J) := by
  refine F.ok sc_checked_row (fun vs H Q E h => ?_) (fun cdv A outer s H vs Q E hr h => ?_)
  · obtain ⟨p, rfl, _⟩ := h
    rfl
  · obtain ⟨p, rfl, h⟩ := h
    refine ⟨_, (pss_cons (ps_if (PW.pt (pw_and (pt_cmpR op_eq (pe_callB call_len_seq (by rfl) T.len (by decide +kernel) (pa_cons (pv 0) pa_nil)) pe_int (nomark _)) (pw_and1 (pt_val (pe_callB call_isi (by rfl) T.isinstance (by decide +kernel) (pa_cons (pe_ix ix_tup (pv 0) pe_int (fun _ _ => rfl)) (pa_cons (pe_glob (v := .ref J) rfl T.mgJ rfl) pa_nil))))))) (pss_one (ps_ret (pe_fld (pe_ix ix_tup (pv 0) pe_int (fun _ _ => rfl)) rfl))) pss_nil)
      (pss_cons (ps_if (PW.pt (pw_or (pt_cmpR op_lt (pe_callB call_len_seq (by rfl) T.len (by decide +kernel) (pa_cons (pv 0) pa_nil)) pe_int (nomark _)) (pw_or1 (pt_cmpR op_gt (pe_callB call_len_seq (by rfl) T.len (by decide +kernel) (pa_cons (pv 0) pa_nil)) (pe_glob (v := .int 4) rfl T.mgPi ⟨_, rfl⟩) (nomark _))))) (pss_one ps_never) pss_nil)
      (pss_cons (ps_for PassesOwn.never rfl (pi_enumT (by rfl) T.enumerate (pa_cons (pv 0) pa_nil)) (pg_tup rfl (pgs_cons (pg_name (i := 1) sc_checked_row.nd rfl (.inl rfl)) (pgs_cons (pg_name (i := 2) sc_checked_row.nd rfl (.inl rfl)) pgs_nil))) (pss_one (ps_if (pt_not (pt_val (pe_df D_is_piece (hr.mono (by decide)) (by rfl) (pa_cons (pv 2) pa_nil)))) (pss_one ps_never) pss_nil)))
      (pss_one (ps_ret (pv 0)))))), ?_⟩
    rcases h with ⟨j, dj, q, hp, hj, k⟩ | ⟨ws, r, hp, hw, hok, l1, l4, k⟩
    · refine ⟨_, rfl, p, _, rfl, .inr (SqT.of hp), rfl, _, rfl, ite2 (fun _ => ?_) (fun e => absurd (decide_eq_true rfl) e)⟩
      refine ⟨_, rfl, p, _, _, _, rfl, rfl, SqT.of hp, atI_nat (j := 0) rfl, _, _, _, _, true, rfl, .own J, .base (.ins hj T.clJ T.caJ T.cnJ T.ctJ T.cmJ), T.isJ, true, rfl, iteT ?_⟩
      exact ⟨_, rfl, p, _, _, _, rfl, rfl, SqT.of hp, atI_nat (j := 0) rfl, j, J, dj, _, _, rfl, hj, T.clJ, T.nJ, rfl, k⟩
    · have lw : ws.length = r.length := hw.1
      refine both (fun rest => ⟨_, rfl, p, _, rfl, .inr (SqT.of hp), rfl, _, rfl, ite2 (fun e => ?_) (fun _ => rest)⟩) ?_
      · have e1 : ws.length = 1 := by
          have := V.int.inj (of_decide_eq_true e)
          omega
        obtain ⟨t, et, ht⟩ := (hw.2 0 r[0] (List.getElem?_eq_getElem (by omega)))
        obtain ⟨a, rfl, ha⟩ := ht
        refine ⟨_, rfl, p, _, _, _, rfl, rfl, SqT.of hp, atI_nat (j := 0) et, _, _, _, _, false, rfl, .own J, .base (.tup ha), T.ktJ, false, rfl, iteF rest⟩
      refine ⟨_, rfl, p, _, rfl, .inr (SqT.of hp), _, _, rfl, rfl, _, rfl, ite2 (fun e => ?_) (fun _ => ?_)⟩
      · have := of_decide_eq_true e
        omega
      refine ⟨_, rfl, p, _, rfl, .inr (SqT.of hp), _, _, rfl, rfl, _, rfl, ite2 (fun e => ?_) (fun _ => ?_)⟩
      · have := of_decide_eq_true e
        omega
      refine ⟨_, rfl, p, _, rfl, SqT.of hp, ?_⟩
      refine for_enumT (K := K) (a := p) (xs := ws) (fun i σ H' => Same H H' ∧ ∃ v1 v2, σ = [some (.ref p), v1, v2]) ⟨Same.refl _, none, none, rfl⟩ (fun i σ H' _ h => SqT.of (h.1 _ _ hp)) ?_ ?_
      · rintro i x σ H' T0 hx ⟨sm, v1, v2, rfl⟩ nT
        refine ⟨T0, _, rfl, SqT.of upd_same, rfl, _, _, rfl, _, _, rfl, rfl, ?_⟩
        obtain ⟨pc, hpc, hx'⟩ := hw.at_ hx
        have s2 := sm.trans (same_upd (o := .tup [.int (i : Nat), x]) nT)
        exact ⟨_, rfl, _, pc, rfl, hx'.same s2, hok.at_ hpc, true, rfl, iteF ⟨s2, _, _, rfl⟩⟩
      · rintro σ H' ⟨sm, v1, v2, rfl⟩
        exact ⟨_, rfl, k _ sm⟩
theorem sc_matrix_and_scale : FnScope ["row", "a", "b", "c", "d", "scale", "word", "ohms"] ["row"] (defScope s_matrix_and_scale) := ⟨rfl, rfl, rfl, by decide +kernel, rfl, by decide +kernel, by decide +kernel⟩

theorem ok_mat {f : Addr} {fd : FuncData} (F : Fun K "matrix_and_scale" "matrix_and_scale" s_matrix_and_scale f fd) : FnOk P w K mg base CX0 1 f fd ["row"] spMat := by
  refine F.ok sc_matrix_and_scale (fun vs H Q E h => ?_) (fun cdv A outer s H vs Q E hr h => ?_)
  · obtain ⟨q, ws, r, rfl, _⟩ := h
    rfl
  · obtain ⟨q, ws, r, rfl, hq, hw, hok, l8, k⟩ := h
    refine ⟨_, (pss_cons (ps_asg (pe_tup (pa_cons pe_int (pa_cons pe_int (pa_cons pe_int (pa_cons pe_int pa_nil))))) (pg_tup rfl (pgs_cons (pg_name (i := 1) sc_matrix_and_scale.nd rfl (.inl rfl)) (pgs_cons (pg_name (i := 2) sc_matrix_and_scale.nd rfl (.inl rfl)) (pgs_cons (pg_name (i := 3) sc_matrix_and_scale.nd rfl (.inl rfl)) (pgs_cons (pg_name (i := 4) sc_matrix_and_scale.nd rfl (.inl rfl)) pgs_nil))))))
      (pss_cons (ps_set (i := 5) sc_matrix_and_scale.nd rfl (.inl rfl) pe_int)
      (pss_cons (ps_for PassesOwn.never rfl (pi_tup (pv 0)) (pg_tup rfl (pgs_cons (pg_name (i := 6) sc_matrix_and_scale.nd rfl (.inl rfl)) (pgs_cons (pg_name (i := 7) sc_matrix_and_scale.nd rfl (.inl rfl)) pgs_nil))) (pss_one (ps_if (pt_cmpR op_eq (pv 6) pe_str (nomark _)) (pss_one (ps_par (by rfl) sc_matrix_and_scale.nd (i := 2) (j := 4) rfl rfl (by decide) rfl rfl (pa_cons (pe_op op_add (pe_op op_mulX (pv 1) (pv 7)) (pv 2)) (pa_cons (pe_op op_add (pe_op op_mulX (pv 3) (pv 7)) (pv 4)) pa_nil)) (by rfl))) (pss_cons (ps_asg (pe_tup (pa_cons (pe_op op_add (pe_op op_mulX (pv 1) (pv 7)) (pv 2)) (pa_cons (pe_op op_mulX (pv 2) (pv 7)) (pa_cons (pe_op op_add (pe_op op_mulX (pv 3) (pv 7)) (pv 4)) (pa_cons (pe_op op_mulX (pv 4) (pv 7)) pa_nil))))) (pg_tup rfl (pgs_cons (pg_name (i := 1) sc_matrix_and_scale.nd rfl (.inl rfl)) (pgs_cons (pg_name (i := 2) sc_matrix_and_scale.nd rfl (.inl rfl)) (pgs_cons (pg_name (i := 3) sc_matrix_and_scale.nd rfl (.inl rfl)) (pgs_cons (pg_name (i := 4) sc_matrix_and_scale.nd rfl (.inl rfl)) pgs_nil))))))
      (pss_one (ps_set (i := 5) sc_matrix_and_scale.nd rfl (.inl rfl) (pe_op op_mulX (pv 5) (pv 7))))))))
      (pss_one (ps_ret (pe_tup (pa_cons (pe_tup (pa_cons (pv 1) (pa_cons (pv 2) (pa_cons (pv 3) (pa_cons (pv 4) pa_nil))))) (pa_cons (pv 5) pa_nil)))))))), ?_⟩
    refine ⟨(by show 4 ≤ sizeLine; decide), fun p0 hp0 => ⟨p0, _, rfl, SqT.of upd_same, rfl, _, _, rfl, _, _, rfl, _, _, rfl, _, _, rfl, rfl, ?_⟩⟩
    have s0 := same_upd (o := .tup [.int 1, .int 0, .int 0, .int 1]) hp0
    refine ⟨_, rfl, q, rfl, ⟨_, SqT.of (s0 _ _ hq)⟩, ?_⟩
    refine for_tup (K := K) (a := q) (xs := ws) (fun i σ H' => Same H H' ∧ ∃ v1 v2, σ = [some (.ref q), some (.int ((r.take i).foldl stepM m1).a), some (.int ((r.take i).foldl stepM m1).b), some (.int ((r.take i).foldl stepM m1).c), some (.int ((r.take i).foldl stepM m1).d), some (.int ((r.take i).foldl stepS 1)), v1, v2]) ⟨s0, none, none, rfl⟩ (fun i σ H' _ h => SqT.of (h.1 _ _ hq)) ?_ ?_
    · rintro i x σ H' hx ⟨sm, v1, v2, rfl⟩
      obtain ⟨pc, hpc, t, rfl, ht⟩ := hw.at_ hx
      have hi : i < r.length := (List.getElem?_eq_some_iff.mp hpc).1
      have tk : r.take (i + 1) = r.take i ++ [pc] := by
        rw [List.take_succ, hpc]
        rfl
      have f1 : (r.take (i + 1)).foldl stepM m1 = stepM ((r.take i).foldl stepM m1) pc := by rw [tk, List.foldl_append]; rfl
      have f2 : (r.take (i + 1)).foldl stepS 1 = stepS ((r.take i).foldl stepS 1) pc := by rw [tk, List.foldl_append]; rfl
      have okt : RowOk (r.take i) := fun z hz => hok z (List.mem_of_mem_take hz)
      have ms : MxSm 41 ((r.take i).foldl stepM m1) := (fold_sm okt m1_sm).mono (by rw [List.length_take]; omega)
      have ss : Sm 41 ((r.take i).foldl stepS 1) := (scl_sm (n := 1) okt (by unfold Sm; decide)).mono (by rw [List.length_take]; omega)
      obtain ⟨sa, sb, sc, sd⟩ := ms
      have po := ohm_sm (hok.at_ hpc)
      have ht' := sm _ _ ht
      rw [f1, f2]
      generalize (r.take i).foldl stepM m1 = m at *
      generalize (r.take i).foldl stepS 1 = sc0 at *
      refine ⟨t, _, rfl, SqT.of ht', rfl, _, _, rfl, _, _, rfl, rfl, ?_⟩
      refine ⟨_, rfl, rfl, _, rfl, ite2 (fun e => ?_) (fun e => ?_)⟩
      · have r1 : pc.1 = true := wd_inj (r' := true) (V.str.inj (of_decide_eq_true e))
        unfold stepM stepS
        rw [if_pos r1, if_pos r1]
        exact ⟨_, rfl, _, rfl, _, _, rfl, rfl, mx sa po, _, rfl, _, _, rfl, rfl, _, rfl, _, rfl, _, _, rfl, rfl, mx sc po, _, rfl, _, _, rfl, rfl, _, _, rfl, sm, _, _, rfl⟩
      · have r1 : ¬ pc.1 = true := fun z => e (decide_eq_true (by rw [z]; rfl))
        unfold stepM stepS
        rw [if_neg r1, if_neg r1]
        refine ⟨_, rfl, _, rfl, _, _, rfl, rfl, mx sa po, _, rfl, _, _, rfl, rfl, _, rfl, _, rfl, _, _, rfl, rfl, mx sb po, _, rfl, _, rfl, _, _, rfl, rfl, mx sc po, _, rfl, _, _, rfl, rfl, _, rfl, _, rfl, _, _, rfl, rfl, mx sd po, (by show 4 ≤ sizeLine; decide), fun p1 hp1 => ⟨p1, _, rfl, SqT.of upd_same, rfl, _, _, rfl, _, _, rfl, _, _, rfl, _, _, rfl, rfl, ?_⟩⟩
        exact ⟨_, rfl, _, rfl, _, _, rfl, rfl, mx ss po, sm.trans (same_upd hp1), _, _, rfl⟩
    · rintro σ H' ⟨sm, v1, v2, rfl⟩
      rw [hw.1, List.take_length]
      refine ⟨_, rfl, _, rfl, _, rfl, _, rfl, (by show 4 ≤ sizeLine; decide), fun m hm => ⟨_, rfl, (by show 2 ≤ sizeLine; decide), fun p hp => ?_⟩⟩
      have s1 := same_upd (o := .tup (MatT (matR r))) hm
      exact k _ p m ((sm.trans s1).trans (same_upd hp)) upd_same (same_upd hp _ _ upd_same) (sm.free (s1.free hp)) (sm.free hm)
abbrev s_shown_before : Stmt := top 50
theorem sc_piece_text : FnScope ["word", "ohms"] ["word", "ohms"] (defScope s_piece_text) := ⟨rfl, rfl, rfl, by decide +kernel, rfl, by decide +kernel, by decide +kernel⟩

theorem ok_ptx {f : Addr} {fd : FuncData} (F : Fun K "piece_text" "piece_text" s_piece_text f fd) : FnOk P w K mg base CX0 1 f fd ["word", "ohms"] spPtx := by
  refine F.ok sc_piece_text (fun vs H Q E h => ?_) (fun cdv A outer s H vs Q E hr h => ?_)
  · obtain ⟨p, rfl, _⟩ := h
    rfl
  · obtain ⟨p, rfl, hp, k⟩ := h
    refine ⟨_, (pss_one (ps_ret (pe_joined (PJ.cons (pe_fmt (pv 0)) (PJ.cons pe_str (PJ.cons (pe_fmt (pv 1)) PJ.nil)))))), ?_⟩
    have ww : OkT 4 (wd p.1) := by
      unfold wd
      split
      · exact OkT.of "rail"
      · exact OkT.of "rung"
    have oh : Sm 200 p.2 := (ohm_sm hp).mono (by decide)
    have o1 : OkT 4 (Str.empty ++ wd p.1) := by
      rw [Str.empty_append]
      exact ww
    have o2 := o1.app (OkT.of " ")
    have o3 := o2.app (ts_ok oh)
    refine ⟨_, rfl, .inl ⟨_, rfl, ww.fits, _, rfl, o1.fits, _, rfl, o2.fits, _, rfl, .inr ⟨_, rfl, Nat.lt_trans (log_sm (by decide) oh) (by decide), _, rfl, o3.fits, ?_⟩⟩⟩
    show Q (.str (((Str.empty ++ wd p.1) ++ Str.ofString " ") ++ ts p.2)) H
    rw [Str.empty_append]
    exact k
theorem sc_piece_with_text : FnScope ["text", "word", "ohms"] ["text"] (defScope s_piece_with_text) := ⟨rfl, rfl, rfl, by decide +kernel, rfl, by decide +kernel, by decide +kernel⟩

theorem ok_pwt {f : Addr} {fd : FuncData} (F : Fun K "piece_with_text" "piece_with_text" s_piece_with_text f fd) (T : Txt3 K mg tG t1 t2 t3 aO aW J C) (D_piece_text : Df P w K mg base 1 "piece_text" ["word", "ohms"] spPtx) : FnOk P w K mg base CX0 2 f fd ["text"] spPwt := by
  refine F.ok sc_piece_with_text (fun vs H Q E h => ?_) (fun cdv A outer s H vs Q E hr h => ?_)
  · obtain ⟨p, rfl, _⟩ := h
    rfl
  · obtain ⟨p, rfl, hp, k⟩ := h
    refine ⟨_, (pss_cons (ps_for PassesOwn.never rfl (pi_tup (pe_glob (v := .ref aW) rfl T.mgW rfl)) (pg_name (i := 1) sc_piece_with_text.nd rfl (.inl rfl)) (pss_one (ps_for PassesOwn.never rfl (pi_range2 rfl T.range (pa_cons pe_int (pa_cons (pe_op op_add (pe_glob (v := .int 12) rfl T.mgOh ⟨_, rfl⟩) pe_int) pa_nil))) (pg_name (i := 2) sc_piece_with_text.nd rfl (.inl rfl)) (pss_one (ps_if (pt_cmpR op_eq (pv 0) (pe_df D_piece_text (hr.mono (by decide)) (by rfl) (pa_cons (pv 1) (pa_cons (pv 2) pa_nil))) (nomark _)) (pss_one (ps_ret (pe_tup (pa_cons (pv 1) (pa_cons (pv 2) pa_nil))))) pss_nil)))))
      (pss_one (ps_ret pe_non))), ?_⟩
    have hW : SqT K H aW [.str (Str.ofString "rail"), .str (Str.ofString "rung")] := .inr T.wds
    refine ⟨aW, rfl, ⟨_, hW⟩, ?_⟩
    refine for_tup (K := K) (a := aW) (xs := [.str (Str.ofString "rail"), .str (Str.ofString "rung")]) (fun i σ H' => H' = H ∧ (∃ v1 v2, σ = [some (.str (ptx p)), v1, v2]) ∧ (1 ≤ i → p.1 = false) ∧ (2 ≤ i → False)) ⟨rfl, ⟨none, none, rfl⟩, by omega, by omega⟩ (fun i σ H' _ h => by rw [h.1]; exact hW) ?_ ?_
    · rintro i x σ H' hx ⟨rfl, ⟨v1, v2, rfl⟩, i1, i2⟩
      obtain ⟨r, rfl, hr1, hr2⟩ : ∃ r : Bool, x = .str (wd r) ∧ (p.1 ≠ r → (1 ≤ i + 1 → p.1 = false)) ∧ (p.1 ≠ r → (2 ≤ i + 1 → False)) := by
        match i, hx with
        | 0, hx =>
          cases hx
          refine ⟨true, rfl, fun z _ => by simpa using z, fun z y => absurd y (by decide)⟩
        | 1, hx =>
          cases hx
          exact ⟨false, rfl, fun z _ => i1 (by decide), fun z _ => z (i1 (by decide))⟩
      refine ⟨_, _, rfl, rfl, 1, 13, rfl, ⟨by decide, by decide, by decide, by decide⟩, ?_⟩
      refine for_range (lo := 1) (n := Int.toNat (13 - 1)) (fun j σ H'' => H'' = H' ∧ (∃ v2, σ = [some (.str (ptx p)), some (.str (wd r)), v2]) ∧ (p.1 = r → (j : Int) < p.2)) ⟨rfl, ⟨_, rfl⟩, fun _ => by have := hp.1; omega⟩ ?_ ?_
      · rintro j σ H'' hj ⟨rfl, ⟨v2, rfl⟩, hjp⟩
        have hj12 : j < 12 := hj
        have hq : PcOk (r, 1 + (j : Int)) := ⟨by dsimp; omega, by dsimp; omega⟩
        refine ⟨_, rfl, _, rfl, _, rfl, (r, 1 + (j : Int)), rfl, hq, rfl, _, rfl, ite2 (fun e => ?_) (fun e => ?_)⟩
        · have e1 : p = (r, 1 + (j : Int)) := ptx_inj hp hq (V.str.inj (of_decide_eq_true e))
          refine ⟨_, rfl, _, rfl, (by show 2 ≤ sizeLine; decide), fun t ht => ?_⟩
          refine k _ t (same_upd ht) ht ?_
          rw [upd_same, e1]
        · refine ⟨rfl, ⟨_, rfl⟩, fun z => ?_⟩
          have := hjp z
          rcases Int.lt_or_le ((j : Int) + 1) p.2 with y | y
          · omega
          · refine absurd (decide_eq_true ?_) e
            have e2 : p = (r, 1 + (j : Int)) := by
              ext
              · exact z
              · show p.2 = 1 + (j : Int)
                omega
            rw [← e2]
      · rintro σ H'' ⟨rfl, ⟨v2, rfl⟩, hjp⟩
        have ne : p.1 ≠ r := fun z => by
          have h1 : (12 : Int) < p.2 := hjp z
          have := hp.2
          omega
        exact ⟨rfl, ⟨_, _, rfl⟩, hr1 ne, hr2 ne⟩
    · rintro σ H' ⟨rfl, _, _, z⟩
      exact (z (by decide)).elim
end
end RL

set_option maxHeartbeats 2000000
/-! An own exception class called with arguments by position and by keyword, its __init__ a def. -/
namespace PySem
namespace RLX
open PySem.W PySem.Calls PyProof.Rows PySem.HandSPX
section
variable {prog : Program} {w : World} {M : Model} {A : Around} {E : Value → Shared → Prop} {R : Result → Shared → Prop} {h : Heap} {g : Array GenState} {d : Drawn} {t : Nat} {os : OsState}
variable {nm q : Str} {C N : Addr} {bs bm bmB : List Value} {hdct : Bool} {sn : List Str} {sub : List Value} {ab : Bool} {col : Option Bool} {dd : Option Addr} {k0 k1 k2 k3 k5 : Option Value} {B newId initId : String}
theorem chk_new (F : ExcBaseFacts B newId initId bmB) (hT : ∀ X : String, bm.contains (.type X) = bmB.contains (.type X)) {rest : List Value} {kw : List (Str × Value)} {Q : Unit → Shared → Prop}
    (hC : h.get? C = some (excClassObj nm q C N bs bm hdct sn sub ab col dd k0 k1 k2 k3 k5 newId)) (hq : Q () ⟨h, g, d, t, os⟩) : wpAny M A (checkBuiltinCall newId ⟨.ref C :: rest, kw⟩) Q E ⟨h, g, d, t, os⟩ := by
  have yB : (Value.ref C :: bm).contains (.type B) = true := by
    rw [List.contains_cons, hT, F.hasB, Bool.or_true]
  have st := F.noStar
  simp only [checkBuiltinCall, F.newKind, F.newSplit, F.newRow]
  repeat (first
    | refine wpAny_loadPart_at hC ?_
    | (refine wpAny_isSubtype_exc hC ?_; rw [yB])
    | refine wpAny_staticBase_exc hC ?_
    | refine wpAny_madeBy_exc hC ?_
    | simp only [bne_self_eq_false, Bool.false_eq_true, if_false]
    | wp_step)
  exact hq
abbrev laid2 (C : Addr) (rest : List Value) (h : Heap) : Heap := (h.push (W.kdv_tup rest)).push (excO C h.objs.size)
theorem run_new (F : ExcBaseFacts B newId initId bmB) (hT : ∀ X : String, bm.contains (.type X) = bmB.contains (.type X)) {rest : List Value} {kw : List (Str × Value)}
    (hC : h.get? C = some (excClassObj nm q C N bs bm hdct sn sub ab col dd k0 k1 k2 k3 k5 newId))
    (hq : R (.ok (.ret (.ref (h.objs.size + 1)))) ⟨laid2 C rest h, g, d, t, os⟩) (hz : rest.length ≤ sizeLine) :
    codeAny (model prog w) A (.builtin newId ⟨.ref C :: rest, kw⟩) R ⟨h, g, d, t, os⟩ := by
  have en := F.ends
  have yB : (Value.ref C :: bm).contains (.type B) = true := by
    rw [List.contains_cons, hT, F.hasB, Bool.or_true]
  have yA : (Value.ref C :: bm).contains (.type "AttributeError") = false := by
    rw [List.contains_cons, hT, F.noAttr]
    rfl
  have yN : (Value.ref C :: bm).contains (.type "NameError") = false := by
    rw [List.contains_cons, hT, F.noName]
    rfl
  refine codeAny_builtinAt F.entry ?_
  unfold Builtin.«BaseException.__new__»
  refine wpAt_bind ?_
  show wpAt _ _ _ (stack >>= _) _ _ _
  refine wpAt_bind (wpAt_stack fun p below => wpAt_of_wpAny ?_)
  wp_walk
  refine wpAt_of_wpAny ?_
  rw [F.owner]
  repeat (first
    | with_reducible refine wpAny_madeHere_exc F.canon hC ?_
    | with_reducible refine wpAny_loadPart_at hC ?_
    | (with_reducible refine wpAny_isSubtype_exc hC ?_; first | rw [yB] | rw [yA] | rw [yN])
    | wp_step)
  show R _ _
  rw [Heap.size_push]
  exact hq
theorem run_typeCall (F : ExcBaseFacts B newId initId bmB) (hT : ∀ X : String, bm.contains (.type X) = bmB.contains (.type X)) {rest : List Value} {kw : List (Str × Value)} {fI : Addr} {Q : Fin → Shared → Prop}
    (hC : h.get? C = some (excClassObj nm q C N bs bm hdct sn sub ab col dd k0 k1 k2 k3 k5 newId))
    (hi : W.Looks (model prog w) h (typeLookup (.ref C) "__init__") (some (.ref fI))) (hb : ∀ self, W.Looks (model prog w) h (bindSpecial (.ref fI) self) (.ref fI, [self])) (hz : rest.length ≤ sizeLine)
    (hq : codeAny (model prog w) A (.call (.ref fI) ⟨.ref (h.objs.size + 1) :: rest, kw⟩)
      (fun r s' => match r with | .ok (.ret v) => v = .none ∧ Q (.done (.ret (.ref (h.objs.size + 1)))) s' | .ok _ => False | .error e => E e s')
      ⟨laid2 C rest h, g, d, t, os⟩) :
    wpAny (model prog w) A (Builtin.«type.__call__» ⟨.ref C :: rest, kw⟩) Q E ⟨h, g, d, t, os⟩ := by
  repeat (first
    | with_reducible refine wpAny_loadPart_at hC ?_
    | with_reducible refine wpAny_madeBy_exc hC ?_
    | wp_step)
  refine codeAny_call_builtin_code (Code.quiet_builtin _ F.quiet) (chk_new F hT hC (run_new F hT hC ?_ hz))
  show wpAny _ _ _ _ _ _
  have kp : ∀ b o, h.get? b = some o → (laid2 C rest h).get? b = some o := fun b o e => Heap.get?_push_of_some _ (Heap.get?_push_of_some _ e)
  have hC1 := kp _ _ hC
  have hget : (laid2 C rest h).get? (h.objs.size + 1) = some (excO C h.objs.size) := by heap_get
  have yC : (Value.ref C :: bm).contains (.ref C) = true := by simp
  have i1 := hi.keeps kp
  have b1 := (hb (.ref (h.objs.size + 1))).keeps kp
  unfold isInstance
  repeat (first
    | with_reducible refine wpAny_loadPart_at hget ?_
    | (with_reducible refine wpAny_isSubtype_exc hC1 ?_; rw [yC])
    | wp_step)
  show wpAny _ _ (typeLookup (.ref C) _) _ _ _
  refine i1.at (wpAny_holding (wpAny_bind (b1.at (wpAny_bind (wpAny_call (codeAny_mono hq fun r s' z => ?_))))))
  rcases r with e | (v | _ | _ | _) <;> first | exact z | exact z.elim | skip
  obtain ⟨rfl, z⟩ := z
  first
    | exact wpAny_pure (wpAny_pure z)
    | (wp_walk; exact z)
theorem chk_typeCall {rest : List Value} {kw : List (Str × Value)} {Q : Unit → Shared → Prop} (hC : h.get? C = some (excClassObj nm q C N bs bm hdct sn sub ab col dd k0 k1 k2 k3 k5 newId))
    (hq : Q () ⟨h, g, d, t, os⟩) : wpAny M A (checkBuiltinCall "type.__call__" ⟨.ref C :: rest, kw⟩) Q E ⟨h, g, d, t, os⟩ := by
  have f3 := tc_sub
  have ty : (⟨h, g, d, t, os⟩ : Shared).TypeIs (.ref C) "type" := ⟨_, hC, rfl⟩
  simp only [checkBuiltinCall, tc_kind, tc_split]
  repeat (any_goals (first
    | assumption
    | with_reducible refine wpAny_loadPart_at hC ?_
    | with_reducible refine wpAny_onRaise ?_
    | with_reducible refine wpAny_map ?_
    | wp_step))
theorem run_make (F : ExcBaseFacts B newId initId bmB) (hT : ∀ X : String, bm.contains (.type X) = bmB.contains (.type X)) {rest : List Value} {kw : List (Str × Value)} {fI : Addr}
    (hC : h.get? C = some (excClassObj nm q C N bs bm hdct sn sub ab col dd k0 k1 k2 k3 k5 newId))
    (hi : W.Looks (model prog w) h (typeLookup (.ref C) "__init__") (some (.ref fI))) (hb : ∀ self, W.Looks (model prog w) h (bindSpecial (.ref fI) self) (.ref fI, [self])) (hz : rest.length ≤ sizeLine)
    (hq : codeAny (model prog w) (A.under (.builtin "type.__call__" ⟨.ref C :: rest, kw⟩)) (.call (.ref fI) ⟨.ref (h.objs.size + 1) :: rest, kw⟩) (W.InitBack (h.objs.size + 1) R) ⟨laid2 C rest h, g, d, t, os⟩) :
    codeAny (model prog w) A (.call (.ref C) ⟨rest, kw⟩) R ⟨h, g, d, t, os⟩ := by
  have f1 := tc_lookup
  have f2 := tc_bind (.ref C)
  have ty : (⟨h, g, d, t, os⟩ : Shared).TypeIs (.ref C) "type" := ⟨_, hC, rfl⟩
  refine codeAny_of_tree ?_
  show wpAny _ _ (callAny (.ref C) _) _ _ _
  repeat (any_goals (first
    | assumption
    | with_reducible refine wpAny_loadPart_at hC ?_
    | wp_step))
  refine ⟨rfl, ?_⟩
  refine codeAny_call_builtin_at (Code.quiet_builtin _ (by decide +kernel)) entry_typeCall (chk_typeCall hC (run_typeCall F hT hC hi hb hz (codeAny_mono hq fun r s' z => ?_)))
  rcases r with e | (v | _ | _ | _) <;> exact z
end
end RLX
end PySem

set_option maxHeartbeats 2000000
/-! Own exceptions held as values: made (by position, by keyword), stored into, read, asked for their class. -/
namespace RL
open PySem L2 PySem.Spec PyProof.Rows Builtin Builtin.ObjectAttr
structure XC (K : PySem.W.Frag) (C : Addr) : Prop where
  base : ∃ (B nid iid : String) (bmB : List Value), ExcBaseFacts B nid iid bmB ∧ StoreFacts B bmB "object.__setattr__" "object" ∧ PySem.W.excInitIn K C bmB nid = true ∧ PySem.W.excOver K C bmB = true
  hd : PySem.W.hasDictIn K C = true
  kp : PySem.W.keepIn K (.ref C) = true
  cl : (PySem.W.clsIn K C).isSome = true
  sa : PySem.W.findIn K (.ref C) "__setattr__" = some (some (.builtin "object.__setattr__"))
  ga : PySem.W.findIn K (.ref C) "__getattribute__" = some (some (.builtin "BaseException.__getattribute__"))
  gg : PySem.W.findIn K (.ref C) "__getattr__" = some none
  ca : PySem.W.findIn K (.ref C) "__class__" = some (some (.builtin "object.__class__"))
  sub : PySem.W.subIn K (.ref C) (.type "BaseException") = some true
  mo : PySem.W.mroIn K C (.type "object") = some true
  n1 : PySem.W.findIn K (.ref C) "given" = some none
  n2 : PySem.W.findIn K (.ref C) "index" = some none
  n3 : PySem.W.findIn K (.ref C) "most" = some none
theorem xcB_ok {K : PySem.W.Frag} {C : Addr} {bmB : List Value} {B nid iid : String} (F : ExcBaseFacts B nid iid bmB) (S : StoreFacts B bmB "object.__setattr__" "object") (h : xcB K C bmB nid = true) : XC K C := by
  unfold xcB at h
  simp only [Bool.and_eq_true, decide_eq_true_eq] at h
  obtain ⟨⟨⟨⟨⟨⟨⟨⟨⟨⟨⟨⟨⟨h1, h2⟩, h3⟩, h4⟩, h5⟩, h6⟩, h7⟩, h8⟩, h9⟩, h10⟩, h11⟩, h12⟩, h13⟩, h14⟩ := h
  exact ⟨⟨B, nid, iid, bmB, F, S, h1, h2⟩, h3, h4, h5, h6, h7, h8, h9, h10, h11, h12, h13, h14⟩
structure XK0 (K : PySem.W.Frag) : Prop where
  cn : PySem.W.specialIn K (.builtin "object.__class__") "__get__" = some (some (.builtin "getset_descriptor.__get__"))
  ct : PySem.W.takesIn K (.builtin "object.__class__") = some true
section
variable {prog : Program} {w : World} {A : Around} {R : Result → Shared → Prop} {hp : Heap} {g : Array GenState} {d : Drawn} {t : Nat} {os : OsState} {B : String} {bmB : List Value} {C : Addr}
theorem x_store {K : PySem.W.Frag} {name : Str} {tk : Tok} {v : Value} {x t1 : Addr} (SF : StoreFacts B bmB "object.__setattr__" "object") (X : K.In hp) (hx : hp.get? x = some (PySem.HandSPX.excO C t1))
    (ov : PySem.W.excOver K C bmB = true) (hh : PySem.W.hasDictIn K C = true) (ha : PySem.W.findIn K (.ref C) name = some none)
    (hq : ∀ h' tk' dx, (∀ b o, b ≠ x → hp.get? b = some o → h'.get? b = some o) → hp.objs.size ≤ dx → dx ≠ x → h'.get? x = some { PySem.HandSPX.excO C t1 with dict := some dx } →
      h'.Ns1 dx (fun y => if y = name then some v else none) → R (.ok (.ret .none)) ⟨h', g, d, tk', os⟩) :
    codeAny (model prog w) A (.call (.builtin "object.__setattr__") ⟨[.ref x, .str name tk, v], []⟩) R ⟨hp, g, d, t, os⟩ := by
  have tkr : PySem.W.takerIn K C name = some none := by
    unfold PySem.W.takerIn
    rw [ha]
    rfl
  obtain ⟨cd, hc, hd'⟩ := PySem.W.any_some hh
  have hxs : x ≠ hp.objs.size := Nat.ne_of_lt (Heap.lt_size hx)
  refine PySem.W.osa_openX (od := none) SF X ⟨hx, rfl, rfl, trivial⟩ ov tkr fun b => ?_
  refine wpAny_bind (wpAny_pure (wpAny_bind (PySem.W.instanceDict_exc (t := t1) (c2 := .none) hx (PySem.W.looks_clsIn X hc) hd' ?_)))
  show wpAny _ _ (storeInDict hp.objs.size (.str name tk) name v) _ _ _
  refine PySem.HandSPX.store_in_new ?_ ?_
  · exact ⟨_, #[], _, (Heap.get?_update_ne _ _ _ _ hxs.symm).trans (Heap.get?_push_at rfl rfl), rfl, fun e he => absurd he (by simp), fun _ => rfl⟩
  · intro h' tk' hn' hs
    have hx1 : (hp.push (PySem.W.dictOf [] 0)).get? x = some (PySem.HandSPX.excO C t1) := Heap.get?_push_of_some _ hx
    refine hq h' tk' hp.objs.size (fun b o hb ho => ?_) (Nat.le_refl _) hxs.symm ?_ hn'
    · exact (hs.2 b (Nat.ne_of_lt (Heap.lt_size ho))).trans ((Heap.get?_update_ne _ _ _ _ hb).trans (Heap.get?_push_of_some _ ho))
    · exact (hs.2 x hxs).trans (Heap.get?_update_self _ hx1 rfl)
end
section
variable {X : Cx} {pins : List (Addr × Obj)} {σ : L2.St} {H : Hp} {s : Shared} {a C dx : Addr} {f : Str} {y : V} {u : Value} {Q : Unit → Shared → Prop} {E : Value → Shared → Prop} {A : Around}
theorem x_set (T : XC X.K C) (I : Inv X pins σ H s) (e : H a = some (exo a C none)) (hno : PySem.W.findIn X.K (.ref C) f = some none) (ry : RelV y u)
    (h : ∀ dx s', H dx = none → dx ≠ a → Inv X pins σ (upd (upd H dx (exd dx [(f, y)])) a (exo a C (some dx))) s' → Q () s') : wpAny (model X.prog X.w) A (setAttr (.ref a) f u) Q E s := by
  obtain ⟨B, nid, iid, bmB, FB, SF, _, ov⟩ := T.base
  obtain ⟨t1, ho⟩ := exo_at I.hok e
  obtain ⟨hp, g, d, t, os⟩ := s
  refine PySem.W.set_plain I.kIn (ox := PySem.HandSPX.excO C t1) (od := none) ⟨ho, rfl, rfl, trivial⟩ T.sa ?_
  refine x_store SF I.kIn ho ov T.hd hno (fun h' tk' dx k dn dne hx hn => ?_)
  have hnd : H dx = none := I.hok.fresh dn
  have nd : ∀ {b : Addr} {o : Obj}, hp.get? b = some o → b ≠ dx := fun {b o} q z => absurd (Heap.lt_size q) (by rw [z]; exact Nat.not_lt.mpr dn)
  have na : ∀ {b : Addr}, H b = none → b ≠ a := fun {b} n z => by
    rw [z, e] at n
    cases n
  have there : ∀ b o, hp.get? b = some o → ∃ o', h'.get? b = some o' := fun b o q => by
    by_cases hb : b = a
    · exact ⟨_, by rw [hb]; exact hx⟩
    · exact ⟨o, k b o hb q⟩
  refine h dx _ hnd dne (I.un (t' := tk') (Un.mk (fun b o q n _ _ => k b o (na n) q) (fun b o q n _ _ => ⟨o.slots, k b o (na n) q⟩) (fun b o q n _ => by rw [upd_ne (na n), upd_ne (nd q)]; exact n) (fun b o q _ => there b o q)
    (fun b xs q => by rw [upd_ne (at_ne e q exo_tup), upd_ne (ne_of_none q hnd)]; exact q) (fun b o v q => by rw [upd_ne (at_ne e q exo_frz), upd_ne (ne_of_none q hnd)]; exact q)
    (fun b ps q => ⟨#[], by rw [upd_ne (at_ne e q exo_tbl), upd_ne (ne_of_none q hnd), q]; simp⟩)) fun b o q => ?_)
  by_cases hb : b = a
  · rw [hb, upd_same] at q
    cases q
    rw [hb]
    exact exo_ok hx
  rw [upd_ne hb] at q
  by_cases hd : b = dx
  · rw [hd, upd_same] at q
    cases q
    rw [hd]
    exact exd_ok hn (relO_put (fs := []) ry fun g => True.intro)
  rw [upd_ne hd] at q
  refine (I.hok b o q).stay (fun c v hc z => k c v ?_ z) (fun c hc => ?_) (fun c xs hc => ?_)
  · rcases hc with hc | hc
    · rw [hc]
      exact hb
    · exact at_ne e hc exo_own
  · rw [upd_ne (at_ne e hc exo_own), upd_ne (ne_of_none hc hnd)]
    exact hc
  · rw [upd_ne (at_ne e hc exo_tup), upd_ne (ne_of_none hc hnd)]
    exact hc
end
def tXst (K : PySem.W.Frag) (f : Str) (to te : TE) : TS := fun D σ H => te σ H fun y H1 => to σ H1 fun x H2 => ∃ a C : Addr, x = .ref a ∧ XC K C ∧ PySem.W.findIn K (.ref C) f = some none ∧ H2 a = some (exo a C none) ∧
  ∀ dx, H2 dx = none → dx ≠ a → D.nx σ (upd (upd H2 dx (exd dx [(f, y)])) a (exo a C (some dx)))
section
variable {X : Cx} {o e : Expr} {es : List Expr} {to te : TE} {ta tk : TA} {f : Str} {p p' p1 p2 pos : Pos}
theorem ps_xst (ho : PE X o to) (he : PE X e te) (hs : swapsWith e (some (.Attribute o f p')) pos.line X.env = pure false := by rfl) : PS X (.Assign [.Attribute o f p'] e pos) (tXst X.K f to te) := by
  refine ⟨fun pins s σ H D I h => plainObj_wpAny_Assign_Attribute (thn (he.run pins s σ H _ I h) fun v s1 ⟨y, H1, I1, r1, q1⟩ => thn (ho.run pins s1 σ H1 _ I1 q1) fun u s2 ⟨x, H2, I2, r2, a, C, ex, T, hno, ea, q⟩ => ?_) hs⟩
  subst ex
  cases (show u = Value.ref a from r2)
  exact x_set T I2 ea hno r1 fun dx s' n ne J => ⟨σ, _, J, q dx n ne⟩
theorem pe_xbase {C g : Addr} {mc : Value} {fd : FuncData} {ps : List Str} {sp : Sp} {k : Nat} {x m : Str} {pl : Sem Bool} (gC : X.mg x = some (.ref C)) (hg : Gl X x) (r : ClX.CRead X.K C mc) (hf : PySem.W.findCls X.K (.ref C) mc m = some (.val (.ref g)))
    (kp : PySem.W.keepIn X.K (.ref g) = true) (F : FnOk X.prog X.w X.K X.mg X.base CX0 k g fd ps sp) (hr : Room k X.A) (hb : Binds X.K fd ps []) (ha : PA X (e :: es) ta)
    (hc : eval (.Call (.Attribute (.Name x p1) m p2) (e :: es) [] pos) X.env = (do
      let ov ← eval (.Name x p1) X.env
      standAt p2.atName
      let (f, first) ← holding [ov] (getMethod ov m pl)
      callWith pos f first (backTo pos (starEach (e :: es) X.env)) (backToKw pos (keywordEach [] X.env))) := by rfl)
    (hdb : (x == ("__debug__" : Str)) = false := by decide) (he : starEach (e :: es) X.env = (false, eval e X.env) :: starEach es X.env := by rfl) (hpl : (backTo pos (starEach es X.env)).any (·.1) = false := by rfl) :
    PE X (.Call (.Attribute (.Name x p1) m p2) (e :: es) [] pos) (tCall sp [] E0 ta) := by
  refine ⟨fun pins s σ H Q I h => PySem.W.methodCall_KW (ld_glob I hg gC (PySem.W.method_cls I.kIn r.ga (ClX.getcval_ok (v := .ref g) I r ⟨hf, rfl⟩ fun s0 I0 => ?_)) hdb) hc⟩
  refine PySem.W.callWith_K (h₀ := X.base) I0.ok.mod.kin kp (thn (ha.run pos pins s0 σ H _ I0 h) fun us s1 ⟨vs, H1, I1, r1, q⟩ => ⟨I1.kIn, ?_⟩) he hpl
  exact run_fn F hr hb .nil pass0 I1 r1 q
def tXmk (C : Addr) (n m : Nat) (sp : Sp) (gV : List V → List V → List V) (t tk : TA) : TE := fun σ H Q => t σ H fun vs H1 => tk σ H1 fun zs H2 => vs.length = n ∧ zs.length = m ∧
  ∀ a, H2 a = none → sp (gV (.ref a :: vs) zs) (upd H2 a (exo a C none)) (fun v H3 => v = .non ∧ Q (.ref a) H3) E0
structure XM (P : Program) (w : World) (K : PySem.W.Frag) (mg : Str → Option Value) (base : Heap) (k : Nat) (C : Addr) (ps : List Str) (sp : Sp) : Prop where
  xc : XC K C
  ex : ∃ (g : Addr) (fd : FuncData), PySem.W.findIn K (.ref C) "__init__" = some (some (.ref g)) ∧ PySem.W.isFn K (.ref g) = true ∧ FnOk P w K mg base CX0 k g fd ps sp ∧ Binds K fd ps [] ∧
    ∀ y z, ps = [y, z] → KBn K fd ps 1 [z] (fun us ws => us ++ ws) (fun vs zs => vs ++ zs)
/-! ### asked and read -/
def Exo (H : Hp) (a C : Addr) : Prop := H a = some (exo a C none) ∨ ∃ (dx : Addr) (fs : List (Str × V)), H a = some (exo a C (some dx)) ∧ H dx = some (exd dx fs)
def rIsX (K : PySem.W.Frag) : List V → Hp → VK → Prop := fun xs H Q => ∃ (a C : Addr) (c : V) (u : Value) (b : Bool), xs = [.ref a, c] ∧ ClsV c u ∧ XC K C ∧ Exo H a C ∧ PySem.W.kitOne K (.ref C) u = some b ∧ Q (.bl b) H
def tXfd (K : PySem.W.Frag) (f : Str) (te : TE) : TE := fun σ H Q => te σ H fun x H1 => ∃ (a C dx : Addr) (fs : List (Str × V)) (v : V), x = .ref a ∧ XC K C ∧ PySem.W.findIn K (.ref C) f = some none ∧ H1 a = some (exo a C (some dx)) ∧ H1 dx = some (exd dx fs) ∧ fs.lookup f = some v ∧ Q v H1
end
end RL

set_option maxHeartbeats 1000000
/-! repr of plain things: None, bools, ints, texts, lists, tuples, flat dicts. -/
namespace RL
open PySem L2 PySem.Spec PyProof.Rows
def keyD : Key → PyData
  | .inl i => .int i
  | .inr x => .str x
inductive Dq (K : PySem.W.Frag) (H : Hp) : V → PyData → Prop
  | dp {v : V} {d : PyData} : Dp K H v d → d.hasDict = false → Dq K H v d
  | dk {a : Addr} {kvs : List (Key × Int)} : H a = some (.dK (kvs.map fun p => (p.1, V.int p.2))) → Dq K H (.ref a) (.dict (kvs.map fun p => (keyD p.1, .int p.2)))
theorem dk_reads {P : Program} {w : World} {h : Heap} : ∀ {kvs : List (Key × Int)} {vs : List (Key × Value)} {es : List DictEntry}, KV (kvs.map fun p => (p.1, V.int p.2)) vs → Pairs (mixKind P w) es vs →
    ReadsAll h (es.map (·.key)) ((kvs.map fun p => (keyD p.1, PyData.int p.2)).map (·.1)) [] ∧ ReadsAll h (es.map (·.val)) ((kvs.map fun p => (keyD p.1, PyData.int p.2)).map (·.2)) []
  | [], _, _, r, q => by
    cases r
    cases q
    exact ⟨.nil, .nil⟩
  | (k, i) :: kvs, _, _, r, q => by
    cases r with
    | cons r1 r2 =>
      cases q with
      | cons q1 q2 q3 =>
        obtain ⟨e1, e2⟩ := r1
        obtain ⟨h1, h2⟩ := dk_reads (P := P) (w := w) (h := h) r2 q3
        refine ⟨?_, ?_⟩
        · have q1' := q1
          rw [mixKind_is, ← e1] at q1'
          rcases keyIs_shape q1' with ⟨j, t, ek, ev⟩ | ⟨x, t, ek, ev⟩
          · have ek : k = _ := ek
            subst ek
            rw [List.map_cons, ev]
            exact ReadsAll.cons (Reads.int _ _) h1
          · have ek : k = _ := ek
            subst ek
            rw [List.map_cons, ev]
            exact ReadsAll.cons (Reads.str _ _) h1
        · obtain ⟨t, e2⟩ := e2
          rw [List.map_cons, q2, e2]
          exact ReadsAll.cons (Reads.int _ _) h2
section
variable {X : Cx}
def rRp (K : PySem.W.Frag) : List V → Hp → VK → Prop := fun vs H Q => ∃ (v : V) (d : PyData), vs = [v] ∧ Dq K H v d ∧ d.showable = true ∧ d.depth ≤ 40 ∧ d.shown.length ≤ sizeLine ∧ Q (.str d.shown) H
theorem cr_rp (hG : X.A.guards = some []) (hu : X.A.units + 64 < cLine) : CallR X (.builtin "repr") (rRp X.K) := by
  intro pins s σ H vs us Q I r h
  obtain ⟨v, d, rfl, hd, h1, h3, h4, q⟩ := h
  obtain ⟨u, rfl, ru⟩ : ∃ u, us = [u] ∧ RelV v u := by
    cases r with
    | cons r1 r2 =>
      cases r2
      exact ⟨_, rfl, r1⟩
  cases hd with
  | dp hp h2 =>
    cases hp with
    | non =>
      cases (show u = Value.none from ru)
      exact PySem.P.repr_of_none ⟨.str "None", H, I.tok _, ⟨_, rfl⟩, q⟩
    | bl b =>
      cases (show u = Value.bool b from ru)
      exact PySem.P.repr_of_bool ⟨.str (PyData.bool b).shown, H, I.tok _, ⟨_, rfl⟩, q⟩
    | int i =>
      obtain ⟨t, rfl⟩ := ru
      exact PySem.P.repr_of_int (of_decide_eq_true h1) ⟨.str (PyData.int i).shown, H, I.tok _, ⟨_, rfl⟩, q⟩
    | str x =>
      obtain ⟨t, rfl⟩ := ru
      exact PySem.P.repr_of_str ⟨.str (PyData.str x).shown, H, I.tok _, ⟨_, rfl⟩, q⟩ h4
    | @lst a xs ds hs ha =>
      exact cr_repr hG hu pins s σ H _ _ Q I (.cons ru .nil) ⟨a, _, rfl, .lst hs ha, h1, h2, h3, h4, q⟩
    | @tup a xs ds hs ha =>
      exact cr_repr hG hu pins s σ H _ _ Q I (.cons ru .nil) ⟨a, _, rfl, .tup hs ha, h1, h2, h3, h4, q⟩
  | @dk a kvs ha =>
    cases (show u = Value.ref a from ru)
    obtain ⟨_, hsys, vs, kv, o, es, ep, ho, hc, hdat, _, hp, _⟩ := (show ObjOk X.prog X.w H s.heap a (.dK _) from I.hok a _ ha)
    obtain ⟨g1, g2⟩ := dk_reads (h := s.heap) kv hp
    refine repr_of_reads' (h₀ := s.heap) (Reads.dict ho hc.1 hdat g1 g2) h1 (fun _ hm => ?_) hG (by omega) (fun _ _ z => z) (fun h' u tk hk => ⟨.str _, H, I.kept hk, ⟨_, rfl⟩, q⟩) h4
    have hm' : sysModules ∈ [a] := hm
    rw [List.mem_singleton] at hm'
    rw [← hm'] at hsys
    exact absurd hsys (by decide)
end
theorem sqT_same {K : PySem.W.Frag} {H H' : Hp} {a : Addr} {xs : List V} (e : ∀ b o, H b = some o → H' b = some o) (h : SqT K H a xs) : SqT K H' a xs := by
  rcases h with (h | ⟨o, h⟩) | h
  · exact .inl (.inl (e _ _ h))
  · exact .inl (.inr ⟨o, e _ _ h⟩)
  · exact .inr h
mutual
theorem dp_same {K : PySem.W.Frag} {H H' : Hp} (s : ∀ b o, H b = some o → H' b = some o) : ∀ (d : PyData) (v : V), Dp K H v d → Dp K H' v d
  | .none, _, h => by
    cases h
    exact .non
  | .bool b, _, h => by
    cases h
    exact .bl b
  | .int i, _, h => by
    cases h
    exact .int i
  | .str x, _, h => by
    cases h
    exact .str x
  | .list ds, _, h => by
    cases h with
    | lst a b => exact .lst (Same.seq s a) (dpAll_same s ds _ b)
  | .tuple ds, _, h => by
    cases h with
    | tup a b => exact .tup (sqT_same s a) (dpAll_same s ds _ b)
  | .dict _, _, h => by cases h
theorem dpAll_same {K : PySem.W.Frag} {H H' : Hp} (s : ∀ b o, H b = some o → H' b = some o) : ∀ (ds : List PyData) (vs : List V), DpAll K H vs ds → DpAll K H' vs ds
  | [], _, h => by
    cases h
    exact .nil
  | d :: ds, _, h => by
    cases h with
    | cons a b => exact .cons (dp_same s d _ a) (dpAll_same s ds _ b)
end
theorem Dq.same {K : PySem.W.Frag} {H H' : Hp} {v : V} {d : PyData} (h : Dq K H v d) (s : Same H H') : Dq K H' v d := by
  cases h with
  | dp a b => exact .dp (dp_same s _ _ a) b
  | dk a => exact .dk (s _ _ a)
end RL

set_option maxHeartbeats 1000000
/-! what repr shows of well-formed data is a well-formed text -/
namespace RL
open PySem L2 PySem.Spec PyProof.Rows PySem.Builtin.Str
def Uok (x : Str) : Prop := ∀ c ∈ x.cps.toList, c < 0x110000
theorem Uok.app {x y : Str} (h : Uok x) (k : Uok y) : Uok (x ++ y) := fun c hc => by
  have e : (x ++ y).cps.toList = x.cps.toList ++ y.cps.toList := by
    show (x.cps ++ y.cps).toList = _
    rw [Array.toList_append]
  rw [e] at hc
  exact (List.mem_append.mp hc).elim (h c) (k c)
theorem chr_lt (ch : Char) : ch.toNat < 0x110000 := by
  have h := ch.valid
  have e : ch.toNat = ch.val.toNat := rfl
  rcases h with h | h
  · have h2 : ch.val.toNat < 0xd800 := h
    omega
  · have h2 : ch.val.toNat < 0x110000 := h.2
    omega
theorem Uok.of (s : String) : Uok (Str.ofString s) := fun c hc => by
  rw [PyProof.Rows.signs_ofString] at hc
  obtain ⟨ch, _, rfl⟩ := List.mem_map.mp hc
  exact chr_lt ch
theorem Uok.join {y : Str} (hy : Uok y) : ∀ {l : List Str}, (∀ x ∈ l, Uok x) → Uok (Str.join y l)
  | [], _ => fun c hc => absurd (show c ∈ ([] : List Nat) from hc) (by simp)
  | [x], h => h x List.mem_cons_self
  | x :: z :: l, h => by
    show Uok (x ++ y ++ Str.join y (z :: l))
    exact ((h x List.mem_cons_self).app hy).app (Uok.join hy fun a ha => h a (List.mem_cons_of_mem _ ha))
end RL

set_option maxHeartbeats 1000000
/-! Pairs of exceptions, made by position and by name. -/
namespace RL
open PySem L2
def spI (K : PySem.W.Frag) (f : Str) : Sp := fun vs H Q _ => ∃ (a C : Addr) (y : V), vs = [.ref a, y] ∧ XC K C ∧ PySem.W.findIn K (.ref C) f = some none ∧ H a = some (exo a C none) ∧
  ∀ dx, H dx = none → dx ≠ a → Q .non (upd (upd H dx (exd dx [(f, y)])) a (exo a C (some dx)))
def spN : Sp := fun vs H Q _ => ∃ v : V, vs = [v] ∧ Q .non H
def Xv (H : Hp) (a C : Addr) (f : Str) (y : V) : Prop := ∃ dx : Addr, H a = some (exo a C (some dx)) ∧ H dx = some (exd dx [(f, y)])
theorem Xv.same {H H' : Hp} {a C : Addr} {f : Str} {y : V} (h : Xv H a C f y) (s : Same H H') : Xv H' a C f y := by
  obtain ⟨dx, h1, h2⟩ := h
  exact ⟨dx, s _ _ h1, s _ _ h2⟩
def Pr (H : Hp) (v : V) (C : Addr) (f : Str) (y : V) : Prop := ∃ l a b : Addr, v = .ref l ∧ H l = some (.lst [.ref a, .ref b]) ∧ Xv H a C f y ∧ Xv H b C f y
theorem Pr.same {H H' : Hp} {v : V} {C : Addr} {f : Str} {y : V} (h : Pr H v C f y) (s : Same H H') : Pr H' v C f y := by
  obtain ⟨l, a, b, e, h1, h2, h3⟩ := h
  exact ⟨l, a, b, e, s _ _ h1, h2.same s, h3.same s⟩
def tPair (C : Addr) (f : Str) (i : Nat) : TE := fun σ H Q => ∃ y, σ[i]? = some (some y) ∧ ∀ v H', Same H H' → Pr H' v C f y → (∀ l, v = .ref l → H l = none) → Q v H'
section
variable {X : Cx} {e1 e2 : Expr} {x : Str} {p1 p2 p3 p4 p5 pos : Pos} {nm : Option Str} {kpos : Pos} {i : Nat}
def tMk0 (C : Addr) : TE := fun _ H Q => ∀ a, H a = none → Q (.ref a) (upd H a (exo a C none))
end
section
variable {X : Cx} {K : PySem.W.Frag} {e : Expr} {te : TE} {pos : Pos} {n : Str}
theorem cr_rpK (hG : X.A.guards = some []) (hu : X.A.units + 64 < cLine) (hK : X.K = K := by rfl) : CallR X (.builtin "repr") (rRp K) := by
  subst hK
  exact cr_rp hG hu
end
end RL

set_option maxHeartbeats 2000000
/-! try: .. except (A, B, C) as e: .. where the suite calls defs that ask e and make lists. -/
namespace RL
open PySem L2 PySem.Spec PyProof.Rows
/-! ### the clause -/
theorem fly_keeps {B : Heap} {l : List Env} {a : Addr} {Z : Obj → Prop} {h h' : Heap} (fl : HandSPX.FlyingZ B l a Z h) (k : ∀ b o, h.get? b = some o → h'.get? b = some o) : HandSPX.FlyingZ B l a Z h' := by
  obtain ⟨g1, g2, g3, oe, vs, T, oT, ts, he, hz, hd, h1, hnT, hTe, hT, hdT, h3⟩ := fl
  exact ⟨fun b o e => k b o (g1 b o e), g2, g3.of_keeps fun b o e _ => ⟨o, k b o e, rfl⟩, oe, vs, T, oT, ts, k _ _ he, hz, hd, h1, hnT, hTe, k _ _ hT, hdT, h3⟩
def wAs3 (K : PySem.W.Frag) (cs : List Value) (i : Nat) (ts : Addr → Value → Option Addr → TS) (D : Ends) : WX := fun cls d σ H => PySem.W.exmAny K cls cs = some true ∧
  ∀ a, H a = none → ts a cls d { nx := fun σ' H' => D.nx (σ'.set i none) H', rt := D.rt, bk := fun σ' H' => D.bk (σ'.set i none) H', ct := fun σ' H' => D.ct (σ'.set i none) H' } (σ.set i (some (.ref a))) H
section
variable {X : Cx} {x1 x2 x3 n : Str} {c1 c2 c3 : Value} {i kk : Nat} {body suite : List Stmt} {b₀ : Stmt} {p1 p2 p3 tpos pos pos' : Pos} {tb : WX → TS} {ts : Addr → Value → Option Addr → TS}
theorem ps_try_as3 (hs : X.stack = X.env :: X.outer) (hf : X.env.frame = some X.env.locals) (hN : X.N.Nodup) (hi : X.N[i]? = some n) (hln : X.env.kindOf n = some .local) (n1 : Names X x1 c1) (n2 : Names X x2 c2) (n3 : Names X x3 c3)
    (hb : ∀ (W : WX) (pn : List (Addr × Obj)) (xe : Value → Shared → Prop), L2N.Takes (X.tr pn xe) W → PassesOwn (model X.prog X.w) X.A X.env xe → PSs (X.tr pn xe) body (tb W))
    (hsu : ∀ (a : Addr) (oe : Obj) (cls : Value) (d : Option Addr) (pn : List (Addr × Obj)), L2N.Zn cls d oe → (∃ vs, oe.data = .fields vs) → PSs (X.suite a ((a, oe) :: pn)) (b₀ :: suite) (ts a cls d)) :
    PS X (.Try body [.ExceptHandler (some (.Tuple [.Name x1 p1, .Name x2 p2, .Name x3 p3] kk tpos)) (some n) (b₀ :: suite) pos'] [] [] pos) (fun D σ H => tb (wAs3 X.K [c1, c2, c3] i ts D) D σ H) := by
  refine ⟨fun pins s σ H D I h => ?_⟩
  have ok := I.ok
  have hfr : X.A.frames = some (X.env :: X.outer) := by rw [ok.frames, hs]
  refine wpAny_Try_except (wpAny_mono ((hb (wAs3 X.K [c1, c2, c3] i ts D) (X.pn ++ pins) (fun e s₁ => wpAny (model X.prog X.w) X.A (noteFrame e X.env) (fun _ s₂ => wpAny (model X.prog X.w) X.A (setFlight e none) (fun _ s₃ =>
    wpAny (model X.prog X.w) X.A (handleBy e X.env [.ExceptHandler (some (.Tuple [.Name x1 p1, .Name x2 p2, .Name x3 p3] kk tpos)) (some n) (b₀ :: suite) pos']) (SP X pins D) X.xe s₃) X.xe s₂) X.xe s₁) (fun u s' xx => ?_) PassesOwn.looking).run [] s σ H D (I.toTry _) h) (fun f s1 hsp => ?_) (fun e s1 he => he))
  · obtain ⟨a, B, sI, pins', σ', H', cls, d, rfl, J', nb, up, sky, na, os, ag, hb1, hyes⟩ := xx
    have J : Inv X pins σ' H' sI := J'.ofTry ok
    rw [show (X.tr (X.pn ++ pins) _).stack = X.env :: X.outer from hs] at sky
    show wpAny (model X.prog X.w) X.A (noteFrame (.ref a) X.env) _ _ _
    refine L2N.Sky.land L2N.Zn.steady hfr hf sky fun h3 fl3 up3 => ?_
    have J3 : Inv X pins σ' H' { s' with heap := h3 } := J.landed nb fl3.1 (up.trans up3) os ag
    obtain ⟨oe3, vs3, he3, hz3, hd3⟩ := fl3.there
    have nfr : a ∉ frs (X.env :: X.outer) := fun hm => by
      obtain ⟨_, o', e', hnf⟩ := fl3.2.2.1.mem hm
      rw [he3] at e'
      cases e'
      exact hnf _ hd3
    have nL : a ≠ X.env.locals := fun z => nfr (List.mem_filterMap.mpr ⟨X.env, List.mem_cons_self, by rw [hf, z]⟩)
    have nF : a ∉ X.fs := fun hm => by
      obtain ⟨e, he, q⟩ := List.mem_filterMap.mp hm
      exact nfr (List.mem_filterMap.mpr ⟨e, List.mem_cons_of_mem _ he, q⟩)
    have S3 := J3.suite he3 hd3 na nL nF
    have look : ∀ {y : Str} {c : Value} {py : Pos} {Q : Value → Shared → Prop} {E : Value → Shared → Prop}, Names X y c → Q c { s' with heap := h3 } → wpAny (model X.prog X.w) (X.A.mark (some (.ref a))) (eval (.Name y py) X.env) Q E { s' with heap := h3 } := fun {y c py Q E} hc q => by
      obtain ⟨hg, hdbg, hm | ⟨hm, hv, hnn⟩⟩ := hc
      · exact ld_glob (X := X.suite a ((a, oe3) :: (X.pn ++ pins))) S3 hg hm q hdbg
      · exact ld_blt (X := X.suite a ((a, oe3) :: (X.pn ++ pins))) S3 hg hm hv q hnn hdbg
    refine wpAny_handleBy_cons (codeAny_handlers_test ?_) (by intro q; cases q)
    refine wpAny_Tuple (wpAny_items_cons (look n1 (wpAny_items_cons (look n2 (wpAny_items_cons (look n3 (wpAny_items_nil ⟨by size_fits, ?_⟩)))))))
    have kp : ∀ q o, h3.get? q = some o → (h3.push { cls := .type "tuple", data := .seq [c1, c2, c3].toArray }).get? q = some o := fun _ _ z => Heap.get?_push_of_some _ z
    have LT : PySem.W.Looks (model X.prog X.w) h3 (typeOf (.ref a)) cls := fun A Q E s k q => wpAny_typeOf_ref (k _ _ he3) (by rw [hz3.1]; exact q)
    refine (PySem.W.exm_tup3 (M := model X.prog X.w) (J3.kIn.keeps kp) (LT.keeps kp) (Heap.get?_push_size h3 rfl) hb1).here ?_
    refine codeAny_handlers_suite_as ?_
    refine HandSPX.lands_againZ (fly_keeps fl3 kp) fun h4 fl4 up4 => ?_
    have J4 : Inv X pins σ' H' { s' with heap := h4 } := J.landed nb fl4.1 ((up.trans up3).trans ((Heap.UpToSlots.of_keeps kp).trans up4)) os ag
    obtain ⟨oe4, vs4, he4, hz4, hd4⟩ := fl4.there
    have S4 := J4.suite he4 hd4 na nL nF
    refine store_ok (X := X.suite a ((a, oe4) :: (X.pn ++ pins))) (v := .ref a) S4 hN hi (.inl hln) rfl (fun s5 S5 => ?_) (.inr hln)
    refine wpAny_mono ((hsu a oe4 cls d (X.pn ++ pins) hz4 ⟨_, hd4⟩).run [] s5 _ H' _ S5 (hyes a na)) (fun f s6 hsp => ?_) (fun _ _ z => False.elim z)
    have fin : ∀ {σ6 : L2.St} {H6 : Hp} {Q : Shared → Prop}, Inv (X.suite a ((a, oe4) :: (X.pn ++ pins))) [] σ6 H6 s6 → (∀ s7, Inv X pins (σ6.set i none) H6 s7 → Q s7) →
        wpAny (model X.prog X.w) X.A (do bindName X.env n .none; unbindBehindTheSuite X.env n pos') (fun _ s7 => Q s7) X.xe s6 := fun {σ6 H6 Q} S6 hq => gone_ok (S6.unsuite ok) hN hi hln hq
    cases f with
    | next =>
      obtain ⟨σ6, H6, S6, q6⟩ := hsp
      exact fin S6 fun s7 J7 => ⟨_, _, J7, q6⟩
    | brk =>
      obtain ⟨σ6, H6, S6, q6⟩ := hsp
      exact fin S6 fun s7 J7 => ⟨_, _, J7, q6⟩
    | cont =>
      obtain ⟨σ6, H6, S6, q6⟩ := hsp
      exact fin S6 fun s7 J7 => ⟨_, _, J7, q6⟩
    | ret u =>
      obtain ⟨v6, σ6, H6, S6, r6, q6⟩ := hsp
      exact fin S6 fun s7 J7 => ⟨_, _, _, J7, r6, q6⟩
  · cases f with
    | next =>
      obtain ⟨σ', H', J', q⟩ := hsp
      exact wpAny_execs_nil ⟨σ', H', J'.ofTry ok, q⟩
    | brk =>
      obtain ⟨σ', H', J', q⟩ := hsp
      exact ⟨σ', H', J'.ofTry ok, q⟩
    | cont =>
      obtain ⟨σ', H', J', q⟩ := hsp
      exact ⟨σ', H', J'.ofTry ok, q⟩
    | ret u =>
      obtain ⟨v, σ', H', J', r, q⟩ := hsp
      exact ⟨v, σ', H', J'.ofTry ok, r, q⟩
end
/-! ### defs called in the suite -/
structure FnE (P : Program) (w : World) (K : PySem.W.Frag) (mg : Str → Option Value) (base : Heap) (k : Nat) (f : Addr) (fd : FuncData) (ps : List Str) (sp : Addr × Obj → Sp) : Prop where
  len : ∀ p vs H Q E, sp p vs H Q E → vs.length = ps.length
  run : ∀ (A : Around) (outer : List Env) (s : Shared) (H : Hp) (args : Args) (us : List Value) (vs : List V) (Q : VK) (p : Addr × Obj), L2H.RoomH k A → L2H.Hot1 A p → L2H.PinOk outer H s p → Env0 P w K mg base A outer s H → BindsTo s fd args (ps.zip us) → Vals vs us → sp p vs H Q E0 →
    codeAny (model P w) A (.call (.ref f) args) (CR CX0 outer P w H s Q E0) s
section
variable {P : Program} {w : World} {K : PySem.W.Frag} {mg : Str → Option Value} {base : Heap}
end
structure DfE (P : Program) (w : World) (K : PySem.W.Frag) (mg : Str → Option Value) (base : Heap) (k : Nat) (x : Str) (ps : List Str) (sp : Addr × Obj → Sp) : Prop where
  ex : ∃ (f : Addr) (fd : FuncData), FnE P w K mg base k f fd ps sp ∧ mg x = some (.ref f) ∧ PySem.W.keepIn K (.ref f) = true ∧ Binds K fd ps []
section
variable {X : Cx} {k : Nat} {ps : List Str} {sp : Addr × Obj → Sp} {x : Str} {q pos : Pos} {e : Expr} {es : List Expr} {t : TA} {p : Addr × Obj}
end
/-! ### the exception asked -/
def Px (p : Addr × Obj) (C : Addr) (H : Hp) : Prop := p.2.cls = .ref C ∧ (∃ vs, p.2.data = .fields vs) ∧ (p.2.dict = none ∨ ∃ (d : Addr) (fs : List (Str × V)), p.2.dict = some d ∧ H d = some (.xd fs))
theorem Px.same {p : Addr × Obj} {C : Addr} {H H' : Hp} (h : Px p C H) (s : Same H H') : Px p C H' := ⟨h.1, h.2.1, h.2.2.imp id fun ⟨d, fs, a, b⟩ => ⟨d, fs, a, s _ _ b⟩⟩
def rIsP (K : PySem.W.Frag) (p : Addr × Obj) : List V → Hp → VK → Prop := fun xs H Q => ∃ (C : Addr) (c : V) (u : Value) (b : Bool), xs = [.ref p.1, c] ∧ ClsV c u ∧ XC K C ∧ Px p C H ∧ PySem.W.kitOne K (.ref C) u = some b ∧ Q (.bl b) H
theorem call_isP {X : Cx} {p : Addr × Obj} (Z : XK0 X.K) (hp : p ∈ X.pn) : CallR X (.builtin "isinstance") (rIsP X.K p) := by
  intro pins s σ H xs us Q I r h
  obtain ⟨C, c, u, b, rfl, kc, T, ⟨hc, ⟨vs, hd⟩, hx⟩, e, q⟩ := h
  obtain ⟨u1, u2, rfl, r1, r2⟩ := vals2 r
  have e2 := kc.eq r2
  subst e2
  cases (show u1 = Value.ref p.1 from r1)
  obtain ⟨hget, _⟩ := I.pin p (List.mem_append_left _ hp)
  have nc : PySem.W.notCls p.2 = true := by unfold PySem.W.notCls; rw [hd] <;> rfl
  have key : ∃ od, PySem.W.InstAt s.heap p.1 p.2 C od := by
    rcases hx with hx | ⟨dx, fs, hx, hf⟩
    · exact ⟨none, hget, hc, nc, by rw [hx]; trivial⟩
    · obtain ⟨mA, ⟨od, es, ep, hod, _⟩, _⟩ := (show ObjOk X.prog X.w H s.heap dx (.xd fs) from I.hok dx _ hf)
      exact ⟨some od, hget, hc, nc, by rw [hx]; exact hod⟩
  obtain ⟨od, J⟩ := key
  exact PySem.W.kia_one (PySem.W.kitx_exc (ox := p.2) (od := od) T.cl T.ga T.gg T.sub T.ca Z.cn Z.ct T.mo) I.kIn J e (fun z => nomatch z) fun tk => ⟨.bl b, H, I.tok tk, rfl, q⟩
def tPfd (K : PySem.W.Frag) (p : Addr × Obj) (f : Str) (te : TE) : TE := fun σ H Q => te σ H fun x H1 => ∃ (C dx : Addr) (fs : List (Str × V)) (v : V), x = .ref p.1 ∧ XC K C ∧ PySem.W.findIn K (.ref C) f = some none ∧ p.2.cls = .ref C ∧ (∃ vs, p.2.data = .fields vs) ∧ p.2.dict = some dx ∧ H1 dx = some (.xd fs) ∧ fs.lookup f = some v ∧ Q v H1
theorem pe_pfd {X : Cx} {p : Addr × Obj} {e : Expr} {te : TE} {pos : Pos} {n : Str} (hp : p ∈ X.pn) (he : PE X e te) (hb : attributeBase e n X.env (eval e X.env) = eval e X.env := by rfl) : PE X (.Attribute e n pos) (tPfd X.K p n te) := by
  refine ⟨fun pins s σ H Q I h => attr_of hb (thn (he.run pins s σ H _ I h) fun u s1 ⟨x, H1, I1, rx, C, dx, fs, v, ex, T, hno, hc, ⟨vs, hd⟩, ed, ea, l, q⟩ => ?_)⟩
  subst ex
  cases (show u = Value.ref p.1 from rx)
  obtain ⟨hget, _⟩ := I1.pin p (List.mem_append_left _ hp)
  obtain ⟨mA, hns, hr⟩ := (show ObjOk X.prog X.w H1 s1.heap dx (.xd fs) from I1.hok dx _ ea)
  obtain ⟨od, hod, hl⟩ := lookIn_ns hns
  obtain ⟨u, hu, ru⟩ := RelO.some_of (v := v) (o := mA n) (by rw [← l]; exact hr n)
  have nc : PySem.W.notCls p.2 = true := by unfold PySem.W.notCls; rw [hd] <;> rfl
  have J : PySem.W.InstAt s1.heap p.1 p.2 C (some od) := ⟨hget, hc, nc, by rw [ed]; exact hod⟩
  exact HandSPX.exc_get I1.kIn J T.ga T.gg T.sub (PySem.W.findObj_own T.hd hno rfl (by rw [hl, hu])) (handed_of ru) ⟨v, H1, I1.tok _, ru, q⟩
theorem pe_pfdK {X : Cx} {K : PySem.W.Frag} {p : Addr × Obj} {e : Expr} {te : TE} {pos : Pos} {n : Str} (hp : p ∈ X.pn) (he : PE X e te) (hK : X.K = K := by rfl) (hb : attributeBase e n X.env (eval e X.env) = eval e X.env := by rfl) : PE X (.Attribute e n pos) (tPfd K p n te) := by
  subst hK
  exact pe_pfd hp he hb
end RL

set_option maxHeartbeats 2000000
/-! [.. for x in range(..) if ..] where an exception is handled. -/
namespace RL
open PySem L2 PySem.Spec PyProof.Rows
abbrev blkP (X : Cx) (p : Addr × Obj) (s : Shared) (H : Hp) (scope : Scope) (cenv : Env) (fp : List Addr) : Cx := (X.blk s H scope cenv fp).tr [p] fun _ _ => False
section
variable {X : Cx}
end
end RL

set_option maxHeartbeats 2000000
/-! raise X(e) for the package's classes; defs that raise; a lambda that may raise, handed to a def. -/
namespace RL
open PySem L2 PySem.Spec PyProof.Rows
/-! ### raise -/
def tMkX (C : Addr) (f : Str) (te : TE) : L2.St → Hp → XK → Prop := fun σ H Q => te σ H fun y H1 => ∀ d, H1 d = none → Q (.ref C) (some d) (upd H1 d (.xd [(f, y)]))
def oneV (R : V → Hp → Prop) : List V → Hp → Prop
  | [y], H => R y H
  | _, _ => False
theorem pmk_x {X : Cx} {k : Nat} {C : Addr} {f x : Str} {e : Expr} {te : TE} {p pos : Pos} (M : XM X.prog X.w X.K X.mg X.base k C ["self", f] (spI X.K f)) (tyC : PySem.W.typeIn X.K (.ref C) = some (.type "type")) (hno : PySem.W.findIn X.K (.ref C) f = some none)
    (hr : Room (k + 1) X.A) (hg : Gl X x) (hm : X.mg x = some (.ref C)) (he : PE X e te) (hdb : (x == ("__debug__" : Str)) = false := by decide) (hst : starEach [e] X.env = (false, eval e X.env) :: starEach [] X.env := by rfl) (hpl : (backTo pos (starEach [] X.env)).any (·.1) = false := by rfl) :
    L2N.PMk X (.Call (.Name x p) [e] [] pos) (tMkX C f te) := by
  intro pins s σ H Q I h
  obtain ⟨g, fd, iC, tI, F, hb, _⟩ := M.ex
  have T := M.xc
  obtain ⟨B, nid, iid, bmB, FB, SF, q, ov⟩ := T.base
  have h' : tCons te tNil σ H (oneV fun y H1 => ∀ d, H1 d = none → Q (.ref C) (some d) (upd H1 d (.xd [(f, y)]))) := h
  refine wpAny_Call_Name_kw (ld_glob I hg hm (PySem.W.callWith_K (h₀ := X.base) I.ok.mod.kin T.kp (thn ((pa_cons he pa_nil hst).run pos pins s σ H _ I h') fun us s1 ⟨vs, H1, I1, r, q1⟩ => ⟨I1.kIn, ?_⟩) hst hpl) hdb)
  cases r with
  | nil => exact False.elim q1
  | @cons y u vs' us' ry rr =>
    cases rr with
    | cons _ _ => exact False.elim q1
    | nil =>
      obtain ⟨nm, N', qn, bs, bm, hdct, sn, sub, ab, col, dd, k0, k1, k2, k3, k5, hC, hT⟩ := PySem.W.excInit_of I1.kIn q
      have bf : ∀ self, PySem.W.Looks (model X.prog X.w) s1.heap (bindSpecial (.ref g) self) (.ref g, [self]) := fun self => PySem.W.bind_fn I1.kIn self (beq_iff_eq.mp tI)
      have li := PySem.W.looks_findIn (M := model X.prog X.w) I1.kIn iC
      obtain ⟨hp, gs, dr, tk, os⟩ := s1
      have hsz : hp.objs.size ≤ hp.objs.size + 1 := Nat.le_succ _
      have hn : H1 (hp.objs.size + 1) = none := I1.hok.fresh hsz
      have kk : ∀ b o, hp.get? b = some o → (PySem.RLX.laid2 C [u] hp).get? b = some o := fun b o e => Heap.get?_push_of_some _ (Heap.get?_push_of_some _ e)
      have hget : (PySem.RLX.laid2 C [u] hp).get? (hp.objs.size + 1) = some (PySem.HandSPX.excO C hp.objs.size) := by heap_get
      have I2 : Inv X pins σ (upd H1 (hp.objs.size + 1) (exo (hp.objs.size + 1) C none)) ⟨PySem.RLX.laid2 C [u] hp, gs, dr, tk, os⟩ :=
        I1.laid (t' := tk) (a := hp.objs.size + 1) (o := exo (hp.objs.size + 1) C none) (h' := PySem.RLX.laid2 C [u] hp) kk hsz (exo_ok hget)
      have hq : spI X.K f [.ref (hp.objs.size + 1), y] (upd H1 (hp.objs.size + 1) (exo (hp.objs.size + 1) C none)) (fun v H2 => v = .non ∧ ∃ d, H2 (hp.objs.size + 1) = some (exo (hp.objs.size + 1) C (some d)) ∧ H2 d = some (exd d [(f, y)]) ∧ H1 d = none ∧
          upd (del H2 (hp.objs.size + 1)) d (.xd [(f, y)]) = upd H1 d (.xd [(f, y)])) E0 := by
        refine ⟨_, C, y, rfl, T, hno, upd_same, fun dx nd ne => ⟨rfl, dx, upd_same, ?_, ?_, ?_⟩⟩
        · rw [upd_ne ne, upd_same]
        · rw [upd_ne ne] at nd
          exact nd
        · funext b
          by_cases hb : b = dx
          · rw [hb, upd_same, upd_same]
          · rw [upd_ne hb, upd_ne hb]
            by_cases hb2 : b = hp.objs.size + 1
            · rw [hb2, del_same, hn]
            · rw [del_ne hb2, upd_ne hb2, upd_ne hb, upd_ne hb2]
      have n1 : ([Value.ref (hp.objs.size + 1), u] ++ []).length = (["self", f] : List Str).length := rfl
      have hbb := hb ⟨PySem.RLX.laid2 C [u] hp, gs, dr, tk, os⟩ [Value.ref (hp.objs.size + 1), u] I2.kIn n1
      have rr2 : Vals [V.ref (hp.objs.size + 1), y] [Value.ref (hp.objs.size + 1), u] := .cons rfl (.cons ry .nil)
      refine wpAny_call (PySem.RLX.run_make FB hT hC li bf (by show 1 ≤ sizeLine; decide) (codeAny_mono (F.run _ X.stack _ _ ⟨[Value.ref (hp.objs.size + 1), u], []⟩ [Value.ref (hp.objs.size + 1), u] _ _ E0 (hr.make C [u] [])
        (I2.env0.make C [u] []) hbb rr2 hq) fun r s' z => ?_))
      cases r with
      | error e => exact z.elim
      | ok fl =>
        cases fl with
        | ret v =>
          obtain ⟨w', H2, os2, bare2, un2, hok2, rv, ev, d, ea, ed, hd1, eH⟩ := z
          subst ev
          obtain ⟨h2, g2, d2, t2, os'⟩ := s'
          obtain ⟨t0, G, J, kG, ge, hoe, na⟩ := mk_end0 (d2 := d2) (t2 := t2) I1 hsz kk un2 hok2 os2 bare2 ea ed hd1
          rw [eH] at J na
          refine ⟨rv, hp.objs.size + 1, _, _, ⟨G, g2, d2, t2, os'⟩, _, .ref C, some d, rfl, J, kG, ge, hoe, ⟨rfl, rfl, fun vs hv => ?_⟩, rfl, rfl, na, rfl, bare2, raises_own T.sub tyC, q1 d hd1⟩
          cases hv
          rfl
        | next => exact z.elim
        | brk => exact z.elim
        | cont => exact z.elim
theorem ps_raiseX {X : Cx} {k : Nat} {C : Addr} {f x : Str} {e : Expr} {te : TE} {p pos pos' : Pos} {W : WX} (M : XM X.prog X.w X.K X.mg X.base k C ["self", f] (spI X.K f)) (tyC : PySem.W.typeIn X.K (.ref C) = some (.type "type")) (hno : PySem.W.findIn X.K (.ref C) f = some none)
    (hr : Room (k + 1) X.A) (hg : Gl X x) (hm : X.mg x = some (.ref C)) (he : PE X e te) (hc : X.calm = true) (tk : L2N.Takes X W) (hdb : (x == ("__debug__" : Str)) = false := by decide) (hst : starEach [e] X.env = (false, eval e X.env) :: starEach [] X.env := by rfl) (hpl : (backTo pos (starEach [] X.env)).any (·.1) = false := by rfl) :
    PS X (.Raise (some (.Call (.Name x p) [e] [] pos)) none pos') (fun _ σ H => te σ H fun y H1 => ∀ d, H1 d = none → W (.ref C) (some d) σ (upd H1 d (.xd [(f, y)]))) :=
  L2N.ps_raise hc tk (pmk_x M tyC hno hr hg hm he hdb hst hpl)
/-! ### defs that raise -/
section
variable {P : Program} {w : World} {K : PySem.W.Frag} {mg : Str → Option Value} {base : Heap}
theorem okN {x qual : Str} {st : Stmt} {f : Addr} {fd : FuncData} {N ps : List Str} {k : Nat} {sp : Sp} (F : Fun K x qual st f fd) (S : FnScope N ps (defScope st)) (len : ∀ vs H Q E, sp vs H Q E → vs.length = ps.length)
    (bd : ∀ (cdv : Value) (A : Around) (outer : List Env) (s : Shared) (H : Hp) (vs : List V) (Q : VK) (E : XK), Room k (A.deeper (envOfC qual (defScope st) s.heap.objs.size f cdv)) → sp vs H Q E →
      ∃ t, PSs (cxOf (L2N.CX P w) P w K mg base N qual (defScope st) f cdv A outer s H E) (defBody st) t ∧ t { nx := fun _ H' => Q .non H', rt := Q } (L2.start N vs) H) : FnOk P w K mg base (L2N.CX P w) (k + 1) f fd ps sp := by
  obtain ⟨oc, od, kV, doc, pm, an, cdv, ct, osl, rfl, lk, hcd⟩ := F.ex
  exact fn_of lk hcd S len fun A outer s H vs Q E hr hsp => bd cdv A outer s H vs Q E hr hsp
end
structure DfN (P : Program) (w : World) (K : PySem.W.Frag) (mg : Str → Option Value) (base : Heap) (k : Nat) (x : Str) (ps : List Str) (sp : Sp) : Prop where
  ex : ∃ (f : Addr) (fd : FuncData), FnOk P w K mg base (L2N.CX P w) k f fd ps sp ∧ mg x = some (.ref f) ∧ PySem.W.keepIn K (.ref f) = true ∧ Binds K fd ps []
theorem passN {X : Cx} {W : WX} {E : XK} (tk : L2N.Takes X W) (hW : ∀ cls d σ H, E cls d H → W cls d σ H) : Passes (L2N.CX X.prog X.w) X E := L2N.passes_call tk hW
section
variable {X : Cx} {k : Nat} {ps : List Str} {sp : Sp} {x : Str} {p pos : Pos} {e : Expr} {es : List Expr} {t : TA} {E : XK}
theorem pe_dfN (D : DfN X.prog X.w X.K X.mg X.base k x ps sp) (hr : Room k X.A) (hg : Gl X x) (hx : Passes (L2N.CX X.prog X.w) X E)
    (ha : PA X (e :: es) t) (hdb : (x == ("__debug__" : Str)) = false := by decide) (he : starEach (e :: es) X.env = (false, eval e X.env) :: starEach es X.env := by rfl) (hpl : (backTo pos (starEach es X.env)).any (·.1) = false := by rfl) :
    PE X (.Call (.Name x p) (e :: es) [] pos) (tCall sp [] E t) := by
  obtain ⟨f, fd, G, hm, hk, hb⟩ := D.ex
  exact pe_call G hr hg hm hk hb .nil hx ha hdb he hpl
end
/-! ### the lambda -/
section
variable {X : Cx} {pins : List (Addr × Obj)} {σ : L2.St} {H HZ : Hp} {s s1 : Shared}
abbrev lamXe (X : Cx) (A : Around) (outer : List Env) (s : Shared) (H : Hp) (E : XK) (scope : Scope) (f c' : Addr) : Value → Shared → Prop := fun e s' =>
  wpAny (model X.prog X.w) (A.deeper (LamX.lamEnv X scope s.heap.objs.size f c')) (leaving (LamX.lamEnv X scope s.heap.objs.size f c') e) (fun _ s'' => L2N.CX X.prog X.w outer H s E e s'') (fun e' s'' => L2N.CX X.prog X.w outer H s E e' s'') s'
abbrev lamN (X : Cx) (A : Around) (outer : List Env) (s : Shared) (H : Hp) (E : XK) (scope : Scope) (f c' : Addr) : Cx := (LamX.lamCx X A outer s H E scope f c').tr [] (lamXe X A outer s H E scope f c')
theorem lamN_takes {A : Around} {outer : List Env} {E : XK} {scope : Scope} {f c' : Addr} : L2N.Takes (lamN X A outer s H E scope f c') (fun cls d _ H' => E cls d H') := L2N.takes_of rfl rfl rfl rfl
theorem pe_actN {CXg : CXT} {Eg : XK} {Ng : List Str} {qg : Str} {sg : Scope} {g f c' : Addr} {cdg pm ctv : Value} {params : Arguments} {body : Expr} {scope : Scope} {k i : Nat} {a : Str} {pn : List (Addr × Obj)} {xe : Value → Shared → Prop} {W : WX} {E : XK} {tb : TE} {p1 p2 : Pos}
    (I : Inv X pins σ H s) (L : LamX.LamS X.env.scope scope) (hf : s.heap.get? f = some (PySem.W.kla_obj "<lambda>" (X.env.qual ++ "<lambda>") params body scope (cloFrom X.env.cells scope.names []) pm c' ctv)) (hfn : H f = none) (hfr : f ∉ frs X.stack)
    (hbind : bindArgs (PySem.W.kla_fn "<lambda>" (X.env.qual ++ "<lambda>") params body scope (cloFrom X.env.cells scope.names []) pm (.ref c') ctv) ⟨[], []⟩ = pure [])
    (tk : L2N.Takes ((cxOf CXg X.prog X.w X.K X.mg X.base Ng qg sg g cdg X.A X.stack s H Eg).tr pn xe) W) (hr : Room (k + 1) (X.A.deeper (envOfC qg sg s.heap.objs.size g cdg)))
    (hbody : ∀ (A : Around) (outer : List Env) (s : Shared) (H : Hp), A.guards = X.A.guards → Room k (A.deeper (LamX.lamEnv X scope s.heap.objs.size f c')) → PE (lamN X A outer s H E scope f c') body tb)
    (hN : Ng[i]? = some a) (hv : Vis sg a) (hd : (a == ("__debug__" : Str)) = false := by decide) (hcd : (a == ("__classdict__" : Str)) = false := by decide) :
    PE ((cxOf CXg X.prog X.w X.K X.mg X.base Ng qg sg g cdg X.A X.stack s H Eg).tr pn xe) (.Call (.Name a p1) [] [] p2)
      (fun σZ HZ Q => σZ[i]? = some (some (.ref f)) ∧ HZ c' = some (LamX.CodeO c' (X.env.qual ++ "<lambda>")) ∧ (∀ cls d H', E cls d H' → W cls d σZ H') ∧ tb σ HZ Q) := by
  refine ⟨fun pinsZ sZ σZ HZ Q IZ ⟨hs, hc, hW, ht⟩ => ?_⟩
  refine wpAny_Call_Name_kw (thn ((pe_var (pos := p1) (i := i) hN hv hd hcd).run pinsZ sZ σZ HZ (fun v H1 => v = .ref f ∧ H1 = HZ) IZ ⟨.ref f, hs, rfl, rfl⟩) fun u s1 ⟨v, H1, I1, r1, ev, eH⟩ => ?_)
  subst ev
  rw [eH] at I1
  cases (show u = Value.ref f from r1)
  have of1 := I1.base.keep f _ hf hfn hfr (fun z => nomatch (show f ∈ ([] : List Addr) from z))
  refine PySem.W.callWith_F0 ⟨_, _, _, _, of1⟩ ?_
  obtain ⟨⟨oc, vs, t, hoc, hdc, hvc⟩, _, _⟩ := I1.hok c' _ hc
  have rc : codeAny (model X.prog X.w) (X.A.deeper (envOfC qg sg s.heap.objs.size g cdg)) (.call (.ref f) ⟨[], []⟩) (CR (L2N.CX X.prog X.w) (envOfC qg sg s.heap.objs.size g cdg :: X.stack) X.prog X.w HZ s1 Q E) s1 := by
    refine PySem.W.kla_callFunE hr.depth of1 rfl L.co L.gen rfl ⟨c', oc, vs, t, rfl, hoc, hdc, hvc⟩ ?_
    rw [hbind]
    refine wpAny_pure (wpAny_newFunctionEnv (fun y hy => (L.own y hy).2) (fun y hy => absurd hy (by simp)) (fun h₁ hns hsb => ⟨I1.nolimit.fresh _ hsb, ?_⟩) L.kind)
    show codeAny _ _ (.expr body (LamX.lamEnv X scope s1.heap.objs.size f c')) _ _
    have kp : ∀ b o, s1.heap.get? b = some o → h₁.get? b = some o := fun b o e => hsb.extBut b o (Nat.ne_of_lt (Heap.lt_size e)) (Heap.get?_push_of_some _ e)
    have J := LamX.lam_start2 (E := E) (tk := s1.toks + ([] : List (Str × Value)).length) (c' := c') (f := f) I L I1.env0 hr.hd I1.base hns kp
    refine PySem.W.kla_codeExpr (wpAny_mono ((hbody (X.A.deeper (envOfC qg sg s.heap.objs.size g cdg)) _ s1 HZ rfl (hr.deeper _)).run [] _ _ HZ Q (J.toTry _) ht) (fun v s' hq => ?_) fun e s' hq => hq)
    obtain ⟨w', H', J', rv, q⟩ := hq
    exact ⟨w', H', J'.os, J'.bare, J'.base, J'.hok, rv, q⟩
  refine wpAny_call (codeAny_mono rc fun r s' hq => ?_)
  cases r with
  | error e => exact tk e s' (L2N.XE.of_call I1 hW hq)
  | ok fl =>
    cases fl with
    | ret u => exact I1.after hq
    | next => exact False.elim hq
    | brk => exact False.elim hq
    | cont => exact False.elim hq
end
def GivesN (X : Cx) (k : Nat) (Ng : List Str) (x : Str) (sg : Scope) (g : Addr) (cdg : Value) (bg : List Stmt) (a : Str) (q : Str) (TT : (XK → Hp → VK → Prop) → Hp → VK → Prop) : Prop :=
  ∀ (f c' : Addr) (s : Shared) (H : Hp) (Q : VK) (tl : XK → Hp → VK → Prop), Room (k + 1) (X.A.deeper (envOfC x sg s.heap.objs.size g cdg)) →
    (∀ (W : WX) (pn : List (Addr × Obj)) (xe : Value → Shared → Prop) (E : XK) (p1 p2 : Pos), L2N.Takes ((cxOf CX0 X.prog X.w X.K X.mg X.base Ng x sg g cdg X.A X.stack s H E0).tr pn xe) W →
      PE ((cxOf CX0 X.prog X.w X.K X.mg X.base Ng x sg g cdg X.A X.stack s H E0).tr pn xe) (.Call (.Name a p1) [] [] p2) (fun σZ HZ Q => σZ[0]? = some (some (.ref f)) ∧ HZ c' = some (LamX.CodeO c' q) ∧ (∀ cls d H', E cls d H' → W cls d σZ H') ∧ tl E HZ Q)) →
    H c' = some (LamX.CodeO c' q) → TT tl H Q →
    ∃ t, PSs (cxOf CX0 X.prog X.w X.K X.mg X.base Ng x sg g cdg X.A X.stack s H E0).nox bg t ∧ t { nx := fun _ H' => Q .non H', rt := Q } (L2.start Ng [.ref f]) H
section
variable {X : Cx}
theorem pe_lamN {T : List (Addr × Str)} {TT : (XK → Hp → VK → Prop) → Hp → VK → Prop} {x a : Str} {g c P : Addr} {k : Nat} {pg : Arguments} {bg : List Stmt} {sg : Scope} {dV kV doc pm cdv ct oc : Value} {an od : Option Addr} {osl : Array (Option Value)} {Ng : List Str}
    {params : Arguments} {body : Expr} {scope : Scope} {t : XK → TE} {p lpos pos : Pos} (hg : Gl X x) (hm : X.mg x = some (.ref g)) (hk : PySem.W.keepIn X.K (.ref g) = true)
    (lk : X.K.lookup g = some ⟨oc, od, .func (PySem.W.fnOf x x pg bg sg dV kV doc pm an cdv ct), osl⟩) (hcg : PySem.W.codeIn X.K cdv x = true) (hb : L2.Binds X.K (PySem.W.fnOf x x pg bg sg dV kV doc pm an cdv ct) [a] []) (Sg : FnScope Ng [a] sg) (hNg : Ng[0]? = some a) (hva : Vis sg a)
    (hG : GivesN X k Ng x sg g cdv bg a (X.env.qual ++ "<lambda>") TT)
    (TB : LamX.TabB X.base X.mg c P) (hcode : X.env.code = .ref c) (hmT : (P, X.env.qual ++ "<lambda>") ∈ T) (hu : ∀ p ∈ T, p.1 = P → p.2 = X.env.qual ++ "<lambda>") (hr : Room (k + 2) X.A) (L : LamX.LamS X.env.scope scope) (hdef : defaultsOf params X.env = ([], []))
    (hbind : ∀ (q : Str) (cl : List (Str × Addr)) (pm cv ctv : Value), bindArgs (PySem.W.kla_fn "<lambda>" q params body scope cl pm cv ctv) ⟨[], []⟩ = pure [])
    (hbody : ∀ (A : Around) (outer : List Env) (s : Shared) (H : Hp) (E : XK) (f c' : Addr), A.guards = X.A.guards → Room k (A.deeper (LamX.lamEnv X scope s.heap.objs.size f c')) → PE (lamN X A outer s H E scope f c') body (t E))
    (hdb : (x == ("__debug__" : Str)) = false := by decide) (hd : (a == ("__debug__" : Str)) = false := by decide) (hcd : (a == ("__classdict__" : Str)) = false := by decide) :
    PE X (.Call (.Name x p) [.Lambda params body scope lpos] [] pos) (LamX.tLam T TT t) := by
  refine ⟨fun pins s σ H Q I ⟨hT, h⟩ => wpAny_Call_Name_kw (ld_glob I hg hm (PySem.W.callWith_K (h₀ := X.base) I.ok.mod.kin hk ?_ (by rfl) (by rfl)) hdb)⟩
  show wpAny _ _ (spliced ((false, eval (.Lambda params body scope lpos) X.env) :: backTo pos (starEach [] X.env))) _ _ s
  refine Calls.spliced_cons (LamX.lam_make2 I TB hcode hmT hu hT hdef (L.has I.ok) fun f c' pm' ctv H1 s' I1 eN T1 hf hfn hfr hco => Calls.spliced_nil ⟨I1.kIn, ?_⟩)
  have rc : codeAny (model X.prog X.w) X.A (.call (.ref g) ⟨[.ref f], []⟩) (CR CX0 X.stack X.prog X.w H1 s' Q E0) s' := by
    refine LamX.run_ofS (N := Ng) (ps := [a]) (us := [.ref f]) (vs := [.ref f]) lk hcg Sg hr I1.env0 (hb s' [.ref f] I1.kIn rfl) (.cons rfl .nil) rfl fun hr' => ?_
    obtain ⟨t', ht', hq'⟩ := hG f c' s' H1 Q (fun E H' Q' => t E σ H' Q') hr' (fun W pn xe E p1 p2 tk => pe_actN (i := 0) I1 L hf hfn hfr (hbind _ _ _ _ _) tk hr' (fun A outer s H hgd hr2 => hbody A outer s H E f c' hgd hr2) hNg hva hd hcd) hco (h H1 eN T1)
    exact ⟨t', ht'.nox, hq'⟩
  refine wpAny_call (codeAny_mono rc fun r s2 hq => ?_)
  cases r with
  | error e => exact (show False from hq).elim
  | ok fl =>
    cases fl with
    | ret u => exact I1.after hq
    | next => exact False.elim hq
    | brk => exact False.elim hq
    | cont => exact False.elim hq
end
end RL

set_option maxHeartbeats 2000000
/-! star parameters of defs that may raise -/
namespace RL
open PySem L2 PySem.Spec PyProof.Rows
end RL

set_option maxHeartbeats 2000000
/-! Values of many kinds: what isinstance says of them; what they show. -/
namespace RL
open PySem L2 PySem.Spec PyProof.Rows
def tyN : PyData → String
  | .none => "NoneType"
  | .bool _ => "bool"
  | .int _ => "int"
  | .str _ => "str"
  | .list _ => "list"
  | .tuple _ => "tuple"
  | .dict _ => "dict"
theorem ty_dp {K : PySem.W.Frag} {H : Hp} {v : V} {d : PyData} (h : Dp K H v d) : TyX K H v (.type (tyN d)) := by
  cases h with
  | non => exact .base .non
  | bl b => exact .base (.bl b)
  | int i => exact .base (.int i)
  | str x => exact .base (.str x)
  | lst a b =>
    rcases a with (a | ⟨o, a⟩) | ⟨o, its, n, e, c, r⟩
    · exact .base (.lst a)
    · exact .base (.frz a)
    · exact .kList e c
  | tup a b =>
    rcases a with (a | ⟨o, a⟩) | ⟨o, its, n, e, c, r⟩
    · exact .base (.tup a)
    · exact .fTuple a
    · exact .kTuple e c
theorem ty_dq {K : PySem.W.Frag} {H : Hp} {v : V} {d : PyData} (h : Dq K H v d) : TyX K H v (.type (tyN d)) := by
  cases h with
  | dp a b => exact ty_dp a
  | dk a => exact .base (.dK a)
def isIntD : PyData → Bool
  | .int _ => true
  | _ => false
def isTupD : PyData → Bool
  | .tuple _ => true
  | _ => false
def isStrD : PyData → Bool
  | .str _ => true
  | _ => false
def intOrBool : PyData → Bool
  | .int _ => true
  | .bool _ => true
  | _ => false
def isBoolD : PyData → Bool
  | .bool _ => true
  | _ => false
theorem kit_str {K : PySem.W.Frag} (d : PyData) : PySem.W.kitOne K (.type (tyN d)) (.type "str") = some (isStrD d) := by
  cases d <;> (simp only [tyN, isStrD]; exact kit_ty (by decide +kernel))
def withinD (d : PyData) (lo hi : Int) : Bool := match d with
  | .int i => decide (lo ≤ i) && decide (i ≤ hi)
  | _ => false
def pairD : PyData → Bool
  | .tuple [a, b] => isIntD a && isIntD b
  | _ => false
def resD : PyData → Bool
  | .int i => decide (0 ≤ i) && decide (i ≤ 1000000000000)
  | .tuple [.int a, .int b] => decide (a = 1 ∧ b = 0) || (decide (0 ≤ a) && decide (a ≤ 1000000000000) && (decide (1 ≤ b) && decide (b ≤ 1000000000000)))
  | _ => false
end RL

namespace RL
open PySem L2 PySem.Spec PyProof.Rows
theorem ix_listK {X : Cx} {K : PySem.W.Frag} (hK : X.K = K := by rfl) : IxR X (rIxL K) := by
  subst hK
  exact ix_list
end RL

set_option maxHeartbeats 2000000
namespace RL
open PySem L2 PySem.Spec PyProof.Rows
/-! ### data in heaps -/
inductive Dr (H : Hp) : V → PyData → Prop
  | non : Dr H .non .none
  | bl (b : Bool) : Dr H (.bl b) (.bool b)
  | int (i : Int) : Dr H (.int i) (.int i)
  | str (x : Str) : Dr H (.str x) (.str x)
  | lst {a : Addr} {vs : List V} {ds : List PyData} : H a = some (.lst vs) → vs.length = ds.length → (∀ (i : Nat) v d, vs[i]? = some v → ds[i]? = some d → Dr H v d) → Dr H (.ref a) (.list ds)
  | tup {a : Addr} {vs : List V} {ds : List PyData} : H a = some (.tup vs) → vs.length = ds.length → (∀ (i : Nat) v d, vs[i]? = some v → ds[i]? = some d → Dr H v d) → Dr H (.ref a) (.tuple ds)
  | dk {a : Addr} {kvs : List (Key × Int)} : H a = some (.dK (kvs.map fun p => (p.1, V.int p.2))) → Dr H (.ref a) (.dict (kvs.map fun p => (keyD p.1, .int p.2)))
def Drs (H : Hp) (vs : List V) (ds : List PyData) : Prop := vs.length = ds.length ∧ ∀ (i : Nat) v d, vs[i]? = some v → ds[i]? = some d → Dr H v d
theorem Drs.nil {H : Hp} : Drs H [] [] := ⟨rfl, fun (i : Nat) v d h => by simp at h⟩
theorem Drs.cons {H : Hp} {v : V} {d : PyData} {vs : List V} {ds : List PyData} (h : Dr H v d) (t : Drs H vs ds) : Drs H (v :: vs) (d :: ds) := by
  refine ⟨by simp [t.1], fun (i : Nat) w e h1 h2 => ?_⟩
  cases i with
  | zero =>
    cases h1
    cases h2
    exact h
  | succ i => exact t.2 i w e h1 h2
theorem Dr.ts {H : Hp} {a : Addr} {vs : List V} {ds : List PyData} (h : H a = some (.tup vs)) (t : Drs H vs ds) : Dr H (.ref a) (.tuple ds) := .tup h t.1 t.2
theorem Dr.ls {H : Hp} {a : Addr} {vs : List V} {ds : List PyData} (h : H a = some (.lst vs)) (t : Drs H vs ds) : Dr H (.ref a) (.list ds) := .lst h t.1 t.2
theorem Dr.mono {H H' : Hp} {v : V} {d : PyData} (h : Dr H v d) (s : Same H H') : Dr H' v d := by
  induction h with
  | non => exact .non
  | bl b => exact .bl b
  | int i => exact .int i
  | str x => exact .str x
  | lst h l _ ih => exact .lst (s _ _ h) l ih
  | tup h l _ ih => exact .tup (s _ _ h) l ih
  | dk h => exact .dk (s _ _ h)
theorem Drs.mono {H H' : Hp} {vs : List V} {ds : List PyData} (h : Drs H vs ds) (s : Same H H') : Drs H' vs ds := ⟨h.1, fun (i : Nat) v d h1 h2 => (h.2 i v d h1 h2).mono s⟩
theorem Drs.inv {H : Hp} {v : V} {d : PyData} {vs : List V} {ds : List PyData} (h : Drs H (v :: vs) (d :: ds)) : Dr H v d ∧ Drs H vs ds :=
  ⟨h.2 0 v d rfl rfl, ⟨by have := h.1; simpa using this, fun (i : Nat) w e h1 h2 => h.2 (i + 1) w e h1 h2⟩⟩
theorem Drs.at_ {H : Hp} {vs : List V} {ds : List PyData} (h : Drs H vs ds) {i : Nat} {d : PyData} (hd : ds[i]? = some d) : ∃ v, vs[i]? = some v ∧ Dr H v d := by
  have hi : i < vs.length := by rw [h.1]; exact (List.getElem?_eq_some_iff.mp hd).1
  exact ⟨_, List.getElem?_eq_getElem hi, h.2 i _ d (List.getElem?_eq_getElem hi) hd⟩
theorem Drs.app {H : Hp} {vs ws : List V} {ds es : List PyData} (h : Drs H vs ds) (h' : Drs H ws es) : Drs H (vs ++ ws) (ds ++ es) := by
  induction vs generalizing ds with
  | nil =>
    cases ds with
    | nil => exact h'
    | cons d ds => exact absurd h.1 (by simp)
  | cons v vs ih =>
    cases ds with
    | nil => exact absurd h.1 (by simp)
    | cons d ds => exact .cons h.inv.1 (ih h.inv.2)
theorem Drs.take {H : Hp} {vs : List V} {ds : List PyData} (h : Drs H vs ds) (n : Nat) : Drs H (vs.take n) (ds.take n) := by
  refine ⟨by rw [List.length_take, List.length_take, h.1], fun (i : Nat) v d h1 h2 => ?_⟩
  rw [List.getElem?_take] at h1 h2
  split at h1
  · rename_i hi
    rw [if_pos hi] at h2
    exact h.2 i v d h1 h2
  · cases h1
theorem Drs.drop {H : Hp} {vs : List V} {ds : List PyData} (h : Drs H vs ds) (n : Nat) : Drs H (vs.drop n) (ds.drop n) := by
  refine ⟨by rw [List.length_drop, List.length_drop, h.1], fun (i : Nat) v d h1 h2 => ?_⟩
  rw [List.getElem?_drop] at h1 h2
  exact h.2 _ v d h1 h2
theorem hda_at : ∀ {ds : List PyData} {i : Nat} {d : PyData}, PyData.hasDictAll ds = false → ds[i]? = some d → d.hasDict = false
  | d :: ds, 0, _, h, e => by
    cases e
    simp only [PyData.hasDictAll, Bool.or_eq_false_iff] at h
    exact h.1
  | d :: ds, i + 1, _, h, e => by
    simp only [PyData.hasDictAll, Bool.or_eq_false_iff] at h
    exact hda_at h.2 e
theorem dpAll_of {K : PySem.W.Frag} {H : Hp} : ∀ {vs : List V} {ds : List PyData}, vs.length = ds.length → (∀ (i : Nat) v d, vs[i]? = some v → ds[i]? = some d → Dp K H v d) → DpAll K H vs ds
  | [], [], _, _ => .nil
  | [], _ :: _, h, _ => absurd h (by simp)
  | _ :: _, [], h, _ => absurd h (by simp)
  | v :: vs, d :: ds, h, k => .cons (k 0 v d rfl rfl) (dpAll_of (by simpa using h) fun (i : Nat) w e h1 h2 => k (i + 1) w e h1 h2)
theorem Dr.dp {K : PySem.W.Frag} {H : Hp} {v : V} {d : PyData} (h : Dr H v d) (n : d.hasDict = false) : Dp K H v d := by
  induction h with
  | non => exact .non
  | bl b => exact .bl b
  | int i => exact .int i
  | str x => exact .str x
  | lst h l _ ih => exact .lst (SqL.of h) (dpAll_of l fun (i : Nat) v d h1 h2 => ih i v d h1 h2 (hda_at n h2))
  | tup h l _ ih => exact .tup (SqT.of h) (dpAll_of l fun (i : Nat) v d h1 h2 => ih i v d h1 h2 (hda_at n h2))
  | dk h => exact absurd n (by simp [PyData.hasDict])
def Nd (d : PyData) : Prop := d.hasDict = false ∨ ∃ ps, d = .dict ps
theorem Dr.dq {K : PySem.W.Frag} {H : Hp} {v : V} {d : PyData} (h : Dr H v d) (n : Nd d) : Dq K H v d := by
  rcases n with n | ⟨ps, rfl⟩
  · exact .dp (h.dp n) n
  · cases h with
    | dk h => exact .dk h
theorem Nd.at_ {ds : List PyData} {i : Nat} {d : PyData} (n : Nd (.tuple ds)) (h : ds[i]? = some d) : d.hasDict = false := by
  rcases n with n | ⟨_, n⟩
  · exact hda_at n h
  · cases n
theorem Dr.tuple {H : Hp} {v : V} {ds : List PyData} (h : Dr H v (.tuple ds)) : ∃ a vs, v = .ref a ∧ H a = some (.tup vs) ∧ Drs H vs ds := by
  cases h with
  | tup a l k => exact ⟨_, _, rfl, a, l, k⟩
theorem Dr.list {H : Hp} {v : V} {ds : List PyData} (h : Dr H v (.list ds)) : ∃ a vs, v = .ref a ∧ H a = some (.lst vs) ∧ Drs H vs ds := by
  cases h with
  | lst a l k => exact ⟨_, _, rfl, a, l, k⟩
theorem Dr.toInt {H : Hp} {v : V} {i : Int} (h : Dr H v (.int i)) : v = .int i := by
  cases h with
  | int i => rfl
theorem Dr.toStr {H : Hp} {v : V} {x : Str} (h : Dr H v (.str x)) : v = .str x := by
  cases h with
  | str i => rfl
/-! ### heaps less one place -/
def hid (c : Addr) (H : Hp) : Hp := fun b => if b = c then none else H b
theorem hid_of {c b : Addr} {H : Hp} {o : HO} (h : H b = some o) (n : b ≠ c) : hid c H b = some o := by
  unfold hid
  rw [if_neg n]
  exact h
theorem hid_get {c b : Addr} {H : Hp} {o : HO} (h : hid c H b = some o) : b ≠ c ∧ H b = some o := by
  unfold hid at h
  by_cases n : b = c
  · rw [if_pos n] at h
    cases h
  · rw [if_neg n] at h
    exact ⟨n, h⟩
theorem hid_but {c : Addr} {H H' : Hp} (s : But c H H') : Same (hid c H) (hid c H') := fun b o e => by
  obtain ⟨n, h⟩ := hid_get e
  exact hid_of (s b o n h) n
theorem hid_sub {c : Addr} {H : Hp} : Same (hid c H) H := fun b o e => (hid_get e).2
def Dh (c : Addr) (H : Hp) (v : V) (d : PyData) : Prop := Dr (hid c H) v d
theorem Dh.but {c : Addr} {H H' : Hp} {v : V} {d : PyData} (h : Dh c H v d) (s : But c H H') : Dh c H' v d := Dr.mono h (hid_but s)
theorem Dh.same {c : Addr} {H H' : Hp} {v : V} {d : PyData} (h : Dh c H v d) (s : Same H H') : Dh c H' v d := h.but (.of s)
theorem Dh.dr {c : Addr} {H : Hp} {v : V} {d : PyData} (h : Dh c H v d) : Dr H v d := Dr.mono h hid_sub
def Dhs (c : Addr) (H : Hp) (vs : List V) (ds : List PyData) : Prop := Drs (hid c H) vs ds
theorem Dhs.but {c : Addr} {H H' : Hp} {v : List V} {d : List PyData} (h : Dhs c H v d) (s : But c H H') : Dhs c H' v d := Drs.mono h (hid_but s)
theorem Dhs.same {c : Addr} {H H' : Hp} {v : List V} {d : List PyData} (h : Dhs c H v d) (s : Same H H') : Dhs c H' v d := h.but (.of s)
/-! ### the tape -/
def TapeAt (c : Addr) (n : Nat) (H : Hp) : Prop := ∃ x y z : Int, H c = some (.lst [.int x, .int y, .int z]) ∧ 0 ≤ x ∧ 0 ≤ y ∧ y < 2147483629 ∧ 0 ≤ z ∧ z ≤ n
theorem TapeAt.same {c : Addr} {n : Nat} {H H' : Hp} (h : TapeAt c n H) (s : Same H H') : TapeAt c n H' := by
  obtain ⟨x, y, z, a, b⟩ := h
  exact ⟨x, y, z, s _ _ a, b⟩
theorem TapeAt.ne {c b : Addr} {n : Nat} {H : Hp} (h : TapeAt c n H) (m : H b = none) : c ≠ b := by
  obtain ⟨x, y, z, a, _⟩ := h
  exact ne_of_none a m
theorem TapeAt.le {c : Addr} {n m : Nat} {H : Hp} (h : TapeAt c n H) (l : n ≤ m) : TapeAt c m H := by
  obtain ⟨x, y, z, a, b, c, d, e, f⟩ := h
  exact ⟨x, y, z, a, b, c, d, e, by omega⟩
theorem TapeAt.nt {c : Addr} {n : Nat} {H : Hp} (h : TapeAt c n H) {t : Addr} {xs : List V} (e : H t = some (.tup xs)) : t ≠ c := by
  obtain ⟨x, y, z, a, _⟩ := h
  exact ne_of e a (by intro z; cases z)
theorem TapeAt.notup {c : Addr} {n : Nat} {H : Hp} (h : TapeAt c n H) : ∀ xs, H c ≠ some (.tup xs) := fun xs z => h.nt z rfl
theorem Dh.new {c : Addr} {n : Nat} {H : Hp} {p : Addr} {vs : List V} {ds : List PyData} (t : TapeAt c n H) (np : H p = none) (h : Dhs c H vs ds) : Dh c (upd H p (.tup vs)) (.ref p) (.tuple ds) :=
  Dr.ts (hid_of upd_same (t.ne np).symm) (h.same (same_upd np))
def spCell (K : PySem.W.Frag) : Sp := fun vs H Q _ => ∃ (a : Addr) (ns : List Int) (i : Nat), vs = [.ref a, .int (i : Int)] ∧ SqL K H a (ns.map V.int) ∧ i ≤ 100 ∧ ns.length ≤ 63 ∧
  ∀ H' (j : Int), Same H H' → Q (.int j) H'
def spSrc : Sp := fun vs H Q _ => ∃ i : Int, vs = [.int i] ∧ ∀ H' c, Same H H' → H c = none → TapeAt c 0 H' → Q (.ref c) H'
def spDraw : Sp := fun vs H Q _ => ∃ (c : Addr) (n : Nat) (m : Int), vs = [.ref c, .int m] ∧ TapeAt c n H ∧ n < 1000000 ∧ 0 < m ∧ Sm 200 m ∧
  ∀ H' r, But c H H' → TapeAt c (n + 1) H' → 0 ≤ r → r < m → Q (.int r) H'
section
variable {P : Program} {w : World} {K : PySem.W.Frag} {mg : Str → Option Value} {base : Heap}
theorem sc_law_cell : FnScope ["_law_script", "_law_place", "_law_found", "_law_number"] ["_law_script", "_law_place"] (defScope s_law_cell) := ⟨rfl, rfl, rfl, by decide +kernel, rfl, by decide +kernel, by decide +kernel⟩

theorem ok_cell {f : Addr} {fd : FuncData} (F : Fun K "_law_cell" "_law_cell" s_law_cell f fd) (T : Txt K mg) : FnOk P w K mg base CX0 1 f fd ["_law_script", "_law_place"] (spCell K) := by
  refine F.ok sc_law_cell (fun vs H Q E h => ?_) (fun cdv A outer s H vs Q E hr h => ?_)
  · obtain ⟨a, ns, i, rfl, _⟩ := h
    rfl
  · obtain ⟨a, ns, i, rfl, hS, hi, hn, k⟩ := h
    refine ⟨_, (pss_cons (ps_if (pt_cmpR op_lt (pv 1) (pe_callB call_len_seq (by rfl) T.len (by decide +kernel) (pa_cons (pv 0) pa_nil)) (nomark _)) (pss_one (ps_ret (pe_callTy call_int1 (by rfl) T.int_ (by decide +kernel) (pa_cons (pe_ix ix_list (pv 0) (pv 1) (fun _ _ => rfl)) pa_nil)))) pss_nil)
      (pss_cons (ps_set (i := 2) sc_law_cell.nd rfl (.inl rfl) (pe_op op_add (pe_op op_add (pe_op op_mulX (pe_op op_mul pe_int (pv 1)) (pv 1)) (pe_op op_mul pe_int (pv 1))) pe_int))
      (pss_cons (ps_for PassesOwn.never rfl (pi_list (pe_slice sl_list (pv 0) po_none (po_some pe_int))) (pg_name (i := 3) sc_law_cell.nd rfl (.inl rfl)) (pss_one (ps_set (i := 2) sc_law_cell.nd rfl (.inl rfl) (pe_op op_mod (pe_callTy call_int1 (by rfl) T.int_ (by decide +kernel) (pa_cons (pe_op op_add (pe_op op_mul (pv 2) pe_int) (pv 3)) pa_nil)) pe_int))))
      (pss_one (ps_ret (pv 2)))))), ?_⟩
    have hlen : (ns.map V.int).length = ns.length := List.length_map ..
    have isI : ∀ (xs : List Int) (j : Nat) (y : V), (xs.map V.int)[j]? = some y → ∃ u, y = V.int u := fun xs j y hj => by
      rw [List.getElem?_map] at hj
      cases q : xs[j]? with
      | none =>
        rw [q] at hj
        cases hj
      | some u =>
        rw [q] at hj
        exact ⟨u, (Option.some.inj hj).symm⟩
    refine ⟨_, rfl, _, rfl, a, _, rfl, .inl hS, _, _, rfl, rfl, _, rfl, ite2 (fun e => ?_) (fun e => ?_)⟩
    · have e0 : (i : Int) < (ns.map V.int).length := of_decide_eq_true e
      have hin : i < ns.length := by omega
      exact ⟨_, rfl, _, rfl, a, _, _, _, rfl, rfl, hS, atI_nat (v := V.int ns[i]) (by rw [List.getElem?_map, List.getElem?_eq_getElem hin]; rfl), .inl ⟨_, rfl, k _ _ (Same.refl _)⟩⟩
    · have s1 : Sm 40 (40009 * (i : Int)) := by
        have : (2 : Nat) ^ 40 = 1099511627776 := by decide
        unfold Sm
        omega
      have s2 : Sm 40 (i : Int) := by
        have : (2 : Nat) ^ 40 = 1099511627776 := by decide
        unfold Sm
        omega
      refine ⟨_, rfl, _, _, rfl, rfl, .inl ⟨by decide, by decide⟩, _, rfl, _, _, rfl, rfl, mx s1 s2, _, rfl, _, _, rfl, rfl, .inl ⟨by decide, by decide⟩, _, _, rfl, rfl, _, _, rfl, rfl, ?_⟩
      refine ⟨_, rfl, 4, rfl, a, _, rfl, hS, fun l hl0 => ?_⟩
      have sm := same_upd (o := .lst (cutV (ns.map V.int) none (some 4))) hl0
      obtain ⟨ms, em⟩ : ∃ ms : List Int, cutV (ns.map V.int) none (some 4) = ms.map V.int := by
        unfold cutV
        rw [← List.map_drop, ← List.map_take]
        exact ⟨_, rfl⟩
      have hl : SqL K (upd H l (.lst (cutV (ns.map V.int) none (some 4)))) l (ms.map V.int) := by
        refine SqL.of ?_
        rw [upd_same, em]
      refine ⟨l, rfl, ⟨_, hl⟩, for_list (K := K) (a := l) (xs := ms.map V.int) (fun j σ H' => ∃ (c2 : Int) (v3 : Option V), σ = [some (.ref a), some (.int i), some (.int c2), v3] ∧ H' = upd H l (.lst (cutV (ns.map V.int) none (some 4)))) ⟨_, none, rfl, rfl⟩ (fun _ _ _ _ h => by obtain ⟨_, _, _, rfl⟩ := h; exact hl) ?_ ?_⟩
      · rintro j y σ H' hj ⟨c2, v3, rfl, rfl⟩
        obtain ⟨u, rfl⟩ := isI _ _ _ hj
        refine ⟨_, rfl, _, _, rfl, rfl, .inr ⟨by decide, by decide⟩, _, rfl, _, _, rfl, rfl, .inl ⟨_, rfl, _, _, rfl, rfl, (by decide : (0 : Int) < 2147483629), ?_⟩⟩
        exact ⟨_, _, rfl, rfl⟩
      · rintro σ H' ⟨c2, v3, rfl, rfl⟩
        exact ⟨_, rfl, k _ _ sm⟩
theorem sc_law_src : FnScope ["_law_number", "_law_digits"] ["_law_number"] (defScope s_law_src) := ⟨rfl, rfl, rfl, by decide +kernel, rfl, by decide +kernel, by decide +kernel⟩

theorem ok_src {f : Addr} {fd : FuncData} (F : Fun K "_law_src" "_law_src" s_law_src f fd) (T : Txt K mg) : FnOk P w K mg base CX0 1 f fd ["_law_number"] spSrc := by
  refine F.ok sc_law_src (fun vs H Q E h => ?_) (fun cdv A outer s H vs Q E hr h => ?_)
  · obtain ⟨i, rfl, _⟩ := h
    rfl
  · obtain ⟨i, rfl, k⟩ := h
    refine ⟨_, (pss_cons (ps_set (i := 1) sc_law_src.nd rfl (.inl rfl) (pe_ifExp (PW.pt (pw_or (pt_cmpR op_lt (pv 0) pe_int (nomark _)) (pw_or1 (pt_cmpR op_ge (pv 0) (pe_op op_pow pe_int pe_int) (nomark _))))) (pe_callB call_abs (by rfl) T.abs (by decide +kernel) (pa_cons (pv 0) pa_nil)) pe_int))
      (pss_one (ps_ret (pe_lst (pa_cons (pv 1) (pa_cons (pe_op op_mod (pe_callTy call_int1 (by rfl) T.int_ (by decide +kernel) (pa_cons (pv 0) pa_nil)) pe_int) (pa_cons pe_int pa_nil))))))), ?_⟩
    have m0 := Int.emod_nonneg i (show (2147483629 : Int) ≠ 0 by decide)
    have m1 := Int.emod_lt_of_pos i (show (0 : Int) < 2147483629 by decide)
    have fin : ∀ x : Int, 0 ≤ x → ∀ p, H p = none → Q (.ref p) (upd H p (.lst [.int x, .int (i % 2147483629), .int 0])) := fun x x0 p np => k _ p (same_upd np) np ⟨x, _, 0, upd_same, x0, m0, m1, by omega, by omega⟩
    have ab : ∀ p, H p = none → Q (.ref p) (upd H p (.lst [.int (if i < 0 then -i else i), .int (i % 2147483629), .int 0])) := fin _ (by split <;> omega)
    refine ⟨_, rfl, _, _, rfl, rfl, _, rfl, ite2 (fun e => ?_) (fun e => ?_)⟩
    · refine iteT ⟨_, rfl, _, rfl, ?_⟩
      exact ⟨_, rfl, _, rfl, .inl ⟨_, rfl, _, _, rfl, rfl, (by decide : (0 : Int) < 2147483629), (by show 3 ≤ sizeLine; decide), ab⟩⟩
    · refine ⟨_, rfl, _, _, rfl, rfl, ⟨by decide, by decide, by decide⟩, _, _, rfl, rfl, _, rfl, ite2 (fun e4 => ?_) (fun e4 => ?_)⟩
      · refine ⟨_, rfl, _, rfl, ?_⟩
        exact ⟨_, rfl, _, rfl, .inl ⟨_, rfl, _, _, rfl, rfl, (by decide : (0 : Int) < 2147483629), (by show 3 ≤ sizeLine; decide), ab⟩⟩
      · exact ⟨_, rfl, _, rfl, .inl ⟨_, rfl, _, _, rfl, rfl, (by decide : (0 : Int) < 2147483629), (by show 3 ≤ sizeLine; decide), fin 0 (by decide)⟩⟩
theorem sc_law_pick : FnScope ["_law_tape", "_law_many", "_law_digit"] ["_law_tape", "_law_many"] (defScope s_law_pick) := ⟨rfl, rfl, rfl, by decide +kernel, rfl, by decide +kernel, by decide +kernel⟩

theorem ok_draw {f : Addr} {fd : FuncData} (F : Fun K "_law_pick" "_law_pick" s_law_pick f fd) (T : Txt K mg) : FnOk P w K mg base CX0 1 f fd ["_law_tape", "_law_many"] spDraw := by
  refine F.ok sc_law_pick (fun vs H Q E h => ?_) (fun cdv A outer s H vs Q E hr h => ?_)
  · obtain ⟨c, n, m, rfl, _⟩ := h
    rfl
  · obtain ⟨c, n, m, rfl, ⟨x, y, z, hc, x0, y0, y1, z0, z1⟩, n1, m0, ms, k⟩ := h
    refine ⟨_, (C8.pss_cut (ps_asg (pe_op op_add (pe_ix ix_list (pv 0) pe_int (fun _ _ => rfl)) pe_int) (pg_sub (pv 0) pe_int set_list))
      (C8.pss_cut (ps_asg (pe_op op_mod (pe_callTy call_int1 (by rfl) T.int_ (by decide +kernel) (pa_cons (pe_op op_pow (pe_op op_add (pe_op op_add (pe_ix ix_list (pv 0) pe_int (fun _ _ => rfl)) (pe_op op_mul pe_int (pe_ix ix_list (pv 0) pe_int (fun _ _ => rfl)))) pe_int) pe_int) pa_nil)) pe_int) (pg_sub (pv 0) pe_int set_list))
      (pss_cons (ps_if (pt_cmpR op_gt (pe_ix ix_list (pv 0) pe_int (fun _ _ => rfl)) pe_int (nomark _)) (pss_cons (ps_asg (pe_callB call_divmodW (by rfl) T.divmod (by decide +kernel) (pa_cons (pe_ix ix_list (pv 0) pe_int (fun _ _ => rfl)) (pa_cons (pv 1) pa_nil))) (pg_tup rfl (pgs_cons (pg_sub (pv 0) pe_int set_list) (pgs_cons (pg_name (i := 2) sc_law_pick.nd rfl (.inl rfl)) pgs_nil))))
      (pss_one (ps_ret (pv 2)))) pss_nil)
      (pss_one (ps_ret (pe_op op_mod (pe_callTy call_int1 (by rfl) T.int_ (by decide +kernel) (pa_cons (pe_op op_fdivW (pe_ix ix_list (pv 0) pe_int (fun _ _ => rfl)) pe_int) pa_nil)) (pv 1))))))), ?_⟩
    refine ⟨fun σ' H' => σ' = [some (.ref c), some (.int m), none] ∧ H' c = some (.lst [.int x, .int y, .int (z + 1)]) ∧ But c H H', ?_, ?_⟩
    · exact ⟨_, rfl, c, _, _, _, rfl, rfl, SqL.of hc, atI_nat (j := 2) rfl, _, _, rfl, rfl, _, rfl, c, _, _, _, rfl, rfl, hc, rfl, rfl, upd_same, But.upd⟩
    rintro σ1 H1 ⟨rfl, hc1, b1⟩
    have big : (y + 31337 * (z + 1) + 17).natAbs < 2 ^ 64 := by
      have : (2 : Nat) ^ 64 = 18446744073709551616 := by decide
      omega
    refine ⟨fun σ' H' => ∃ u, σ' = [some (.ref c), some (.int m), none] ∧ H' c = some (.lst [.int x, .int u, .int (z + 1)]) ∧ But c H H' ∧ 0 ≤ u ∧ u < 2147483629, ?_, ?_⟩
    · refine ⟨_, rfl, c, _, _, _, rfl, rfl, SqL.of hc1, atI_nat (j := 1) rfl, _, rfl, c, _, _, _, rfl, rfl, SqL.of hc1, atI_nat (j := 2) rfl, _, _, rfl, rfl, .inl ⟨by decide, by decide⟩, _, _, rfl, rfl, _, _, rfl, rfl, _, _, rfl, rfl, ⟨by decide, by decide, big⟩, .inl ⟨_, rfl, _, _, rfl, rfl, (by decide : (0 : Int) < 2147483629), _, rfl, c, _, _, _, rfl, rfl, hc1, rfl, ?_⟩⟩
      exact ⟨_, rfl, upd_same, b1.trans But.upd, Int.emod_nonneg _ (by decide), Int.emod_lt_of_pos _ (by decide)⟩
    rintro σ2 H2 ⟨u, rfl, hc2, b2, q0, q1⟩
    refine ⟨_, rfl, c, _, _, _, rfl, rfl, SqL.of hc2, atI_nat (j := 0) rfl, _, _, rfl, rfl, _, rfl, ite2 (fun e => ?_) (fun e => ?_)⟩
    · have e0 : 0 < x := of_decide_eq_true e
      refine ⟨_, rfl, c, _, _, _, rfl, rfl, SqL.of hc2, atI_nat (j := 0) rfl, _, rfl, _, _, rfl, ⟨m0, PyProof.noPylong_of_log2 (PySem.Flt.log2_lt_of (by decide) (Nat.lt_of_lt_of_le ms (Nat.pow_le_pow_right (by decide) (by decide : 200 ≤ 9000))))⟩, fun p hp => ?_⟩
      have ncp : c ≠ p := ne_of_none hc2 hp
      have hc3 : (upd H2 p (HO.tup [V.int (x / m), V.int (x % m)])) c = some (.lst [.int x, .int u, .int (z + 1)]) := by
        rw [upd_ne ncp]
        exact hc2
      refine ⟨p, _, rfl, SqT.of upd_same, rfl, _, _, rfl, _, rfl, c, _, _, _, rfl, rfl, hc3, rfl, _, _, rfl, rfl, _, rfl, ?_⟩
      refine k _ _ ?_ ⟨x / m, u, z + 1, upd_same, Int.ediv_nonneg x0 (by omega), q0, q1, by omega, by omega⟩ (Int.emod_nonneg _ (by omega)) (Int.emod_lt_of_pos _ m0)
      exact (b2.trans (But.of (same_upd hp))).trans But.upd
    · refine ⟨_, rfl, c, _, _, _, rfl, rfl, SqL.of hc2, atI_nat (j := 1) rfl, _, _, rfl, rfl, ⟨by decide, by decide⟩, .inl ⟨_, rfl, _, rfl, _, _, rfl, rfl, m0, ?_⟩⟩
      exact k _ _ b2 ⟨x, u, z + 1, hc2, x0, q0, q1, by omega, by omega⟩ (Int.emod_nonneg _ (by omega)) (Int.emod_lt_of_pos _ m0)
end
end RL

set_option maxHeartbeats 2000000
/-! d.get(k) of a dict of the module's top; an empty dict beside a text; a def that is held as a value. -/
namespace RL
open PySem L2 PySem.Spec PyProof.Rows PySem.SeqAt PySem.MeetsSeq
def tGetK (K : PySem.W.Frag) (w : World) (td ty : TE) : TE := fun σ H Q => td σ H fun x H1 => ∃ d es n, x = .ref d ∧ KDict K w d es n ∧ ty σ H1 fun y H2 => ∃ (z : Str) (r : Option Value) (v : V), y = .str z ∧ PySem.W.nsIn K d z = some r ∧ RelV v (r.getD .none) ∧ Q v H2
section
variable {X : Cx} {o e : Expr} {apos cpos : Pos} {td ty : TE}
end
/-! ### an empty dict beside a text -/
open AutoSeq1 (wpAny_loadPart')
def rNeS (K : PySem.W.Frag) : R2 := fun x y H Q => ∃ z : Str, y = .str z ∧ ((∃ d, Dp K H x d ∧ SeqAt.shaped d = true ∧ SeqAt.shaped (.str z) = true ∧ Q (.bl (!PyData.eqv d (.str z))) H) ∨ ∃ a kvs, x = .ref a ∧ H a = some (.dK kvs) ∧ Q (.bl true) H)
/-! x is True -/
def rIsB : R2 := fun x y H Q => ∃ a b : Bool, x = .bl a ∧ y = .bl b ∧ Q (.bl (decide (a = b))) H
def rNIsB : R2 := fun x y H Q => ∃ a b : Bool, x = .bl a ∧ y = .bl b ∧ Q (.bl (!decide (a = b))) H
end RL

set_option maxHeartbeats 2000000
namespace RL
open PySem L2 PySem.Spec PyProof.Rows
/-! the checks of values, of any data -/
def resOf : PyData → PyData → Bool
  | .int a, .int b => decide (a = 1 ∧ b = 0) || (decide (0 ≤ a) && decide (a ≤ 1000000000000) && (decide (1 ≤ b) && decide (b ≤ 1000000000000)))
  | _, _ => false
def resG : PyData → Bool
  | .int i => decide (0 ≤ i) && decide (i ≤ 1000000000000)
  | .tuple [a, b] => resOf a b
  | _ => false
def spIntG (K : PySem.W.Frag) : Sp := fun vs H Q _ => ∃ (v : V) (d : PyData), vs = [v] ∧ Dq K H v d ∧ Q (.bl (isIntD d)) H
def spWithinG (K : PySem.W.Frag) : Sp := fun vs H Q _ => ∃ (v : V) (d : PyData) (lo hi : Int), vs = [v, .int lo, .int hi] ∧ Dq K H v d ∧ Q (.bl (withinD d lo hi)) H
def spPairG (K : PySem.W.Frag) : Sp := fun vs H Q _ => ∃ (v : V) (d : PyData), vs = [v] ∧ Dq K H v d ∧ Q (.bl (pairD d)) H
def spResG (K : PySem.W.Frag) : Sp := fun vs H Q _ => ∃ (v : V) (d : PyData), vs = [v] ∧ Dq K H v d ∧ Q (.bl (resG d)) H
section
variable {P : Program} {w : World} {K : PySem.W.Frag} {mg : Str → Option Value} {base : Heap} {tG : Tok} {aO : Addr}
end
/-! ### the checker's own -/
structure TxtA (K : PySem.W.Frag) (mg : Str → Option Value) (w : World) (tG t1 t3 tC tK : Tok) (aO aW aCh : Addr) : Prop extends Txt2 K mg tG aO where
  mgOh : mg "MOST_OHMS" = some (.int 12 t1)
  mgJo : mg "MOST_JOINED" = some (.int 8 t3)
  mgCo : mg "MOST_SECTIONS" = some (.int 100 tC)
  mgKi : mg "MOST_KINDS" = some (.int 4 tK)
  mgW : mg "WORDS" = some (.ref aW)
  wds : ∃ (o : Obj) (its : Array Value) (n : Nat), K.lookup aW = some o ∧ o.cls = .type "tuple" ∧ o.data = .seq its n ∧ its.size ≤ sizeLine ∧ Vals [.str (Str.ofString "rail"), .str (Str.ofString "rung")] its.toList
  mgCh : mg "CHECKS" = some (.ref aCh)
  any : mg "any" = none
  list_ : mg "list" = none
  chk : ∃ es n, KDict K w aCh es n
def numOf : PyData → PyData → Bool
  | .int a, .int b => decide (a = 1 ∧ b = 0) || (decide (0 ≤ a) && decide (1 ≤ b))
  | _, _ => false
def numG : PyData → Bool
  | .int i => decide (0 ≤ i)
  | .tuple [a, b] => numOf a b
  | _ => false
def wordB (s : Str) : Bool := decide (s = Str.ofString "rail") || decide (s = Str.ofString "rung")
def pieceOf : PyData → PyData → Bool
  | .str s, o => wordB s && withinD o 1 12
  | _, _ => false
def pieceG : PyData → Bool
  | .tuple [a, b] => pieceOf a b
  | _ => false
def rowG : PyData → Bool
  | .tuple ds => decide (1 ≤ ds.length) && (decide (ds.length ≤ 8) && ds.all pieceG)
  | _ => false
def emptyG : PyData → Bool
  | .tuple [] => true
  | _ => false
def spNumG (K : PySem.W.Frag) : Sp := fun vs H Q _ => ∃ (v : V) (d : PyData), vs = [v] ∧ Dq K H v d ∧ Q (.bl (numG d)) H
def spPieceG (K : PySem.W.Frag) : Sp := fun vs H Q _ => ∃ (v : V) (d : PyData), vs = [v] ∧ Dq K H v d ∧ Q (.bl (pieceG d)) H
def spRowG (K : PySem.W.Frag) : Sp := fun vs H Q _ => ∃ (v : V) (d : PyData), vs = [v] ∧ Dq K H v d ∧ ∀ H', Same H H' → Q (.bl (rowG d)) H'
def spEmptyG (K : PySem.W.Frag) : Sp := fun vs H Q _ => ∃ (v : V) (d : PyData), vs = [v] ∧ Dq K H v d ∧ Q (.bl (emptyG d)) H
def spCntG (K : PySem.W.Frag) : Sp := fun vs H Q _ => ∃ (v : V) (d : PyData), vs = [v] ∧ Dq K H v d ∧ Q (.bl (withinD d 0 100)) H
section
variable {P : Program} {w : World} {K : PySem.W.Frag} {mg : Str → Option Value} {base : Heap} {tG t1 t3 tC tK : Tok} {aO aW aCh : Addr}
end
end RL

/-! When two rows show the same: their four fractions. -/
namespace RL
def fourOf (r : List Pc) : (Int × Int) × (Int × Int) × (Int × Int) × (Int × Int) := (low ((matR r).a, sclR r), low ((matR r).b, sclR r), low ((matR r).c, sclR r), low ((matR r).d, sclR r))
end RL

/-! Limits of ladders: their equations, fixed points. -/
namespace RL
/-! ### a closer bound of a row's map -/
def MxLe (N : Int) (m : Mx) : Prop := 0 ≤ m.a ∧ m.a ≤ N ∧ 0 ≤ m.b ∧ m.b ≤ N ∧ 0 ≤ m.c ∧ m.c ≤ N ∧ 0 ≤ m.d ∧ m.d ≤ N
/-! ### the equation of the limit -/
def eqL (r : List Pc) : Int × Int × Int := if (matR r).b = 0 then (0, 1, 0) else parts (matR r).c ((matR r).d - (matR r).a) (matR r).b
theorem fixed {m : Mx} {t u : Int} (h : m.c * t * t + (m.d - m.a) * t * u = m.b * u * u) : (m.app (t, u)).1 * u = t * (m.app (t, u)).2 := by
  unfold Mx.app
  dsimp only
  grind
def appN (m : Mx) : Nat → Int × Int → Int × Int
  | 0, e => e
  | n + 1, e => m.app (appN m n e)
end RL

set_option maxHeartbeats 2000000
namespace RL
open PySem L2 PySem.Spec PyProof.Rows
/-! ### rows and numbers as data -/
def PairAt (H : Hp) (a : Addr) (e : Int × Int) : Prop := H a = some (.tup [.int e.1, .int e.2])
def pcOf2 : PyData → PyData → Pc
  | .str s, .int n => (decide (s = Str.ofString "rail"), n)
  | _, _ => (true, 1)
def pcOf : PyData → Pc
  | .tuple [a, b] => pcOf2 a b
  | _ => (true, 1)
def rowOf : PyData → List Pc
  | .tuple ds => ds.map pcOf
  | _ => []
def prOf2 : PyData → PyData → Int × Int
  | .int a, .int b => (a, b)
  | _, _ => (0, 1)
def prOf : PyData → Int × Int
  | .int i => (i, 1)
  | .tuple [a, b] => prOf2 a b
  | _ => (0, 1)
def cntOf : PyData → Nat
  | .int i => i.toNat
  | _ => 0
theorem within_of {d : PyData} {lo hi : Int} (h : withinD d lo hi = true) : ∃ i, d = .int i ∧ lo ≤ i ∧ i ≤ hi := by
  cases d with
  | int i =>
    have h : (decide (lo ≤ i) && decide (i ≤ hi)) = true := h
    simp only [Bool.and_eq_true, decide_eq_true_eq] at h
    exact ⟨i, rfl, h.1, h.2⟩
  | _ => exact absurd h (by simp [withinD])
theorem piece_of {d : PyData} (h : pieceG d = true) : ∃ s n, d = .tuple [.str s, .int n] ∧ wd (pcOf d).1 = s ∧ (pcOf d).2 = n ∧ PcOk (pcOf d) := by
  cases d with
  | tuple ds =>
    match ds, h with
    | [a, b], h =>
      have h : pieceOf a b = true := h
      cases a with
      | str s =>
        have h : (wordB s && withinD b 1 12) = true := h
        obtain ⟨h1, h2⟩ := (Bool.and_eq_true _ _).mp h
        obtain ⟨i, rfl, l, u⟩ := within_of h2
        refine ⟨s, i, rfl, ?_, rfl, l, u⟩
        show wd (decide (s = Str.ofString "rail")) = s
        by_cases e : s = Str.ofString "rail"
        · rw [decide_eq_true e, e]
          rfl
        · unfold wordB at h1
          rw [decide_eq_false e, Bool.false_or] at h1
          rw [decide_eq_false e, of_decide_eq_true h1]
          rfl
      | _ => exact absurd h (by simp [pieceOf])
    | [], h => exact absurd h (by simp [pieceG])
    | [_], h => exact absurd h (by simp [pieceG])
    | _ :: _ :: _ :: _, h => exact absurd h (by simp [pieceG])
  | _ => exact absurd h (by simp [pieceG])
theorem row_parts {ds : List PyData} (h : rowG (.tuple ds) = true) : 1 ≤ ds.length ∧ ds.length ≤ 8 ∧ ∀ d ∈ ds, pieceG d = true := by
  have h : (decide (1 ≤ ds.length) && (decide (ds.length ≤ 8) && ds.all pieceG)) = true := h
  simp only [Bool.and_eq_true, decide_eq_true_eq, List.all_eq_true] at h
  exact ⟨h.1, h.2.1, h.2.2⟩
theorem row_tup {d : PyData} (h : rowG d = true) : ∃ ds, d = .tuple ds := by
  cases d with
  | tuple ds => exact ⟨ds, rfl⟩
  | _ => exact absurd h (by simp [rowG])
def RowT (H : Hp) (v : V) (r : List Pc) : Prop := ∃ q ws, v = .ref q ∧ H q = some (.tup ws) ∧ PiecesAt H ws r ∧ RowOk r ∧ 1 ≤ r.length ∧ r.length ≤ 8
theorem RowT.same {H H' : Hp} {v : V} {r : List Pc} (h : RowT H v r) (s : Same H H') : RowT H' v r := by
  obtain ⟨q, ws, e, hq, hw, a⟩ := h
  exact ⟨q, ws, e, s _ _ hq, hw.same s, a⟩
theorem row_at {H : Hp} {v : V} {d : PyData} (h : Dr H v d) (g : rowG d = true) : RowT H v (rowOf d) := by
  obtain ⟨ds, rfl⟩ := row_tup g
  obtain ⟨l1, l8, hp⟩ := row_parts g
  obtain ⟨q, ws, rfl, hq, hw⟩ := h.tuple
  have len : (rowOf (.tuple ds)).length = ds.length := List.length_map ..
  refine ⟨q, ws, rfl, hq, ⟨by rw [len, hw.1], fun i p hpi => ?_⟩, fun p hp' => ?_, by omega, by omega⟩
  · obtain ⟨d, hd, rfl⟩ : ∃ d, ds[i]? = some d ∧ pcOf d = p := by
      have hpi : (ds.map pcOf)[i]? = some p := hpi
      rw [List.getElem?_map] at hpi
      cases e : ds[i]? with
      | none =>
        rw [e] at hpi
        cases hpi
      | some d =>
        rw [e] at hpi
        exact ⟨d, rfl, Option.some.inj hpi⟩
    obtain ⟨v, hv, hd'⟩ := hw.at_ hd
    obtain ⟨s, n, rfl, e1, e2, _⟩ := piece_of (hp d (List.mem_of_getElem? hd))
    obtain ⟨t, ys, rfl, ht, hy⟩ := hd'.tuple
    refine ⟨_, hv, t, rfl, ?_⟩
    match ys, hy with
    | [a, b], hy =>
      have h1 := hy.inv.1.toStr
      have h2 := hy.inv.2.inv.1.toInt
      rw [ht, h1, h2, e1, e2]
    | [], hy => exact absurd hy.1 (by simp)
    | [_], hy => exact absurd hy.1 (by simp)
    | _ :: _ :: _ :: _, hy => exact absurd hy.1 (by simp)
  · obtain ⟨d, hd, rfl⟩ := List.mem_map.mp hp'
    obtain ⟨_, _, _, _, _, ok⟩ := piece_of (hp d hd)
    exact ok
def SmD (n : Nat) (d : PyData) : Prop := Sm n (prOf d).1 ∧ Sm n (prOf d).2
def spPairN : Sp := fun vs H Q _ => ∃ (v : V) (d : PyData), vs = [v] ∧ Dr H v d ∧ numG d = true ∧ ∀ H' p, Same H H' → PairAt H' p (prOf d) → Q (.ref p) H'
def spMatOf : Sp := fun vs H Q _ => ∃ (v : V) (r : List Pc), vs = [v] ∧ RowT H v r ∧ ∀ H' m, Same H H' → H' m = some (.tup (MatT (matR r))) → Q (.ref m) H'
def spLS : Sp := fun vs H Q _ => ∃ (m : Addr) (r : List Pc) (v : V) (d : PyData) (n : Int), vs = [.ref m, v, .int n] ∧ H m = some (.tup (MatT (matR r))) ∧ RowOk r ∧ r.length ≤ 8 ∧ Dr H v d ∧ resG d = true ∧ 0 ≤ n ∧ n ≤ 100 ∧
  ∀ H' p, Same H H' → PairAt H' p (appN (matR r) n.toNat (prOf d)) → Q (.ref p) H'
def spSign : Sp := fun vs H Q _ => ∃ n : Int, vs = [.int n] ∧ Q (.int (sg n)) H
def spPO : Sp := fun vs H Q _ => ∃ (a b : Addr) (e f : Int × Int), vs = [.ref a, .ref b] ∧ PairAt H a e ∧ PairAt H b f ∧ Sm 4000 e.1 ∧ Sm 4000 e.2 ∧ Sm 4000 f.1 ∧ Sm 4000 f.2 ∧ Q (.int (sg (e.1 * f.2 - f.1 * e.2))) H
def valE (r l n x : PyData) : Bool := decide (sg ((appN (matR (rowOf r)) (cntOf n) (prOf l)).1 * (prOf x).2 - (prOf x).1 * (appN (matR (rowOf r)) (cntOf n) (prOf l)).2) = 0)
def valP : List PyData → PyData → Bool
  | [r, l, n, x], e => emptyG e && (rowG r && (resG l && (withinD n 0 100 && (numG x && valE r l n x))))
  | _, _ => false
def spCkV : Sp := fun vs H Q _ => ∃ (t : Addr) (ys : List V) (ds : List PyData) (u : V) (e : PyData), vs = [.ref t, u] ∧ H t = some (.tup ys) ∧ Drs H ys ds ∧ (∀ d ∈ ds, Nd d ∧ SmD 3990 d) ∧ Dr H u e ∧ Nd e ∧ ∀ H', Same H H' → Q (.bl (valP ds e)) H'
def spCkN (n : Nat) : Sp := fun vs H Q _ => ∃ (t : Addr) (ys : List V) (u : V), vs = [.ref t, u] ∧ H t = some (.tup ys) ∧ ys.length ≠ n ∧ Q (.bl false) H
def spCkN3 (n : Nat) : Sp := fun vs H Q _ => ∃ (t : Addr) (ys : List V) (u g : V), vs = [.ref t, u, g] ∧ H t = some (.tup ys) ∧ ys.length ≠ n ∧ Q (.bl false) H
section
variable {P : Program} {w : World} {K : PySem.W.Frag} {mg : Str → Option Value} {base : Heap} {tG t1 t3 tC tK : Tok} {aO aW aCh : Addr}
abbrev s_sign : Stmt := top 20
abbrev s_pair_order : Stmt := top 18
end
end RL

set_option maxHeartbeats 2000000
namespace RL
open PySem L2 PySem.Spec PyProof.Rows
def spAcc (K : PySem.W.Frag) (aCh : Addr) (S : Addr → Option Sp) : Sp := fun vs H Q _ => ∃ (v u : V) (d : PyData), vs = [v, u] ∧ Dr H v d ∧
  (∀ s r, d = .tuple (.str s :: r) → (PySem.W.nsIn K aCh s = some none ∧ Q (.bl false) H) ∨ ∃ f sp, PySem.W.nsIn K aCh s = some (some (.ref f)) ∧ S f = some sp ∧ ∀ H' t ys, Same H H' → H' t = some (.tup ys) → Drs H' ys r → sp [.ref t, u] H' Q (fun _ _ _ => False)) ∧
  ((¬ ∃ s r, d = .tuple (.str s :: r)) → Q (.bl false) H)
section
variable {P : Program} {w : World} {K : PySem.W.Frag} {mg : Str → Option Value} {base : Heap} {tG t1 t3 tC tK : Tok} {aO aW aCh : Addr}
end
end RL

set_option maxHeartbeats 2000000
namespace RL
open PySem L2 PySem.Spec PyProof.Rows
/-! ### written data -/
def fresh (H H' : Hp) : Hp := fun b => match H b with
  | none => H' b
  | some _ => none
theorem fresh_get {H H' : Hp} {b : Addr} {o : HO} (h : fresh H H' b = some o) : H b = none ∧ H' b = some o := by
  unfold fresh at h
  cases e : H b with
  | none =>
    rw [e] at h
    exact ⟨rfl, h⟩
  | some u =>
    rw [e] at h
    cases h
theorem fresh_of {H H' : Hp} {b : Addr} {o : HO} (n : H b = none) (h : H' b = some o) : fresh H H' b = some o := by
  unfold fresh
  rw [n]
  exact h
def Dn (H H' : Hp) (v : V) (d : PyData) : Prop := Dr (fresh H H') v d
def Dns (H H' : Hp) (v : List V) (d : List PyData) : Prop := Drs (fresh H H') v d
theorem fresh_up {H H1 H2 : Hp} (s : Same H1 H2) : Same (fresh H H1) (fresh H H2) := fun b o e => by
  obtain ⟨n, h⟩ := fresh_get e
  exact fresh_of n (s _ _ h)
theorem fresh_dn {H H1 H2 : Hp} (s : Same H H1) : Same (fresh H1 H2) (fresh H H2) := fun b o e => by
  obtain ⟨n, h⟩ := fresh_get e
  refine fresh_of ?_ h
  cases q : H b with
  | none => rfl
  | some u =>
    rw [s _ _ q] at n
    cases n
theorem fresh_hid {c : Addr} {H H' : Hp} {x : HO} (n : H c = some x) : Same (fresh H H') (hid c H') := fun b o e => by
  obtain ⟨m, h⟩ := fresh_get e
  refine hid_of h ?_
  rintro rfl
  rw [n] at m
  cases m
theorem Dn.dh {c : Addr} {H H' : Hp} {v : V} {d : PyData} {x : HO} (h : Dn H H' v d) (n : H c = some x) : Dh c H' v d := Dr.mono h (fresh_hid n)
theorem Dn.tape {c : Addr} {k : Nat} {H H' : Hp} {v : V} {d : PyData} (h : Dn H H' v d) (t : TapeAt c k H) : Dh c H' v d := by
  obtain ⟨_, _, _, e, _⟩ := t
  exact h.dh e
theorem Dns.tape {c : Addr} {k : Nat} {H H' : Hp} {v : List V} {d : List PyData} (h : Dns H H' v d) (t : TapeAt c k H) : Dhs c H' v d := by
  obtain ⟨_, _, _, e, _⟩ := t
  exact Drs.mono h (fresh_hid e)
theorem Dn.dr {H H' : Hp} {v : V} {d : PyData} (h : Dn H H' v d) : Dr H' v d := Dr.mono h fun b o e => (fresh_get e).2
def tData (d : PyData) : TE := fun _ H Q => ∀ H' v, Same H H' → Dn H H' v d → Q v H'
def tDatas (ds : List PyData) : TA := fun _ H Q => ∀ H' vs, Same H H' → Dns H H' vs ds → Q vs H'
section
variable {X : Cx} {e : Expr} {es : List Expr} {t t' : TE} {ta ta' : TA} {d : PyData} {ds : List PyData} {pos : Pos}
theorem pe_weak (h : PE X e t') (w : ∀ σ H Q, t σ H Q → t' σ H Q) : PE X e t := ⟨fun pins s σ H Q I q => h.run pins s σ H Q I (w _ _ _ q)⟩
theorem pa_weak (h : PA X es ta') (w : ∀ σ H Q, ta σ H Q → ta' σ H Q) : PA X es ta := ⟨fun p pins s σ H Q I q => h.run p pins s σ H Q I (w _ _ _ q)⟩
theorem pd_int {i : Int} {j p} : PE X (.Constant (.int i) j p) (tData (.int i)) := pe_weak pe_int fun _ H Q q => q H _ (Same.refl _) (.int _)
theorem pd_bl {b : Bool} {j p} : PE X (.Constant (.bool b) j p) (tData (.bool b)) := pe_weak pe_bl fun _ H Q q => q H _ (Same.refl _) (.bl _)
theorem pd_non {j p} : PE X (.Constant .none j p) (tData .none) := pe_weak pe_non fun _ H Q q => q H _ (Same.refl _) .non
theorem pd_str {x : Str} {j p} : PE X (.Constant (.str x) j p) (tData (.str x)) := pe_weak pe_str fun _ H Q q => q H _ (Same.refl _) (.str _)
theorem pd_dict : PE X (.Dict [] [] pos) (tData (.dict [])) := pe_weak pe_dnewK fun _ H Q q p np => q _ _ (same_upd np) (.dk (kvs := []) (fresh_of np upd_same))
theorem pd_dict1 {x : Str} {i : Int} {j j' p p'} {pos : Pos} : PE X (.Dict [some (.Constant (.str x) j p)] [.Constant (.int i) j' p'] pos) (tData (.dict [(.str x, .int i)])) :=
  pe_weak (pe_disp (pps_cons pe_str pe_int pps_nil) rfl rfl (by simp) (by simp)) fun _ H Q q d nd => ⟨upd_same, [(.inr x, .int i)], rfl, by show 1 ≤ 15; decide, q _ _ (fun b o e => by rw [upd_ne (ne_of_none e nd), upd_ne (ne_of_none e nd)]; exact e) (.dk (kvs := [(.inr x, i)]) (fresh_of nd upd_same))⟩
theorem pds_nil : PA X [] (tDatas []) := pa_weak pa_nil fun _ H Q q => q H [] (Same.refl _) Drs.nil
theorem pds_cons (ha : PE X e (tData d)) (hr : PA X es (tDatas ds)) (hs : starEach (e :: es) X.env = (false, eval e X.env) :: starEach es X.env := by rfl) : PA X (e :: es) (tDatas (d :: ds)) :=
  pa_weak (pa_cons ha hr hs) fun _ H Q q H1 v s1 h1 H2 vs s2 h2 => q H2 (v :: vs) (s1.trans s2) (Drs.cons (Dr.mono h1 (fresh_up s2)) (Drs.mono h2 (fresh_dn s1)))
theorem pd_tup {x1} (h : PA X es (tDatas ds)) (l : ds.length ≤ 1000 := by decide) : PE X (.Tuple es x1 pos) (tData (.tuple ds)) :=
  pe_weak (pe_tup h) fun _ H Q q H1 vs s1 h1 => ⟨by rw [h1.1]; exact Nat.le_trans l (by decide), fun p np => q _ _ (s1.trans (same_upd np)) (Dr.ts (fresh_of (s1.free np) upd_same) (Drs.mono h1 (fresh_up (same_upd np))))⟩
theorem pd_lst (h : PA X es (tDatas ds)) (l : ds.length ≤ 1000 := by decide) : PE X (.List es pos) (tData (.list ds)) :=
  pe_weak (pe_lst h) fun _ H Q q H1 vs s1 h1 => ⟨by rw [h1.1]; exact Nat.le_trans l (by decide), fun p np => q _ _ (s1.trans (same_upd np)) (Dr.ls (fresh_of (s1.free np) upd_same) (Drs.mono h1 (fresh_up (same_upd np))))⟩
theorem pd_neg {i : Int} (h : PE X e (tData (.int i))) : PE X (.UnaryOp .USub e pos) (tData (.int (-i))) :=
  pe_weak (pe_un un_neg h) fun _ H Q q H1 v s1 h1 => ⟨i, h1.toInt, q H1 _ s1 (.int _)⟩
theorem pd_pow {f : Expr} {a b : Int} (h : PE X e (tData (.int a))) (h' : PE X f (tData (.int b))) (o : 0 ≤ b ∧ b ≤ 1000000 ∧ a.natAbs < 2 ^ 64 := by decide) : PE X (.BinOp e .Pow f pos) (tData (.int (a ^ b.toNat))) :=
  pe_weak (pe_op op_pow h h') fun _ H Q q H1 v s1 h1 H2 u s2 h2 => ⟨a, b, h1.toInt, h2.toInt, o, q H2 _ (s1.trans s2) (.int _)⟩
end
/-! tuples put together and cut, told at once -/
def rCatB : R2 := fun x y H Q => ∃ a b xs ys, x = .ref a ∧ y = .ref b ∧ H a = some (.tup xs) ∧ H b = some (.tup ys) ∧ xs.length + ys.length ≤ 1000 ∧ ∀ H' r, Same H H' → H' r = some (.tup (xs ++ ys)) → Q (.ref r) H'
def rSlB : V → Option Int → Option Int → Hp → VK → Prop := fun x lo hi H Q => ∃ a xs, x = .ref a ∧ H a = some (.tup xs) ∧ ∀ H' r, Same H H' → H' r = some (.tup (cutV xs lo hi)) → Q (.ref r) H'
end RL

set_option maxHeartbeats 2000000
namespace RL
open PySem L2 PySem.Spec PyProof.Rows
def spLed : Sp := fun vs H Q _ => ∃ (v : V) (t : Addr) (r : List Pc) (e : Int × Int), vs = [v, .ref t] ∧ RowT H v r ∧ PairAt H t e ∧ Sm 3900 e.1 ∧ Sm 3900 e.2 ∧ ∀ H' p, Same H H' → H p = none → PairAt H' p (actR r e) → Q (.ref p) H'
def spAfter : Sp := fun vs H Q _ => ∃ (v : V) (t : Addr) (r : List Pc) (e : Int × Int) (n : Int), vs = [v, .ref t, .int n] ∧ RowT H v r ∧ PairAt H t e ∧ Pos2 e ∧ Sm 700 e.1 ∧ Sm 700 e.2 ∧ 0 ≤ n ∧ n ≤ 100 ∧ ∀ H' p, Same H H' → H p = none → PairAt H' p (low (appN (matR r) n.toNat e)) → Q (.ref p) H'
def spFrac : Sp := fun vs H Q _ => ∃ (v : V) (d : PyData), vs = [v] ∧ Dr H v d ∧ numG d = true ∧ SmD 4000 d ∧ ∀ H' p, Same H H' → H p = none → PairAt H' p (low (prOf d)) → Q (.ref p) H'
def spIsLoad : Sp := fun vs H Q _ => ∃ (v : V) (d : PyData), vs = [v] ∧ Dr H v d ∧ Nd d ∧ ∀ H', Same H H' → Q (.bl (resG d)) H'
def spIsNum : Sp := fun vs H Q _ => ∃ (v : V) (d : PyData), vs = [v] ∧ Dr H v d ∧ Nd d ∧ ∀ H', Same H H' → Q (.bl (numG d)) H'
def spIsRow : Sp := fun vs H Q _ => ∃ (v : V) (d : PyData), vs = [v] ∧ Dr H v d ∧ Nd d ∧ ∀ H', Same H H' → Q (.bl (rowG d)) H'
def spWhole : Sp := fun vs H Q _ => ∃ (v : V) (d : PyData) (lo hi : Int), vs = [v, .int lo, .int hi] ∧ Dr H v d ∧ Q (.bl (withinD d lo hi)) H
section
variable {P : Program} {w : World} {K : PySem.W.Frag} {mg : Str → Option Value} {base : Heap} {tG t1 t3 tC tK : Tok} {aO aW aCh : Addr}
end
end RL

set_option maxHeartbeats 2000000
namespace RL
open PySem L2 PySem.Spec PyProof.Rows
def bothOf : PyData → List PyData
  | .tuple ds => ds
  | d => [d, .int 1]
def resQ : PyData → PyData → Bool
  | .int a, .int b => (decide (0 ≤ a) && decide (a ≤ 1000000000000) && (decide (1 ≤ b) && decide (b ≤ 1000000000000))) || decide (a = 1 ∧ b = 0)
  | _, _ => false
def numQ : PyData → PyData → Bool
  | .int a, .int b => (decide (0 ≤ a) && decide (0 < b)) || decide (a = 1 ∧ b = 0)
  | _, _ => false
def resP2 : List PyData → Bool
  | [a, b] => resQ a b
  | _ => false
def numP2 : List PyData → Bool
  | [a, b] => numQ a b
  | _ => false
def someOdd (ds : List PyData) : Bool := ds.any fun d => !isIntD d
section
variable {P : Program} {w : World} {K : PySem.W.Frag} {mg : Str → Option Value} {base : Heap} {tG t1 t3 tC tK : Tok} {aO aW aCh : Addr}
end
end RL

set_option maxHeartbeats 4000000
namespace RL
open PySem L2 PySem.Spec PyProof.Rows
/-! ### what claims are made of -/
def lenB : PyData → Bool
  | .tuple ds => decide (ds.length ≤ 100)
  | _ => true
def PlOk (d : PyData) : Prop := Nd d ∧ SmD 3900 d ∧ lenB d = true
def HeadOk (d : PyData) : Prop := (d.hasDict = false ∧ SeqAt.shaped d = true) ∨ d = .dict []
def isNilD : PyData → Bool
  | .dict [] => true
  | _ => false
def pcD (p : Pc) : PyData := .tuple [.str (wd p.1), .int p.2]
theorem pcD_ok {p : Pc} (h : PcOk p) : pieceG (pcD p) = true := by
  show (wordB (wd p.1) && (decide (1 ≤ p.2) && decide (p.2 ≤ 12))) = true
  rw [decide_eq_true h.1, decide_eq_true h.2]
  cases p.1 <;> decide +kernel
theorem rowD_ok {r : List Pc} (h : RowOk r) (l1 : 1 ≤ r.length) (l8 : r.length ≤ 8) : rowG (.tuple (r.map pcD)) = true := by
  show (decide (1 ≤ (r.map pcD).length) && (decide ((r.map pcD).length ≤ 8) && (r.map pcD).all pieceG)) = true
  rw [List.length_map, decide_eq_true l1, decide_eq_true l8, List.all_map]
  simp only [Bool.true_and, List.all_eq_true]
  exact fun p hp => pcD_ok (h p hp)
theorem dh_of_piece {c : Addr} {n : Nat} {H : Hp} {v : V} {p : Pc} (t : TapeAt c n H) (h : PieceAt H v p) : Dh c H v (pcD p) := by
  obtain ⟨a, rfl, ha⟩ := h
  exact Dr.ts (hid_of ha (t.nt ha)) (.cons (.str _) (.cons (.int _) .nil))
theorem dhs_of_pieces {c : Addr} {n : Nat} {H : Hp} {vs : List V} {r : List Pc} (t : TapeAt c n H) (h : PiecesAt H vs r) : Dhs c H vs (r.map pcD) := by
  refine ⟨by rw [List.length_map, h.1], fun i v d hv hd => ?_⟩
  obtain ⟨p, hp, q⟩ := h.at_ hv
  rw [List.getElem?_map, hp] at hd
  cases hd
  exact dh_of_piece t q
def spAnyRow : Sp := fun vs H Q _ => ∃ (c : Addr) (n : Nat) (L : Int), vs = [.ref c, .int L] ∧ TapeAt c n H ∧ n + 17 ≤ 1000000 ∧ 1 ≤ L ∧ L ≤ 8 ∧ ∀ H' v d, But c H H' → TapeAt c (n + 17) H' → Dh c H' v d → rowG d = true → Q v H'
def spAnyLoad : Sp := fun vs H Q _ => ∃ (c : Addr) (n : Nat), vs = [.ref c] ∧ TapeAt c n H ∧ n + 4 ≤ 1000000 ∧ ∀ H' v d, But c H H' → TapeAt c (n + 4) H' → Dh c H' v d → resG d = true → Q v H'
theorem sm_p {n : Nat} {x : Int} (h : x.natAbs ≤ 10 ^ 13) (l : 44 ≤ n) : Sm n x := by
  refine Sm.mono (m := 44) ?_ l
  have : (2 : Nat) ^ 44 = 17592186044416 := by decide
  unfold Sm
  omega
section
variable {P : Program} {w : World} {K : PySem.W.Frag} {mg : Str → Option Value} {base : Heap} {tG t1 t3 tC tK : Tok} {aO aW aCh : Addr}
theorem sc_law_anyrow : FnScope ["_law_tape", "_law_longest", "_law_many", "_law_turn"] ["_law_tape", "_law_longest"] (defScope s_law_anyrow) := ⟨rfl, rfl, rfl, by decide +kernel, rfl, by decide +kernel, by decide +kernel⟩

theorem ok_anyrow {f : Addr} {fd : FuncData} (F : Fun K "_law_anyrow" "_law_anyrow" s_law_anyrow f fd) (T : Txt K mg) (D_law_pick : Df P w K mg base 1 "_law_pick" ["_law_tape", "_law_many"] spDraw) : FnOk P w K mg base CX0 2 f fd ["_law_tape", "_law_longest"] spAnyRow := by
  refine F.ok sc_law_anyrow (fun vs H Q E h => ?_) (fun cdv A outer s H vs Q E hr h => ?_)
  · obtain ⟨c, n, L, rfl, _⟩ := h
    rfl
  · obtain ⟨c, n, L, rfl, ht, hn, L1, L8, k⟩ := h
    refine ⟨_, (pss_cons (ps_set (i := 2) sc_law_anyrow.nd rfl (.inl rfl) (pe_op op_add pe_int (pe_df D_law_pick (hr.mono (by decide)) (by rfl) (pa_cons (pv 0) (pa_cons (pv 1) pa_nil)))))
      (pss_one (ps_ret (pe_callTy call_tuple_of (by rfl) T.tuple_ (by decide +kernel) (pa_cons (pe_lc (own := [("_law_turn", 3)]) (g := gName 3) (tt := tYes) rfl sc_law_anyrow.nd (pi_range1 rfl T.range (pa_cons (pv 2) pa_nil)) (blkOk_by (N := ["_law_tape", "_law_longest", "_law_many", "_law_turn"]) (sc := defScope s_law_anyrow) (by decide +kernel)) (fun _ _ _ _ _ => pg_name (i := 3) sc_law_anyrow.nd rfl (Or.inl rfl)) (fun _ _ _ _ _ => pts_nil) (fun _ _ _ _ _ => (pe_tup (pa_cons (pe_ix (ix_listK (K := K)) (pe_lst (pa_cons pe_str (pa_cons pe_str pa_nil))) (pe_df D_law_pick (hr.mono (by decide)) (by rfl) (pa_cons (pv 0) (pa_cons pe_int pa_nil))) (fun _ _ => rfl)) (pa_cons (pe_op op_add pe_int (pe_df D_law_pick (hr.mono (by decide)) (by rfl) (pa_cons (pv 0) (pa_cons pe_int pa_nil)))) pa_nil))))) pa_nil))))), ?_⟩
    refine ⟨_, rfl, _, rfl, c, n, L, rfl, ht, by omega, by omega, sm_p (by omega) (by decide), fun H1 r b1 t1 r0 r1 => ?_⟩
    refine ⟨_, _, rfl, rfl, ?_⟩
    have hm : 1 + r ≤ 8 := by omega
    refine ⟨_, rfl, _, rfl, by omega, by omega, fun D hD => ?_⟩
    have nDc : D ≠ c := (t1.ne hD).symm
    refine lc_range (lo := 0) (n := (1 + r).toNat) (fun i H' => But c H1 H' ∧ TapeAt c (n + 1 + 2 * i) H' ∧ ∃ vs ps, H' D = some (.lst vs) ∧ PiecesAt H' vs ps ∧ RowOk ps ∧ ps.length = i) ⟨.of (same_upd hD), t1.same (same_upd hD), [], [], upd_same, ⟨rfl, fun i p h => by simp at h⟩, (fun p hp => by cases hp), rfl⟩ ?_ ?_
    · rintro i H' hi ⟨bD, tD, vs, ps, hDv, hps, hok, rfl⟩
      refine ⟨rfl, ?_⟩
      unfold tYes
      refine iteT ?_
      refine ⟨(by show 2 ≤ sizeLine; decide), fun l nl => ?_⟩
      have sl := same_upd (o := .lst [.str (Str.ofString "rail"), .str (Str.ofString "rung")]) nl
      refine ⟨_, rfl, c, _, 2, rfl, tD.same sl, by omega, by decide, sm_p (by decide) (by decide), fun H2 x b2 t2 x0 x1 => ?_⟩
      have nlc : l ≠ c := (tD.ne nl).symm
      have hl2 := b2 _ _ nlc upd_same
      obtain ⟨wv, hwv⟩ : ∃ b : Bool, ([.str (Str.ofString "rail"), .str (Str.ofString "rung")] : List V)[x.toNat]? = some (.str (wd b)) := by
        have : x = 0 ∨ x = 1 := by omega
        rcases this with rfl | rfl
        · exact ⟨true, rfl⟩
        · exact ⟨false, rfl⟩
      have ex : x = (x.toNat : Int) := (Int.toNat_of_nonneg x0).symm
      rw [ex]
      refine ⟨l, _, _, _, rfl, rfl, SqL.of hl2, atI_nat (j := x.toNat) hwv, ?_⟩
      refine ⟨_, rfl, c, _, 12, rfl, t2, by omega, by decide, sm_p (by decide) (by decide), fun H3 y b3 t3 y0 y1 => ?_⟩
      refine ⟨_, _, rfl, rfl, (by show 2 ≤ sizeLine; decide), fun p np => ?_⟩
      have sp := same_upd (o := .tup [.str (wd wv), .int (1 + y)]) np
      have bA : But c H' (upd H3 p (.tup [.str (wd wv), .int (1 + y)])) := ((But.of sl).trans (b2.trans b3)).trans (.of sp)
      have hD3 := bA _ _ nDc hDv
      have pz : PcOk (wv, 1 + y) := ⟨by dsimp; omega, by dsimp; omega⟩
      refine ⟨vs, hD3, ?_, ?_, ?_, vs ++ [.ref p], ps ++ [(wv, 1 + y)], upd_same, ?_, hok.app (fun q hq => by rw [List.mem_singleton.mp hq]; exact pz), by simp⟩
      · rw [hps.1]
        exact small1000 (by omega)
      · intro b o nb e
        rw [upd_ne (ne_of_none e hD)]
        exact bA _ _ nb (bD _ _ nb e)
      · have t4 := t3.same sp
        obtain ⟨u1, u2, u3, hc, rest⟩ := t4
        refine TapeAt.le (n := n + 1 + 2 * ps.length + 1 + 1) ⟨u1, u2, u3, ?_, rest⟩ (by omega)
        rw [upd_ne nDc.symm]
        exact hc
      · have h1 := (hps.but bA tD.notup)
        have nD : ∀ xs, (upd H3 p (.tup [.str (wd wv), .int (1 + y)])) D ≠ some (.tup xs) := fun xs z => by rw [hD3] at z; cases z
        have h2 := h1.but (x := D) (H' := upd (upd H3 p (.tup [.str (wd wv), .int (1 + y)])) D (.lst (vs ++ [.ref p]))) But.upd nD
        have hD30 := ((But.of sl).trans (b2.trans b3)) _ _ nDc hDv
        have npD : p ≠ D := (ne_of_none hD30 np).symm
        have one : PieceAt (upd (upd H3 p (.tup [.str (wd wv), .int (1 + y)])) D (.lst (vs ++ [.ref p]))) (.ref p) (wv, 1 + y) := ⟨p, rfl, by rw [upd_ne npD]; exact upd_same⟩
        refine ⟨by rw [List.length_append, List.length_append, h2.1]; rfl, fun j q hq => ?_⟩
        by_cases hj : j < ps.length
        · rw [List.getElem?_append_left hj] at hq
          obtain ⟨v, hv, hv'⟩ := h2.2 j q hq
          exact ⟨v, by rw [List.getElem?_append_left (by rw [h2.1]; exact hj)]; exact hv, hv'⟩
        · rw [List.getElem?_append_right (by omega)] at hq
          have hj0 : j - ps.length = 0 := by
            have := (List.getElem?_eq_some_iff.mp hq).1
            simp at this
            omega
          rw [hj0] at hq
          cases hq
          exact ⟨_, by rw [List.getElem?_append_right (by rw [h2.1]; omega), h2.1, hj0]; rfl, one⟩
    · rintro H' ⟨bD, tD, vs, ps, hDv, hps, hok, hlen⟩
      refine ⟨D, _, rfl, .inl ⟨SqL.of hDv, fun q nq => ?_⟩⟩
      have sq := same_upd (o := .tup vs) nq
      have tq := tD.same sq
      exact k _ (.ref q) (.tuple (ps.map pcD)) ((b1.trans bD).trans (.of sq)) (tq.le (by omega)) (Dh.new tD nq (dhs_of_pieces tD hps)) (rowD_ok hok (by omega) (by omega))
end
end RL

set_option maxHeartbeats 4000000
namespace RL
open PySem L2 PySem.Spec PyProof.Rows
theorem all_at {p : PyData → Bool} {ds : List PyData} {i : Nat} {d : PyData} (h : ds.all p = true) (e : ds[i]? = some d) : p d = true := by
  rw [List.all_eq_true] at h
  exact h d (List.mem_of_getElem? e)
section
variable {P : Program} {w : World} {K : PySem.W.Frag} {mg : Str → Option Value} {base : Heap} {tG t1 t3 tC tK : Tok} {aO aW aCh : Addr}
end
end RL

set_option maxHeartbeats 4000000
namespace RL
open PySem L2 PySem.Spec PyProof.Rows
def lnD : PyData → Nat
  | .tuple ds => ds.length
  | _ => 0
def spAnyRowL : Sp := fun vs H Q _ => ∃ (c : Addr) (n : Nat) (L : Int), vs = [.ref c, .int L] ∧ TapeAt c n H ∧ n + 17 ≤ 1000000 ∧ 1 ≤ L ∧ L ≤ 8 ∧ ∀ H' v d, But c H H' → TapeAt c (n + 17) H' → Dh c H' v d → rowG d = true → (lnD d : Int) ≤ L → Q v H'
def EndV (v : V) : Prop := v = .non ∨ ∃ e : Int, v = .int e ∧ 0 ≤ e ∧ e ≤ 12
def spEven : Sp := fun vs H Q _ => ∃ (c : Addr) (n : Nat), vs = [.ref c] ∧ TapeAt c n H ∧ n + 2 ≤ 1000000 ∧
  ∀ H' p v d ev, But c H H' → TapeAt c (n + 2) H' → H' p = some (.tup [v, ev]) → Dh c H' v d → rowG d = true → lnD d ≤ 2 → EndV ev → Q (.ref p) H'
def spSomeRow : Sp := fun vs H Q _ => ∃ (c : Addr) (n : Nat) (L : Int), vs = [.ref c, .int L] ∧ TapeAt c n H ∧ n + 20 ≤ 1000000 ∧ 2 ≤ L ∧ L ≤ 8 ∧
  ∀ H' p v d ev, But c H H' → TapeAt c (n + 20) H' → H' p = some (.tup [v, ev]) → Dh c H' v d → rowG d = true → (lnD d : Int) ≤ L → EndV ev → Q (.ref p) H'
def spNear : Sp := fun vs H Q _ => ∃ (c : Addr) (n : Nat) (v : V) (d : PyData), vs = [.ref c, v] ∧ TapeAt c n H ∧ n + 40 ≤ 1000000 ∧ Dh c H v d ∧ rowG d = true ∧ lnD d ≤ 5 ∧
  ∀ H' v' d', But c H H' → TapeAt c (n + 40) H' → Dh c H' v' d' → rowG d' = true → Q v' H'
def spCross : Sp := fun vs H Q _ => ∃ (c : Addr) (n : Nat), vs = [.ref c] ∧ TapeAt c n H ∧ n + 3 ≤ 1000000 ∧
  ∀ H' p v u d e, But c H H' → TapeAt c (n + 3) H' → H' p = some (.tup [v, u]) → Dh c H' v d → rowG d = true → Dh c H' u e → rowG e = true → Q (.ref p) H'
section
variable {P : Program} {w : World} {K : PySem.W.Frag} {mg : Str → Option Value} {base : Heap} {tG t1 t3 tC tK : Tok} {aO aW aCh : Addr}
theorem ok_anyrowL {f : Addr} {fd : FuncData} (F : Fun K "_law_anyrow" "_law_anyrow" s_law_anyrow f fd) (T : Txt K mg) (D_law_pick : Df P w K mg base 1 "_law_pick" ["_law_tape", "_law_many"] spDraw) : FnOk P w K mg base CX0 2 f fd ["_law_tape", "_law_longest"] spAnyRowL := by
  refine F.ok sc_law_anyrow (fun vs H Q E h => ?_) (fun cdv A outer s H vs Q E hr h => ?_)
  · obtain ⟨c, n, L, rfl, _⟩ := h
    rfl
  · obtain ⟨c, n, L, rfl, ht, hn, L1, L8, k⟩ := h
    refine ⟨_, (pss_cons (ps_set (i := 2) sc_law_anyrow.nd rfl (.inl rfl) (pe_op op_add pe_int (pe_df D_law_pick (hr.mono (by decide)) (by rfl) (pa_cons (pv 0) (pa_cons (pv 1) pa_nil)))))
      (pss_one (ps_ret (pe_callTy call_tuple_of (by rfl) T.tuple_ (by decide +kernel) (pa_cons (pe_lc (own := [("_law_turn", 3)]) (g := gName 3) (tt := tYes) rfl sc_law_anyrow.nd (pi_range1 rfl T.range (pa_cons (pv 2) pa_nil)) (blkOk_by (N := ["_law_tape", "_law_longest", "_law_many", "_law_turn"]) (sc := defScope s_law_anyrow) (by decide +kernel)) (fun _ _ _ _ _ => pg_name (i := 3) sc_law_anyrow.nd rfl (Or.inl rfl)) (fun _ _ _ _ _ => pts_nil) (fun _ _ _ _ _ => (pe_tup (pa_cons (pe_ix (ix_listK (K := K)) (pe_lst (pa_cons pe_str (pa_cons pe_str pa_nil))) (pe_df D_law_pick (hr.mono (by decide)) (by rfl) (pa_cons (pv 0) (pa_cons pe_int pa_nil))) (fun _ _ => rfl)) (pa_cons (pe_op op_add pe_int (pe_df D_law_pick (hr.mono (by decide)) (by rfl) (pa_cons (pv 0) (pa_cons pe_int pa_nil)))) pa_nil))))) pa_nil))))), ?_⟩
    refine ⟨_, rfl, _, rfl, c, n, L, rfl, ht, by omega, by omega, sm_p (by omega) (by decide), fun H1 r b1 t1 r0 r1 => ?_⟩
    refine ⟨_, _, rfl, rfl, ?_⟩
    have hm : 1 + r ≤ 8 := by omega
    refine ⟨_, rfl, _, rfl, by omega, by omega, fun D hD => ?_⟩
    have nDc : D ≠ c := (t1.ne hD).symm
    refine lc_range (lo := 0) (n := (1 + r).toNat) (fun i H' => But c H1 H' ∧ TapeAt c (n + 1 + 2 * i) H' ∧ ∃ vs ps, H' D = some (.lst vs) ∧ PiecesAt H' vs ps ∧ RowOk ps ∧ ps.length = i) ⟨.of (same_upd hD), t1.same (same_upd hD), [], [], upd_same, ⟨rfl, fun i p h => by simp at h⟩, (fun p hp => by cases hp), rfl⟩ ?_ ?_
    · rintro i H' hi ⟨bD, tD, vs, ps, hDv, hps, hok, rfl⟩
      refine ⟨rfl, ?_⟩
      unfold tYes
      refine iteT ?_
      refine ⟨(by show 2 ≤ sizeLine; decide), fun l nl => ?_⟩
      have sl := same_upd (o := .lst [.str (Str.ofString "rail"), .str (Str.ofString "rung")]) nl
      refine ⟨_, rfl, c, _, 2, rfl, tD.same sl, by omega, by decide, sm_p (by decide) (by decide), fun H2 x b2 t2 x0 x1 => ?_⟩
      have nlc : l ≠ c := (tD.ne nl).symm
      have hl2 := b2 _ _ nlc upd_same
      obtain ⟨wv, hwv⟩ : ∃ b : Bool, ([.str (Str.ofString "rail"), .str (Str.ofString "rung")] : List V)[x.toNat]? = some (.str (wd b)) := by
        have : x = 0 ∨ x = 1 := by omega
        rcases this with rfl | rfl
        · exact ⟨true, rfl⟩
        · exact ⟨false, rfl⟩
      have ex : x = (x.toNat : Int) := (Int.toNat_of_nonneg x0).symm
      rw [ex]
      refine ⟨l, _, _, _, rfl, rfl, SqL.of hl2, atI_nat (j := x.toNat) hwv, ?_⟩
      refine ⟨_, rfl, c, _, 12, rfl, t2, by omega, by decide, sm_p (by decide) (by decide), fun H3 y b3 t3 y0 y1 => ?_⟩
      refine ⟨_, _, rfl, rfl, (by show 2 ≤ sizeLine; decide), fun p np => ?_⟩
      have sp := same_upd (o := .tup [.str (wd wv), .int (1 + y)]) np
      have bA : But c H' (upd H3 p (.tup [.str (wd wv), .int (1 + y)])) := ((But.of sl).trans (b2.trans b3)).trans (.of sp)
      have hD3 := bA _ _ nDc hDv
      have pz : PcOk (wv, 1 + y) := ⟨by dsimp; omega, by dsimp; omega⟩
      refine ⟨vs, hD3, ?_, ?_, ?_, vs ++ [.ref p], ps ++ [(wv, 1 + y)], upd_same, ?_, hok.app (fun q hq => by rw [List.mem_singleton.mp hq]; exact pz), by simp⟩
      · rw [hps.1]
        exact small1000 (by omega)
      · intro b o nb e
        rw [upd_ne (ne_of_none e hD)]
        exact bA _ _ nb (bD _ _ nb e)
      · have t4 := t3.same sp
        obtain ⟨u1, u2, u3, hc, rest⟩ := t4
        refine TapeAt.le (n := n + 1 + 2 * ps.length + 1 + 1) ⟨u1, u2, u3, ?_, rest⟩ (by omega)
        rw [upd_ne nDc.symm]
        exact hc
      · have h1 := (hps.but bA tD.notup)
        have nD : ∀ xs, (upd H3 p (.tup [.str (wd wv), .int (1 + y)])) D ≠ some (.tup xs) := fun xs z => by rw [hD3] at z; cases z
        have h2 := h1.but (x := D) (H' := upd (upd H3 p (.tup [.str (wd wv), .int (1 + y)])) D (.lst (vs ++ [.ref p]))) But.upd nD
        have hD30 := ((But.of sl).trans (b2.trans b3)) _ _ nDc hDv
        have npD : p ≠ D := (ne_of_none hD30 np).symm
        have one : PieceAt (upd (upd H3 p (.tup [.str (wd wv), .int (1 + y)])) D (.lst (vs ++ [.ref p]))) (.ref p) (wv, 1 + y) := ⟨p, rfl, by rw [upd_ne npD]; exact upd_same⟩
        refine ⟨by rw [List.length_append, List.length_append, h2.1]; rfl, fun j q hq => ?_⟩
        by_cases hj : j < ps.length
        · rw [List.getElem?_append_left hj] at hq
          obtain ⟨v, hv, hv'⟩ := h2.2 j q hq
          exact ⟨v, by rw [List.getElem?_append_left (by rw [h2.1]; exact hj)]; exact hv, hv'⟩
        · rw [List.getElem?_append_right (by omega)] at hq
          have hj0 : j - ps.length = 0 := by
            have := (List.getElem?_eq_some_iff.mp hq).1
            simp at this
            omega
          rw [hj0] at hq
          cases hq
          exact ⟨_, by rw [List.getElem?_append_right (by rw [h2.1]; omega), h2.1, hj0]; rfl, one⟩
    · rintro H' ⟨bD, tD, vs, ps, hDv, hps, hok, hlen⟩
      refine ⟨D, _, rfl, .inl ⟨SqL.of hDv, fun q nq => ?_⟩⟩
      have sq := same_upd (o := .tup vs) nq
      have tq := tD.same sq
      exact k _ (.ref q) (.tuple (ps.map pcD)) ((b1.trans bD).trans (.of sq)) (tq.le (by omega)) (Dh.new tD nq (dhs_of_pieces tD hps)) (rowD_ok hok (by omega) (by omega)) (by show ((ps.map pcD).length : Int) ≤ L; rw [List.length_map]; omega)
end
end RL

set_option maxHeartbeats 1000000
namespace RL
open PySem L2 PySem.Spec PyProof.Rows
def star1 (sp : Sp) : Sp := fun vs H Q E => ∃ ws rest, vs = ws ++ rest ∧ ws.length = 1 ∧ rest.length ≤ sizeLine ∧ ∀ p, H p = Option.none → sp (ws ++ [V.ref p]) (L2.upd H p (.tup rest)) Q E
theorem okStar {P : Program} {w : World} {K : PySem.W.Frag} {mg : Str → Option Value} {base : Heap} {x qual : Str} {st : Stmt} {f : Addr} {fd : FuncData} {N : List Str} {p1 pv : Str} {k : Nat} {sp : Sp} (F : Fun K x qual st f fd) (S : FnScope N ([p1] ++ [pv]) (defScope st))
    (hb : ∀ (kV doc pm cdv ct : Value) (an : Option Addr) (us rest : List Value), us.length = [p1].length → bindArgs (PySem.W.fnOf x qual (defArgs st) (defBody st) (defScope st) .none kV doc pm an cdv ct) ⟨us ++ rest, []⟩ = (newTuple rest >>= fun t => pure ([p1].zip us ++ [(pv, t)])))
    (hbody : ∀ (cdv : Value) (A : Around) (outer : List Env) (s : Shared) (H : Hp) (vs : List V) (Q : VK) (E : XK), Room k (A.deeper (envOfC qual (defScope st) s.heap.objs.size f cdv)) → sp vs H Q E →
      ∃ t, PSs (cxOf CX0 P w K mg base N qual (defScope st) f cdv A outer s H E).nox (defBody st) t ∧ t { nx := fun _ H' => Q .non H', rt := Q } (start N vs) H) : FnR P w K mg base CX0 (k + 1) f (star1 sp) := by
  obtain ⟨oc, od, kV, doc, pm, an, cdv, ct, osl, rfl, lk, hcd⟩ := F.ex
  exact StX.fn_star (ps := [p1]) lk hcd S StX.cxUp_none (hb kV doc pm cdv ct an) fun A outer s H vs Q E hr hsp => by
    obtain ⟨t, h, q⟩ := hbody cdv A outer s H vs Q E hr hsp
    exact ⟨t, h.nox, q⟩
/-! ### a pattern in the heap -/
def FrAt (H : Hp) (a : Addr) (x s : Int) : Prop := H a = some (.tup [.int (low (x, s)).1, .int (low (x, s)).2])
def PF (q m f : Addr) (s : Int) : List (Str × V) := [("row", .ref q), ("matrix", .ref m), ("scale", .int s), ("four", .ref f)]
def PatAt (C : Addr) (H : Hp) (x : Addr) (r : List Pc) : Prop := ∃ (dx q m f : Addr) (ws : List V) (f1 f2 f3 f4 : Addr), H x = some (.ins C dx (PF q m f (sclR r))) ∧ H q = some (.tup ws) ∧ PiecesAt H ws r ∧ H m = some (.tup (MatT (matR r))) ∧
  H f = some (.tup [.ref f1, .ref f2, .ref f3, .ref f4]) ∧ FrAt H f1 (matR r).a (sclR r) ∧ FrAt H f2 (matR r).b (sclR r) ∧ FrAt H f3 (matR r).c (sclR r) ∧ FrAt H f4 (matR r).d (sclR r)
theorem PatAt.same {C : Addr} {H H' : Hp} {x : Addr} {r : List Pc} (h : PatAt C H x r) (s : Same H H') : PatAt C H' x r := by
  obtain ⟨dx, q, m, f, ws, f1, f2, f3, f4, h1, h2, h3, h4, h5, h6, h7, h8, h9⟩ := h
  exact ⟨dx, q, m, f, ws, f1, f2, f3, f4, s _ _ h1, s _ _ h2, h3.same s, s _ _ h4, s _ _ h5, s _ _ h6, s _ _ h7, s _ _ h8, s _ _ h9⟩
theorem PatAt.but {C : Addr} {H H' : Hp} {x c : Addr} {r : List Pc} (h : PatAt C H x r) (hc : CupAt c H) (s : But c H H') : PatAt C H' x r := by
  obtain ⟨dx, q, m, f, ws, f1, f2, f3, f4, h1, h2, h3, h4, h5, h6, h7, h8, h9⟩ := h
  obtain ⟨u, v, hc, _⟩ := hc
  have st : ∀ {a : Addr} {xs : List V}, H a = some (.tup xs) → H' a = some (.tup xs) := fun {a xs} e => s _ _ (ne_of e hc (by intro z; cases z)) e
  exact ⟨dx, q, m, f, ws, f1, f2, f3, f4, s _ _ (ne_of h1 hc (by intro z; cases z)) h1, st h2, h3.but s (fun xs z => by rw [hc] at z; cases z), st h4, st h5, st h6, st h7, st h8, st h9⟩
theorem str_ne {a b : Str} (h : (a == b) = false) : ¬ a = b := fun z => by
  rw [z] at h
  simp at h
theorem nrm : (("row" : Str) == ("matrix" : Str)) = false := by decide +kernel
theorem nrf : (("row" : Str) == ("four" : Str)) = false := by decide +kernel
theorem nmf : (("matrix" : Str) == ("four" : Str)) = false := by decide +kernel
theorem nmr : (("matrix" : Str) == ("row" : Str)) = false := by decide +kernel
theorem nfr : (("four" : Str) == ("row" : Str)) = false := by decide +kernel
theorem wrs : (("row" : Str) == ("scale" : Str)) = false := by decide +kernel
theorem wms : (("matrix" : Str) == ("scale" : Str)) = false := by decide +kernel
theorem wsf : (("scale" : Str) == ("four" : Str)) = false := by decide +kernel
theorem wsr : (("scale" : Str) == ("row" : Str)) = false := by decide +kernel
theorem wsm : (("scale" : Str) == ("matrix" : Str)) = false := by decide +kernel
theorem putScl (a b v : V) : putF "scale" v [("row", a), ("matrix", b)] = ([("row", a), ("matrix", b), ("scale", v)] : List (Str × V)) := by
  unfold putF
  rw [if_neg (str_ne wrs)]
  unfold putF
  rw [if_neg (str_ne wms)]
  rfl
theorem putM (a v : V) : putF "matrix" v [("row", a)] = ([("row", a), ("matrix", v)] : List (Str × V)) := by
  unfold putF
  rw [if_neg (str_ne nrm)]
  rfl
theorem putFour (a b c v : V) : putF "four" v [("row", a), ("matrix", b), ("scale", c)] = ([("row", a), ("matrix", b), ("scale", c), ("four", v)] : List (Str × V)) := by
  unfold putF
  rw [if_neg (str_ne nrf)]
  unfold putF
  rw [if_neg (str_ne nmf)]
  unfold putF
  rw [if_neg (str_ne wsf)]
  rfl
theorem lkM2 (a b c : V) : ([("row", a), ("matrix", b), ("scale", c)] : List (Str × V)).lookup ("matrix" : Str) = some b := by
  simp [List.lookup, nmr]
theorem lkS2 (a b c : V) : ([("row", a), ("matrix", b), ("scale", c)] : List (Str × V)).lookup ("scale" : Str) = some c := by
  simp [List.lookup, wsr, wsm]
theorem lkR (q m f : Addr) {s : Int} : (PF q m f s).lookup ("row" : Str) = some (.ref q) := by
  simp [PF, List.lookup]
def spPI (C J : Addr) : Sp := fun vs H Q _ => ∃ (x dx p : Addr) (r : List Pc), vs = [.ref x, .ref p] ∧ H x = some (.ins C dx []) ∧ RowOk r ∧ 1 ≤ r.length ∧ r.length ≤ 8 ∧
  ((∃ j dj q ws, H p = some (.tup [.ref j]) ∧ H j = some (.ins J dj [("row", .ref q)]) ∧ H q = some (.tup ws) ∧ PiecesAt H ws r) ∨ (∃ ws, H p = some (.tup ws) ∧ PiecesAt H ws r ∧ r.length ≤ 4)) ∧
  ∀ H', But x H H' → PatAt C H' x r → Q .non H'
def LoadAt (H : Hp) (v : V) (e : Int × Int) : Prop := (∃ i, v = .int i ∧ 0 ≤ i ∧ i ≤ 1000000000000 ∧ e = (i, 1)) ∨ (∃ p, v = .ref p ∧ H p = some (.tup [.int e.1, .int e.2]) ∧ ResP e.1 e.2)
theorem LoadAt.pos {H : Hp} {v : V} {e : Int × Int} (h : LoadAt H v e) : Pos2 e := by
  rcases h with ⟨i, _, h1, h2, rfl⟩ | ⟨p, _, _, h⟩
  · exact ⟨h1, by show (0 : Int) ≤ 1; decide, .inr (by show (0 : Int) < 1; decide)⟩
  · rcases h with ⟨h1, _, h2, _⟩ | ⟨h1, h2⟩
    · exact ⟨h1, by omega, .inr (by omega)⟩
    · exact ⟨by omega, by omega, .inl (by omega)⟩
theorem sm_lt {n : Nat} {x : Int} (h0 : 0 ≤ x) (h : x < 2 ^ n) : Sm n x := by
  unfold Sm
  have e : ((2 ^ n : Nat) : Int) = 2 ^ n := by rw [Int.natCast_pow]; rfl
  omega
theorem LoadAt.sm {H : Hp} {v : V} {e : Int × Int} (h : LoadAt H v e) : Sm 41 e.1 ∧ Sm 41 e.2 := by
  have k : ∀ z : Int, 0 ≤ z → z ≤ 1000000000000 → Sm 41 z := fun z h1 h2 => sm_lt h1 (by
    have e : (2 : Int) ^ 41 = 2199023255552 := by decide
    rw [e]
    omega)
  rcases h with ⟨i, _, h1, h2, rfl⟩ | ⟨p, _, _, h⟩
  · exact ⟨k _ h1 h2, k 1 (by decide) (by decide)⟩
  · rcases h with ⟨h1, h2, h3, h4⟩ | ⟨h1, h2⟩
    · exact ⟨k _ h1 h2, k _ (by omega) h4⟩
    · exact ⟨k _ (by omega) (by omega), k _ (by omega) (by omega)⟩
def spCall (C : Addr) : Sp := fun vs H Q _ => ∃ (x : Addr) (v : V) (r : List Pc) (e : Int × Int), vs = [.ref x, v] ∧ PatAt C H x r ∧ RowOk r ∧ r.length ≤ 8 ∧ LoadAt H v e ∧
  ∀ H' p, Same H H' → H p = none → H' p = some (.tup [.int (low ((matR r).app e)).1, .int (low ((matR r).app e)).2]) → Q (.ref p) H'
def spNum (C : Addr) : Sp := fun vs H Q _ => ∃ (x dx q m f : Addr) (s : Int), vs = [.ref x] ∧ H x = some (.ins C dx (PF q m f s)) ∧ Q (.ref f) H
def spAdd (C : Addr) : Sp := fun vs H Q _ => ∃ (x y : Addr) (r r' : List Pc), vs = [.ref x, .ref y] ∧ PatAt C H x r ∧ PatAt C H y r' ∧ RowOk r ∧ RowOk r' ∧ 1 ≤ r.length ∧ 1 ≤ r'.length ∧ r.length + r'.length ≤ 8 ∧
  ∀ H' z, Same H H' → H z = none → PatAt C H' z (r ++ r') → Q (.ref z) H'
def spTurn (C : Addr) : Sp := fun vs H Q _ => ∃ (x : Addr) (r : List Pc), vs = [.ref x] ∧ PatAt C H x r ∧ RowOk r ∧ 1 ≤ r.length ∧ r.length ≤ 8 ∧ ∀ H' z, Same H H' → H z = none → PatAt C H' z r.reverse → Q (.ref z) H'
def rowTx (r : List Pc) : Str := Txt.join (Str.ofString ", ") (r.map ptx)
def spRead (C : Addr) : Sp := fun vs H Q _ => ∃ r : List Pc, vs = [.str (rowTx r)] ∧ RowOk r ∧ 1 ≤ r.length ∧ r.length ≤ 8 ∧ ∀ H' z, Same H H' → H z = none → PatAt C H' z r → Q (.ref z) H'
structure PatD (P : Program) (w : World) (K : PySem.W.Frag) (mg : Str → Option Value) (base : Heap) (C J f : Addr) : Prop where
  m : Mk K C f
  fn : FnR P w K mg base CX0 5 f (star1 (spPI C J))
structure JoinD (P : Program) (w : World) (K : PySem.W.Frag) (mg : Str → Option Value) (base : Heap) (J f : Addr) (fd : FuncData) : Prop where
  m : Mk K J f
  fn : FnOk P w K mg base CX0 1 f fd ["self", "row"] (spJ J)
  bd : Binds K fd ["self", "row"] []
theorem make_pat {C J : Addr} {H : Hp} {q : Addr} {ws : List V} {r : List Pc} {Q : V → Hp → Prop} (hq : H q = some (.tup ws)) (hw : PiecesAt H ws r) (hok : RowOk r) (l1 : 1 ≤ r.length) (l8 : r.length ≤ 8) (k : ∀ H' z, Same H H' → H z = none → PatAt C H' z r → Q (.ref z) H') :
    ∀ j dj, H j = none → H dj = none → dj ≠ j → spJ J [.ref j, .ref q] (upd (upd H dj (.own j)) j (.ins J dj [])) (fun v H2 => v = .non ∧ ∀ z dz, H2 z = none → H2 dz = none → dz ≠ z →
      star1 (spPI C J) [.ref z, .ref j] (upd (upd H2 dz (.own z)) z (.ins C dz [])) (fun v H3 => v = .non ∧ Q (.ref z) H3) E0) E0 := by
  intro j dj nj ndj nej
  refine ⟨j, dj, .ref q, rfl, upd_same, rfl, fun z dz nz ndz nez => ⟨[.ref z], [.ref j], rfl, rfl, (by show 1 ≤ sizeLine; decide), fun p np => ?_⟩⟩
  -- the heap ahead of the pattern's own
  have s1 : Same H (upd (upd (upd H dj (.own j)) j (.ins J dj [])) j (.ins J dj [("row", .ref q)])) := fun b o e => by
    rw [upd_ne (ne_of_none e nj), upd_ne (ne_of_none e nj), upd_ne (ne_of_none e ndj)]
    exact e
  have hj : (upd (upd (upd H dj (.own j)) j (.ins J dj [])) j (.ins J dj [("row", .ref q)])) j = some (.ins J dj [("row", .ref q)]) := upd_same
  generalize upd (upd (upd H dj (.own j)) j (.ins J dj [])) j (.ins J dj [("row", .ref q)]) = H2 at *
  have s2 : Same H2 (upd (upd H2 dz (.own z)) z (.ins C dz [])) := fun b o e => by
    rw [upd_ne (ne_of_none e nz), upd_ne (ne_of_none e ndz)]
    exact e
  have s3 := s2.trans (same_upd (o := .tup [.ref j]) np)
  have hz : (upd (upd (upd H2 dz (.own z)) z (.ins C dz [])) p (.tup [.ref j])) z = some (.ins C dz []) := by
    rw [upd_ne (ne_of_none (upd_same (H := upd H2 dz (.own z)) (a := z) (o := .ins C dz [])) np), upd_same]
  have s13 := s1.trans s3
  refine ⟨z, dz, p, r, rfl, hz, hok, l1, l8, .inl ⟨j, dj, q, ws, upd_same, s3 _ _ hj, s13 _ _ hq, hw.same s13⟩, fun H' b hP => ⟨rfl, k H' z ?_ (s1.free nz) hP⟩⟩
  intro b' o e
  exact b _ _ (ne_of_none (s1 _ _ e) nz) (s13 _ _ e)
section
variable {P : Program} {w : World} {K : PySem.W.Frag} {mg : Str → Option Value} {base : Heap} {tG t1 t2 t3 : Tok} {aO aW J C fP fJ : Addr} {fdJ : FuncData}
def FrsAt (H : Hp) (vs : List V) (es : List Int) (s : Int) : Prop := vs.length = es.length ∧ ∀ (i : Nat) (e : Int), es[i]? = some e → ∃ t, vs[i]? = some (.ref t) ∧ FrAt H t e s
theorem sc_Pattern_init : FnScope ["self", "pieces", "entry"] ["self", "pieces"] (defScope s_Pattern_init) := ⟨rfl, rfl, rfl, by decide +kernel, rfl, by decide +kernel, by decide +kernel⟩

theorem ok_pinit {f : Addr} {fd : FuncData} (F : Fun K "__init__" "Pattern.__init__" s_Pattern_init f fd) (T : Txt3 K mg tG t1 t2 t3 aO aW J C) (D_checked_row : Df P w K mg base 4 "checked_row" ["pieces"] (spChk J)) (D_matrix_and_scale : Df P w K mg base 1 "matrix_and_scale" ["row"] spMat) (D_lowest_terms : Df P w K mg base 2 "lowest_terms" ["top", "bottom"] spLow) :
    FnR P w K mg base CX0 5 f (star1 (spPI C J)) := by
  refine okStar (p1 := "self") (pv := "pieces") F sc_Pattern_init (fun _ _ _ _ _ _ => StX.bind_star1 (B := fun us => bindArgs _ ⟨us, []⟩) (fun _ => rfl) (fun _ _ _ => rfl)) (fun cdv A outer s H vs Q E hr h => ?_)
  obtain ⟨x, dx, p, r, rfl, hx, hok, l1, l8, hp, k⟩ := h
  refine ⟨_, (C8.pss_cut (ps_fld (pv 0) (pe_df D_checked_row (hr.mono (by decide)) (by rfl) (pa_cons (pv 1) pa_nil)) rfl)
      (pss_cons (ps_asg (pe_df D_matrix_and_scale (hr.mono (by decide)) (by rfl) (pa_cons (pe_fld (pv 0) rfl) pa_nil)) (pg_tup rfl (pgs_cons (pg_fld (pv 0)) (pgs_cons (pg_fld (pv 0)) pgs_nil))))
      (pss_one (ps_fld (pv 0) (pe_callTy call_tuple_of (by rfl) T.tuple_ (by decide +kernel) (pa_cons (pe_lc (own := [("entry", 2)]) (g := gName 2) (tt := tYes) rfl sc_Pattern_init.nd (pi_tup (pe_fld (pv 0) rfl)) (blkOk_by (N := ["self", "pieces", "entry"]) (sc := defScope s_Pattern_init) (by decide +kernel)) (fun _ _ _ _ _ => pg_name (i := 2) sc_Pattern_init.nd rfl (Or.inl rfl)) (fun _ _ _ _ _ => pts_nil) (fun _ _ _ _ _ => (pe_df D_lowest_terms (hr.mono (by decide)) (by rfl) (pa_cons (pv 2) (pa_cons (pe_fldK (K := K) (pv 0)) pa_nil))))) pa_nil)) rfl)))), ?_⟩
  -- self.row = ..
  have notT : ∀ {H' : Hp} {fs : List (Str × V)}, H' x = some (.ins C dx fs) → ∀ xs, H' x ≠ some (.tup xs) := fun e xs z => by rw [e] at z; cases z
  refine ⟨fun σ' H' => σ' = [some (.ref x), some (.ref p), none] ∧ ∃ (q : Addr) (ws : List V), But x H H' ∧ H' x = some (.ins C dx [("row", .ref q)]) ∧ H' q = some (.tup ws) ∧ PiecesAt H' ws r, ?_, ?_⟩
  · have set1 : ∀ (H1 : Hp) (q : Addr) (ws : List V), Same H H1 → H1 q = some (.tup ws) → PiecesAt H1 ws r → ∃ (q' : Addr) (ws' : List V), But x H (upd H1 x (.ins C dx [("row", .ref q)])) ∧ (upd H1 x (.ins C dx [("row", .ref q)])) x = some (.ins C dx [("row", .ref q')]) ∧ (upd H1 x (.ins C dx [("row", .ref q)])) q' = some (.tup ws') ∧ PiecesAt (upd H1 x (.ins C dx [("row", .ref q)])) ws' r := fun H1 q ws s1 hq hw => by
      have hx1 := s1 _ _ hx
      have b1 : But x H1 (upd H1 x (.ins C dx [("row", .ref q)])) := But.upd
      exact ⟨q, ws, (But.of s1).trans b1, upd_same, b1 _ _ (ne_of hq hx1 (by intro z; cases z)) hq, hw.but b1 (notT hx1)⟩
    rcases hp with ⟨j, dj, q, ws, h1, h2, h3, h4⟩ | ⟨ws, h1, h2, h3⟩
    · exact ⟨_, rfl, p, rfl, .inl ⟨j, dj, q, h1, h2, _, rfl, x, C, dx, _, rfl, hx, T.cl, T.nRow, (by show 0 < 1000; decide), rfl, set1 H q ws (Same.refl _) h3 h4⟩⟩
    · exact ⟨_, rfl, p, rfl, .inr ⟨ws, r, h1, h2, hok, l1, h3, fun H1 s1 => ⟨_, rfl, x, C, dx, _, rfl, s1 _ _ hx, T.cl, T.nRow, (by show 0 < 1000; decide), rfl, set1 H1 p ws s1 (s1 _ _ h1) (h2.same s1)⟩⟩⟩
  rintro σ' H2 ⟨rfl, q, ws, bb1, hx2, hq2, hw2⟩
  -- self.matrix, scale = ..
  refine ⟨_, rfl, x, C, dx, _, _, rfl, hx2, T.cl, T.nRow, rfl, q, ws, r, rfl, hq2, hw2, hok, l8, fun H3 pm m s3 hpm hm npm nm => ?_⟩
  have hx3 := s3 _ _ hx2
  refine ⟨pm, _, rfl, SqT.of hpm, rfl, _, _, rfl, _, rfl, x, C, dx, _, rfl, hx3, T.cl, T.nMat, (by show 1 < 1000; decide), ?_⟩
  rw [putM]
  have b4 : But x H3 (upd H3 x (.ins C dx [("row", .ref q), ("matrix", .ref m)])) := But.upd
  have hx4 : (upd H3 x (.ins C dx [("row", .ref q), ("matrix", .ref m)])) x = some (.ins C dx [("row", .ref q), ("matrix", .ref m)]) := upd_same
  have tp4 : ∀ {a : Addr} {xs : List V}, H3 a = some (.tup xs) → (upd H3 x (.ins C dx [("row", .ref q), ("matrix", .ref m)])) a = some (.tup xs) := fun {a xs} e => b4 _ _ (ne_of e hx3 (by intro z; cases z)) e
  have hm4 := tp4 hm
  have hq4 := tp4 (s3 _ _ hq2)
  have hw4 := (hw2.same s3).but b4 (notT hx3)
  have bb4 := (bb1.trans (But.of s3)).trans b4
  clear tp4
  generalize upd H3 x (.ins C dx [("row", .ref q), ("matrix", .ref m)]) = H4' at *
  refine ⟨_, _, rfl, _, rfl, x, C, dx, _, rfl, hx4, T.cl, T.nScl, (by show 2 < 1000; decide), rfl, ?_⟩
  rw [putScl]
  have b4' : But x H4' (upd H4' x (.ins C dx [("row", .ref q), ("matrix", .ref m), ("scale", .int (sclR r))])) := But.upd
  have hm4 := b4' _ _ (ne_of hm4 hx4 (by intro z; cases z)) hm4
  have hq4 := b4' _ _ (ne_of hq4 hx4 (by intro z; cases z)) hq4
  have hw4 := hw4.but b4' (notT hx4)
  have bb4 := bb4.trans b4'
  have hx4 : (upd H4' x (.ins C dx [("row", .ref q), ("matrix", .ref m), ("scale", .int (sclR r))])) x = some (.ins C dx [("row", .ref q), ("matrix", .ref m), ("scale", .int (sclR r))]) := upd_same
  clear b4 b4'
  generalize upd H4' x (.ins C dx [("row", .ref q), ("matrix", .ref m), ("scale", .int (sclR r))]) = H4 at *
  -- self.four = ..
  have sp := sclR_pos hok
  have ss := sclR_sm hok l8
  obtain ⟨ma, mb, mc, md, _⟩ := matR_ok hok
  obtain ⟨sa, sb, sc, sd⟩ := matR_sm hok l8
  refine ⟨_, rfl, x, C, dx, _, _, rfl, hx4, T.cl, T.nMat, lkM2 _ _ _, m, rfl, ⟨_, SqT.of hm4⟩, fun D hD => ?_⟩
  refine lc_tup (K := K) (a := m) (xs := MatT (matR r)) (fun i H' => But D H4 H' ∧ ∃ vs, H' D = some (.lst vs) ∧ FrsAt H' vs ([(matR r).a, (matR r).b, (matR r).c, (matR r).d].take i) (sclR r)) ⟨But.upd, [], upd_same, rfl, fun i e z => by simp at z⟩ (fun i H' _ h => SqT.of (h.1 _ _ (ne_of_none hm4 hD) hm4)) ?_ ?_
  · rintro i y H' hi ⟨bD, vs, hDi, hF⟩
    refine ⟨rfl, ?_⟩
    unfold tYes
    refine iteT ?_
    obtain ⟨z, rfl, z0, zs, ez, hi4⟩ : ∃ z : Int, y = .int z ∧ 0 ≤ z ∧ Sm 41 z ∧ [(matR r).a, (matR r).b, (matR r).c, (matR r).d].take (i + 1) = [(matR r).a, (matR r).b, (matR r).c, (matR r).d].take i ++ [z] ∧ i < 4 := by
      match i, hi with
      | 0, hi => cases hi; exact ⟨_, rfl, ma, sa, rfl, by decide⟩
      | 1, hi => cases hi; exact ⟨_, rfl, mb, sb, rfl, by decide⟩
      | 2, hi => cases hi; exact ⟨_, rfl, mc, sc, rfl, by decide⟩
      | 3, hi => cases hi; exact ⟨_, rfl, md, sd, rfl, by decide⟩
    have lv : vs.length = i := by
      rw [hF.1, List.length_take]
      show min i 4 = i
      omega
    refine ⟨_, rfl, _, rfl, x, C, dx, _, _, rfl, bD _ _ (ne_of_none hx4 hD) hx4, T.cl, T.nScl, lkS2 _ _ _, z, sclR r, rfl, ⟨z0, Int.le_of_lt sp, .inr sp⟩, zs.mono (by decide), ss.mono (by decide), fun H5 t s5 nt ht => ?_⟩
    have hD5 := s5 _ _ hDi
    refine ⟨vs, hD5, small1000 (by omega), ?_, vs ++ [.ref t], upd_same, ?_⟩
    · intro b o nb e
      rw [upd_ne nb]
      exact s5 _ _ (bD _ _ nb e)
    · rw [ez]
      refine ⟨by rw [List.length_append, List.length_append, hF.1]; rfl, fun j e hj => ?_⟩
      have up : ∀ {a : Addr} {xs : List V}, H5 a = some (.tup xs) → (upd H5 D (.lst (vs ++ [.ref t]))) a = some (.tup xs) := fun {a xs} e => by
        rw [upd_ne (ne_of e hD5 (by intro z; cases z))]
        exact e
      by_cases hji : j < ([(matR r).a, (matR r).b, (matR r).c, (matR r).d].take i).length
      · rw [List.getElem?_append_left hji] at hj
        obtain ⟨u, hu, hf⟩ := hF.2 j e hj
        refine ⟨u, ?_, up (s5 _ _ hf)⟩
        rw [List.getElem?_append_left (by rw [hF.1]; exact hji)]
        exact hu
      · rw [List.getElem?_append_right (by omega)] at hj
        have j0 : j - ([(matR r).a, (matR r).b, (matR r).c, (matR r).d].take i).length = 0 := by
          have := (List.getElem?_eq_some_iff.mp hj).1
          simp at this
          rw [List.length_take] at hji ⊢
          have e4 : ([(matR r).a, (matR r).b, (matR r).c, (matR r).d] : List Int).length = 4 := rfl
          omega
        rw [j0] at hj
        cases hj
        refine ⟨t, ?_, up ht⟩
        rw [List.getElem?_append_right (by rw [hF.1]; omega), hF.1, j0]
        rfl
  · rintro H' ⟨bD, vs, hDn, hF⟩
    have sD : Same H4 H' := fun b o e => bD _ _ (ne_of_none e hD) e
    refine ⟨D, _, rfl, .inl ⟨SqL.of hDn, fun l hl => ?_⟩⟩
    have s6 := sD.trans (same_upd (o := .tup vs) hl)
    have hx6 := s6 _ _ hx4
    refine ⟨_, rfl, x, C, dx, _, rfl, hx6, T.cl, T.nFour, (by show 3 < 1000; decide), ?_⟩
    rw [putFour]
    have b7 : But x (upd H' l (.tup vs)) (upd (upd H' l (.tup vs)) x (.ins C dx (PF q m l (sclR r)))) := But.upd
    have tp : ∀ {a : Addr} {xs : List V}, (upd H' l (.tup vs)) a = some (.tup xs) → (upd (upd H' l (.tup vs)) x (.ins C dx (PF q m l (sclR r)))) a = some (.tup xs) := fun {a xs} e => b7 _ _ (ne_of e hx6 (by intro z; cases z)) e
    have hF' : FrsAt H' vs [(matR r).a, (matR r).b, (matR r).c, (matR r).d] (sclR r) := hF
    obtain ⟨g1, e1, a1⟩ := hF'.2 0 _ rfl
    obtain ⟨g2, e2, a2⟩ := hF'.2 1 _ rfl
    obtain ⟨g3, e3, a3⟩ := hF'.2 2 _ rfl
    obtain ⟨g4, e4, a4⟩ := hF'.2 3 _ rfl
    have ev : vs = [.ref g1, .ref g2, .ref g3, .ref g4] := by
      match vs, hF'.1, e1, e2, e3, e4 with
      | [_, _, _, _], _, e1, e2, e3, e4 =>
        cases e1
        cases e2
        cases e3
        cases e4
        rfl
    subst ev
    have sl := same_upd (o := .tup [.ref g1, .ref g2, .ref g3, .ref g4]) hl
    exact k _ ((bb4.trans (But.of s6)).trans b7) ⟨dx, q, m, l, ws, g1, g2, g3, g4, upd_same, tp (s6 _ _ hq4), (hw4.same s6).but b7 (notT hx6), tp (s6 _ _ hm4), tp upd_same, tp (sl _ _ a1), tp (sl _ _ a2), tp (sl _ _ a3), tp (sl _ _ a4)⟩
end
end RL

set_option maxHeartbeats 2000000
namespace RL
open PySem L2 PySem.Spec PyProof.Rows
theorem PiecesAt.app {H : Hp} {vs vs' : List V} {r r' : List Pc} (h : PiecesAt H vs r) (h' : PiecesAt H vs' r') : PiecesAt H (vs ++ vs') (r ++ r') := by
  refine ⟨by rw [List.length_append, List.length_append, h.1, h'.1], fun i p hp => ?_⟩
  by_cases hi : i < r.length
  · rw [List.getElem?_append_left hi] at hp
    obtain ⟨v, hv, q⟩ := h.2 _ p hp
    exact ⟨v, by rw [List.getElem?_append_left (by rw [h.1]; exact hi)]; exact hv, q⟩
  · rw [List.getElem?_append_right (by omega)] at hp
    obtain ⟨v, hv, q⟩ := h'.2 _ p hp
    exact ⟨v, by rw [List.getElem?_append_right (by rw [h.1]; omega), h.1]; exact hv, q⟩
theorem parts_split {r : List Pc} (hok : RowOk r) (l1 : 1 ≤ r.length) : Txt.split (rowTx r) (Str.ofString ", ") = r.map ptx := by
  refine TL.split_join (s := 44) (S := [32]) (by decide +kernel) (by decide +kernel) (fun z => ?_) (fun p hp => ?_)
  · have := congrArg List.length z
    rw [List.length_map] at this
    have e0 : ([] : List Str).length = 0 := rfl
    omega
  · obtain ⟨q, hq, rfl⟩ := List.mem_map.mp hp
    exact ptx_free (hok q hq)
theorem join_len (y : Str) : ∀ l : List Str, (Str.join y l).length ≤ (l.map (·.length)).sum + l.length * y.length
  | [] => by
    show (Str.join y []).length ≤ _
    exact Nat.zero_le _
  | [x] => by
    show x.length ≤ _
    simp
  | x :: z :: l => by
    have ih := join_len y (z :: l)
    show (x ++ y ++ Str.join y (z :: l)).length ≤ _
    rw [Str.length_append, Str.length_append]
    simp only [List.map_cons, List.sum_cons, List.length_cons] at ih ⊢
    have : (l.length + 1 + 1) * y.length = (l.length + 1) * y.length + y.length := Nat.succ_mul _ _
    omega
theorem sum_len {r : List Pc} (hok : RowOk r) : ((r.map ptx).map (·.length)).sum ≤ 7 * r.length := by
  induction r with
  | nil => exact Nat.le_refl _
  | cons p r ih =>
    have h1 := ih hok.tail
    have h2 := ptx_len hok.head
    simp only [List.map_cons, List.sum_cons, List.length_cons]
    omega
theorem rowTx_len {r : List Pc} (hok : RowOk r) (l8 : r.length ≤ 8) : (rowTx r).length ≤ 100 := by
  unfold rowTx
  rw [TL.join_eq]
  have h1 := join_len (Str.ofString ", ") (r.map ptx)
  have h2 := sum_len hok
  rw [List.length_map] at h1
  have h3 : (Str.ofString ", ").length = 2 := by decide +kernel
  rw [h3] at h1
  omega
theorem eqv_none_tup (xs : List PyData) : PyData.eqv (.tuple xs) .none = false := by simp [PyData.eqv]
structure OwR (P : Program) (w : World) (K : PySem.W.Frag) (mg : Str → Option Value) (base : Heap) (C p g : Addr) (fd : FuncData) : Prop where
  rd : ClX.CRead K C (.type "type")
  sm : SMet K C (.type "type") "read" p g
  ok : FnOk P w K mg base CX0 7 g fd ["text"] (spRead C)
  b : Binds K fd ["text"] []
def spPcs (C : Addr) : Sp := fun vs H Q _ => ∃ (x : Addr) (r : List Pc), vs = [.ref x] ∧ PatAt C H x r ∧ ∀ q ws, H q = some (.tup ws) → PiecesAt H ws r → Q (.ref q) H
structure OwPi (P : Program) (w : World) (K : PySem.W.Frag) (mg : Str → Option Value) (base : Heap) (C p g : Addr) (fd : FuncData) : Prop where
  pr : PropOf K C "pieces" p g
  ok : FnOk P w K mg base CX0 1 g fd ["self"] (spPcs C)
  b : Binds K fd ["self"] []
structure IsC (K : PySem.W.Frag) (C : Addr) : Prop where
  ca : PySem.W.findIn K (.ref C) "__class__" = some (some (.builtin "object.__class__"))
  cn : PySem.W.specialIn K (.builtin "object.__class__") "__get__" = some (some (.builtin "getset_descriptor.__get__"))
  ct : PySem.W.takesIn K (.builtin "object.__class__") = some true
  cm : PySem.W.mroIn K C (.type "object") = some true
  is_ : PySem.W.kitOne K (.ref C) (.ref C) = some true
def spChkP (C : Addr) : Sp := fun vs H Q _ => ∃ (x dx : Addr) (fs : List (Str × V)), vs = [.ref x] ∧ H x = some (.ins C dx fs) ∧ Q .non H
def spTx : Sp := fun vs H Q _ => ∃ (v : V) (r : List Pc), vs = [v] ∧ RowT H v r ∧ ∀ H', Same H H' → Q (.str (rowTx r)) H'
def spPat (C : Addr) : Sp := fun vs H Q _ => ∃ (v : V) (r : List Pc), vs = [v] ∧ RowT H v r ∧ ∀ H' z, Same H H' → H z = none → PatAt C H' z r → Q (.ref z) H'
section
variable {P : Program} {w : World} {K : PySem.W.Frag} {mg : Str → Option Value} {base : Heap} {tG t1 t2 t3 : Tok} {aO aW J C fP fJ : Addr} {fdJ : FuncData}
theorem dp_row {H : Hp} {vs : List V} {r : List Pc} (h : PiecesAt H vs r) {q : Addr} (hq : H q = some (.tup vs)) : Dp K H (.ref q) (.tuple (r.map fun p => .tuple [.str (wd p.1), .int p.2])) := by
  refine .tup (SqT.of hq) ?_
  clear hq
  induction r generalizing vs with
  | nil =>
    match vs, h.1 with
    | [], _ => exact .nil
  | cons p r ih =>
    match vs, h.1, h.2 with
    | v :: vs, hl, h2 =>
      obtain ⟨v', hv, t, rfl, ht⟩ := h2 0 p rfl
      cases hv
      exact .cons (.tup (SqT.of ht) (.cons (.str _) (.cons (.int _) .nil))) (ih ⟨by simpa using hl, fun i p hp => h2 (i + 1) p hp⟩)
theorem units65 {k : Nat} {A : Around} (r : Room k A) : A.units + 65 < cLine := by
  have := r.un
  omega
theorem wd_ok (r : Bool) : PyData.strOk (wd r) = true := by cases r <;> decide +kernel
theorem row_lay : ∀ r : List Pc, PyData.canLayAll0 (r.map fun p => .tuple [.str (wd p.1), .int p.2]) = true
  | [] => rfl
  | p :: r => by simp [PyData.canLayAll0, PyData.canLay0, row_lay r, wd_ok]
theorem row_depth : ∀ r : List Pc, PyData.depthAll (r.map fun p => .tuple [.str (wd p.1), .int p.2]) ≤ 1
  | [] => by simp [PyData.depthAll]
  | p :: r => by
    have h := row_depth r
    simp [PyData.depthAll, PyData.depth]
    omega
theorem sh_row (r : List Pc) : SeqAt.shaped (.tuple (r.map fun p => .tuple [.str (wd p.1), .int p.2])) = true := by
  have h1 := row_lay r
  have h2 := row_depth r
  unfold SeqAt.shaped
  simp [PyData.canLay0, PyData.depth, h1]
  omega
theorem sc_Pattern_read : FnScope ["text", "parts", "row", "part"] ["text"] (defScope s_Pattern_read) := ⟨rfl, rfl, rfl, by decide +kernel, rfl, by decide +kernel, by decide +kernel⟩

theorem ok_read {f : Addr} {fd : FuncData} (F : Fun K "read" "Pattern.read" s_Pattern_read f fd) (T : Txt3 K mg tG t1 t2 t3 aO aW J C) (X_pat : PatD P w K mg base C J fP) (X_join : JoinD P w K mg base J fJ fdJ) (D_piece_with_text : Df P w K mg base 2 "piece_with_text" ["text"] spPwt) : FnOk P w K mg base CX0 7 f fd ["text"] (spRead C) := by
  refine F.ok sc_Pattern_read (fun vs H Q E h => ?_) (fun cdv A outer s H vs Q E hr h => ?_)
  · obtain ⟨r, rfl, _⟩ := h
    rfl
  · obtain ⟨r, rfl, hok, l1, l8, k⟩ := h
    refine ⟨_, (pss_cons (ps_if (pt_not (pt_val (pe_callB call_isi (by rfl) T.isinstance (by decide +kernel) (pa_cons (pv 0) (pa_cons (pe_bltn (v := .ty "str") (by rfl) T.str_ (by decide +kernel) rfl) pa_nil))))) (pss_one ps_never) pss_nil)
      (pss_cons (ps_set (i := 1) sc_Pattern_read.nd rfl (.inl rfl) (pe_split (pv 0) pe_str))
      (pss_cons (ps_if (pt_cmpR op_gt (pe_callB call_len_seq (by rfl) T.len (by decide +kernel) (pa_cons (pv 1) pa_nil)) (pe_glob (v := .int 8) rfl T.mgJo ⟨_, rfl⟩) (nomark _)) (pss_one ps_never) pss_nil)
      (pss_cons (ps_set (i := 2) sc_Pattern_read.nd rfl (.inl rfl) (pe_callTy call_tuple_of (by rfl) T.tuple_ (by decide +kernel) (pa_cons (pe_lc (own := [("part", 3)]) (g := gName 3) (tt := tYes) rfl sc_Pattern_read.nd (pi_list (pv 1)) (blkOk_by (N := ["text", "parts", "row", "part"]) (sc := defScope s_Pattern_read) (by decide +kernel)) (fun _ _ _ _ _ => pg_name (i := 3) sc_Pattern_read.nd rfl (Or.inl rfl)) (fun _ _ _ _ _ => pts_nil) (fun _ _ _ _ _ => (pe_df D_piece_with_text (hr.mono (by decide)) (by rfl) (pa_cons (pv 3) pa_nil)))) pa_nil)))
      (pss_cons (ps_if (pt_cmpR (op_inT (units65 hr)) pe_non (pv 2) (by rfl)) (pss_one ps_never) pss_nil)
      (pss_one (ps_ret (StX.pe_makeR X_pat.m X_pat.fn (hr.mono (by decide)) rfl T.mgC pass0 (pa_cons (pe_make X_join.m X_join.fn (hr.mono (by decide)) rfl T.mgJ X_join.bd .nil pass0 (pa_cons (pv 2) pa_nil)) pa_nil))))))))), ?_⟩
    refine ⟨_, rfl, _, _, _, _, true, rfl, .ty _, .base (.str _), kit_ty (by decide +kernel), true, rfl, iteF ?_⟩
    refine ⟨_, rfl, ⟨_, rfl⟩, _, _, rfl, rfl, by decide +kernel, Nat.le_trans (Nat.add_le_add_right (rowTx_len hok l8) 2) (small1000 (show 101 ≤ 999 + 1 by decide)), fun p np => ?_⟩
    rw [parts_split hok l1]
    have s1 := same_upd (o := .lst ((r.map ptx).map V.str)) np
    have hp : (upd H p (.lst ((r.map ptx).map V.str))) p = some (.lst ((r.map ptx).map V.str)) := upd_same
    have len : ((r.map ptx).map V.str).length = r.length := by rw [List.length_map, List.length_map]
    generalize upd H p (.lst ((r.map ptx).map V.str)) = H1 at *
    refine ⟨_, rfl, p, _, rfl, .inl (SqL.of hp), _, _, rfl, rfl, _, rfl, ite2 (fun e => ?_) (fun _ => ?_)⟩
    · have h1 := of_decide_eq_true e
      rw [len] at h1
      omega
    refine ⟨_, rfl, p, rfl, ⟨_, SqL.of hp⟩, fun D hD => ?_⟩
    refine lc_list (K := K) (a := p) (xs := (r.map ptx).map V.str) (fun i H' => But D H1 H' ∧ ∃ vs, H' D = some (.lst vs) ∧ PiecesAt H' vs (r.take i)) ⟨But.upd, [], upd_same, rfl, fun i e z => by simp at z⟩ (fun i H' _ h => SqL.of (h.1 _ _ (ne_of_none hp hD) hp)) ?_ ?_
    · rintro i y H' hi ⟨bD, vs, hDi, hF⟩
      refine ⟨rfl, ?_⟩
      unfold tYes
      refine iteT ?_
      obtain ⟨pc, rfl, hpc⟩ : ∃ pc, y = .str (ptx pc) ∧ r[i]? = some pc := by
        rw [List.getElem?_map, List.getElem?_map] at hi
        cases e : r[i]? with
        | none =>
          rw [e] at hi
          cases hi
        | some pc =>
          rw [e] at hi
          exact ⟨pc, (Option.some.inj hi).symm, rfl⟩
      have il : i < r.length := (List.getElem?_eq_some_iff.mp hpc).1
      have lv : vs.length = i := by
        rw [hF.1, List.length_take]
        omega
      have tk : r.take (i + 1) = r.take i ++ [pc] := by
        rw [List.take_succ, hpc]
        rfl
      refine ⟨_, rfl, pc, rfl, hok.at_ hpc, fun H5 t s5 nt ht => ?_⟩
      have hD5 := s5 _ _ hDi
      have bD2 : But D H5 (upd H5 D (.lst (vs ++ [.ref t]))) := But.upd
      refine ⟨vs, hD5, small1000 (by omega), ?_, vs ++ [.ref t], upd_same, ?_⟩
      · intro b o nb e
        rw [upd_ne nb]
        exact s5 _ _ (bD _ _ nb e)
      · rw [tk]
        refine ((hF.same s5).app ⟨rfl, fun j p hj => ?_⟩).but bD2 (fun xs z => by rw [hD5] at z; cases z)
        match j, hj with
        | 0, hj =>
          cases hj
          exact ⟨_, rfl, t, rfl, ht⟩
    · rintro H' ⟨bD, vs, hDn, hF⟩
      rw [len, List.take_length] at hF
      have sD : Same H1 H' := fun b o e => bD _ _ (ne_of_none e hD) e
      refine ⟨D, _, rfl, .inl ⟨SqL.of hDn, fun l hl => ?_⟩⟩
      have s6 := same_upd (o := .tup vs) hl
      have hF6 := hF.same s6
      have hl6 : (upd H' l (.tup vs)) l = some (.tup vs) := upd_same
      have sA := (s1.trans sD).trans s6
      generalize upd H' l (.tup vs) = H6 at *
      refine ⟨_, rfl, .none, _, .non, dp_row hF6 hl6, rfl, sh_row r, _, rfl, ite2 (fun e => ?_) (fun _ => ?_)⟩
      · exfalso
        rw [List.any_eq_true] at e
        obtain ⟨z, hz, ez⟩ := e
        obtain ⟨pc, _, rfl⟩ := List.mem_map.mp hz
        rw [eqv_none_tup] at ez
        cases ez
      exact ⟨_, rfl, make_pat hl6 hF6 hok l1 l8 fun H' z s2 nz hz => k H' z (sA.trans s2) (sA.free nz) hz⟩
theorem sc_Pattern_pieces : FnScope ["self"] ["self"] (defScope s_Pattern_pieces) := ⟨rfl, rfl, rfl, by decide +kernel, rfl, by decide +kernel, by decide +kernel⟩

theorem ok_pcs {f : Addr} {fd : FuncData} (F : Fun K "pieces" "Pattern.pieces" s_Pattern_pieces f fd) (T : Txt3 K mg tG t1 t2 t3 aO aW J C) : FnOk P w K mg base CX0 1 f fd ["self"] (spPcs C) := by
  refine F.ok sc_Pattern_pieces (fun vs H Q E h => ?_) (fun cdv A outer s H vs Q E hr h => ?_)
  · obtain ⟨x, r, rfl, _⟩ := h
    rfl
  · obtain ⟨x, r, rfl, hP, k⟩ := h
    refine ⟨_, (pss_one (ps_ret (pe_fld (pv 0) rfl))), ?_⟩
    obtain ⟨dx, q, m, f', ws, f1, f2, f3, f4, hx, hq, hw, hm, _⟩ := hP
    exact ⟨_, rfl, x, C, dx, _, _, rfl, hx, T.cl, T.nRow, lkR _ _ _, k q ws hq hw⟩
theorem sc_check_pattern : FnScope ["value"] ["value"] (defScope s_check_pattern) := ⟨rfl, rfl, rfl, by decide +kernel, rfl, by decide +kernel, by decide +kernel⟩

theorem ok_chkp {f : Addr} {fd : FuncData} (F : Fun K "check_pattern" "check_pattern" s_check_pattern f fd) (T : Txt3 K mg tG t1 t2 t3 aO aW J C) (I : IsC K C) : FnOk P w K mg base CX0 1 f fd ["value"] (spChkP C) := by
  refine F.ok sc_check_pattern (fun vs H Q E h => ?_) (fun cdv A outer s H vs Q E hr h => ?_)
  · obtain ⟨x, dx, fs, rfl, _⟩ := h
    rfl
  · obtain ⟨x, dx, fs, rfl, hx, k⟩ := h
    refine ⟨_, (pss_one (ps_if (pt_not (pt_val (pe_callB call_isi (by rfl) T.isinstance (by decide +kernel) (pa_cons (pv 0) (pa_cons (pe_glob (v := .ref C) rfl T.mgC rfl) pa_nil))))) (pss_one ps_never) pss_nil)), ?_⟩
    exact ⟨_, rfl, _, _, _, _, true, rfl, .own C, .base (.ins hx T.cl I.ca I.cn I.ct I.cm), I.is_, true, rfl, iteF k⟩
theorem sc_law_text : FnScope ["_law_row", "_law_word", "_law_size"] ["_law_row"] (defScope s_law_text) := ⟨rfl, rfl, rfl, by decide +kernel, rfl, by decide +kernel, by decide +kernel⟩

theorem ok_text {f : Addr} {fd : FuncData} (F : Fun K "_law_text" "_law_text" s_law_text f fd) (T : Txt K mg) : FnOk P w K mg base CX0 1 f fd ["_law_row"] spTx := by
  refine F.ok sc_law_text (fun vs H Q E h => ?_) (fun cdv A outer s H vs Q E hr h => ?_)
  · obtain ⟨a, r, rfl, _⟩ := h
    rfl
  · obtain ⟨v, r, rfl, ⟨a, ws, rfl, ha, hw, hok, l1, l8⟩, k⟩ := h
    refine ⟨_, (pss_one (ps_ret (pe_join pe_str (pe_lc (own := [("_law_word", 1), ("_law_size", 2)]) (g := gTup K 2 (gCons (gName 1) (gCons (gName 2) gNil))) (tt := tYes) rfl sc_law_text.nd (pi_tup (pv 0)) (blkOk_by (N := ["_law_row", "_law_word", "_law_size"]) (sc := defScope s_law_text) (by decide +kernel)) (fun _ _ _ _ _ => pg_tup rfl (pgs_cons (pg_name (i := 1) sc_law_text.nd rfl (Or.inl rfl)) (pgs_cons (pg_name (i := 2) sc_law_text.nd rfl (Or.inl rfl)) pgs_nil))) (fun _ _ _ _ _ => pts_nil) (fun _ _ _ _ _ => (pe_op op_add_str (pe_op op_add_str (pv 1) pe_str) (pe_callTy call_str_int (by rfl) T.str_ (by decide +kernel) (pa_cons (pv 2) pa_nil)))))))), ?_⟩
    refine ⟨⟨_, rfl⟩, _, rfl, a, rfl, ⟨_, SqT.of ha⟩, fun D hD => ?_⟩
    refine lc_tup (K := K) (a := a) (xs := ws) (fun i H' => But D H H' ∧ H' D = some (.lst (((r.take i).map ptx).map V.str))) ⟨But.upd, upd_same⟩ (fun i H' _ h => SqT.of (h.1 _ _ (ne_of_none ha hD) ha)) ?_ ?_
    · rintro i y H1 hi ⟨bD, hDi⟩
      obtain ⟨pc, hpc, t, rfl, ht⟩ := hw.at_ hi
      have ht1 := bD _ _ (ne_of_none ht hD) ht
      have ok := hok.at_ hpc
      have oh : Sm 200 pc.2 := (ohm_sm ok).mono (by decide)
      have ww : OkT 4 (wd pc.1) := by
        unfold wd
        split
        · exact OkT.of "rail"
        · exact OkT.of "rung"
      have lens : ∀ {m n : Nat} {x y : Str}, OkT m x → OkT n y → m + n ≤ 100000 → x.length + y.length ≤ sizeLine := fun {m n x y} h1 h2 h3 => by
        have := h1.len
        have := h2.len
        rw [sizeLine_eq]
        omega
      refine ⟨t, _, rfl, SqT.of ht1, rfl, _, _, rfl, _, _, rfl, rfl, rfl, ?_⟩
      unfold tYes
      refine iteT ?_
      refine ⟨_, rfl, _, _, rfl, rfl, lens ww (OkT.of " ") (by decide), _, rfl, _, rfl, Nat.lt_trans (log_sm (by decide) oh) (by decide), _, _, rfl, rfl, lens (ww.app (OkT.of " ")) (ts_ok oh) (by decide), _, hDi, ?_, ?_, ?_⟩
      · rw [List.length_map, List.length_map, List.length_take]
        exact small1000 (by omega)
      · intro q o nq e
        rw [upd_ne nq]
        exact bD _ _ nq e
      · rw [upd_same, List.take_succ, hpc]
        simp only [Option.toList, List.map_append, List.map_cons, List.map_nil]
        rfl
    · rintro H1 ⟨bD, hDn⟩
      rw [hw.1, List.take_length] at hDn
      refine ⟨_, D, r.map ptx, rfl, rfl, .inl (SqL.of hDn), ?_, ?_⟩
      · have h2 := sum_len hok
        have h3 : (Str.ofString ", ").length = 2 := by decide +kernel
        rw [List.length_map]
        show _ + r.length * (Str.ofString ", ").length ≤ 16777216
        rw [h3]
        omega
      · exact k _ fun q o e => bD _ _ (ne_of_none e hD) e
theorem sc_law_pat : FnScope ["_law_row"] ["_law_row"] (defScope s_law_pat) := ⟨rfl, rfl, rfl, by decide +kernel, rfl, by decide +kernel, by decide +kernel⟩

theorem ok_pat {f pr gr : Addr} {fd fr : FuncData} (F : Fun K "_law_pat" "_law_pat" s_law_pat f fd) (T : Txt3 K mg tG t1 t2 t3 aO aW J C) (OR : OwR P w K mg base C pr gr fr) (D_law_text : Df P w K mg base 1 "_law_text" ["_law_row"] spTx) : FnOk P w K mg base CX0 8 f fd ["_law_row"] (spPat C) := by
  refine F.ok sc_law_pat (fun vs H Q E h => ?_) (fun cdv A outer s H vs Q E hr h => ?_)
  · obtain ⟨a, r, rfl, _⟩ := h
    rfl
  · obtain ⟨v, r, rfl, hR, k⟩ := h
    refine ⟨_, (pss_one (ps_ret (pe_smeth (pe_glob (v := .ref C) rfl T.mgC rfl) OR.rd OR.sm OR.ok OR.b (hr.mono (by decide)) (pa_cons (pe_df D_law_text (hr.mono (by decide)) (by rfl) (pa_cons (pv 0) pa_nil)) pa_nil)))), ?_⟩
    obtain ⟨_, _, _, _, _, hok, l1, l8⟩ := id hR
    exact ⟨rfl, _, rfl, v, r, rfl, hR, fun H1 s1 => ⟨r, rfl, hok, l1, l8, fun H2 z s2 nz hz => k _ z (s1.trans s2) (s1.free nz) hz⟩⟩
end
end RL

set_option maxHeartbeats 2000000
/-! a def called on the exception, outside all repr (it may call repr itself) -/
namespace RL
open PySem L2 PySem.Spec PyProof.Rows
structure FnF (P : Program) (w : World) (K : PySem.W.Frag) (mg : Str → Option Value) (base : Heap) (k : Nat) (f : Addr) (fd : FuncData) (ps : List Str) (sp : Addr × Obj → Sp) : Prop where
  len : ∀ p vs H Q E, sp p vs H Q E → vs.length = ps.length
  run : ∀ (A : Around) (outer : List Env) (s : Shared) (H : Hp) (args : Args) (us : List Value) (vs : List V) (Q : VK) (p : Addr × Obj), L2H.RoomH k A → (A.guards = some [] ∧ L2H.Hot1 A p) → L2H.PinOk outer H s p → Env0 P w K mg base A outer s H → BindsTo s fd args (ps.zip us) → Vals vs us → sp p vs H Q E0 →
    codeAny (model P w) A (.call (.ref f) args) (CR CX0 outer P w H s Q E0) s
section
variable {P : Program} {w : World} {K : PySem.W.Frag} {mg : Str → Option Value} {base : Heap}
theorem okF {x qual : Str} {st : Stmt} {f : Addr} {fd : FuncData} {N ps : List Str} {k : Nat} {sp : Addr × Obj → Sp} (F : Fun K x qual st f fd) (S : FnScope N ps (defScope st)) (len : ∀ p vs H Q E, sp p vs H Q E → vs.length = ps.length)
    (bd : ∀ (cdv : Value) (A : Around) (outer : List Env) (s : Shared) (H : Hp) (vs : List V) (Q : VK) (p : Addr × Obj), (A.guards = some [] ∧ L2H.Hot1 A p) → L2H.RoomH k (A.deeper (envOfC qual (defScope st) s.heap.objs.size f cdv)) → sp p vs H Q E0 →
      ∃ t, PSs (L2H.cxH CX0 P w K mg base N qual (defScope st) f cdv A outer s H E0 p) (defBody st) t ∧ t { nx := fun _ H' => Q .non H', rt := Q } (L2.start N vs) H) : FnF P w K mg base (k + 1) f fd ps sp := by
  obtain ⟨oc, od, kV, doc, pm, an, cdv, ct, osl, rfl, lk, hcd⟩ := F.ex
  refine ⟨len, fun A outer s H args us vs Q p hr hot hpin e0 hb r hsp => ?_⟩
  have KX : K.In s.heap := e0.mod.kin.keeps fun b o e => (e0.bs b o e).1
  have lim := e0.mod.nolimit.keeps fun b o e => (e0.bs b o e).1
  refine codeAny_call_function hr.depth (KX _ _ lk) rfl S.co S.gen rfl (PySem.W.codeRec_of KX hcd) (hb _ _ _ _ (wpAny_newFunctionEnv_cells S.kind (fun ⟨n, v⟩ hy => ?_) fun env he s1 x => ?_))
  · exact (S.par n (List.of_mem_zip hy).1).imp id fun q => ⟨q, PySem.W.cellsFrom_some _ _ _ (.inl q)⟩
  · subst he
    obtain ⟨t, ht, hq⟩ := bd cdv A outer s H vs Q p hot (hr.deeper _) hsp
    have I : Inv (L2H.cxH CX0 P w K mg base N qual (defScope st) f cdv A outer s H E0 p) [] (L2.start N vs) H s1 := L2H.inv_startH S hpin e0 (len _ _ _ _ _ hsp) r x
    refine ⟨lim.keeps x.toInCall.keep, codeAny_func (wpAny_mono (ht.run [] s1 _ H _ I hq) (fun fl s' hs => ?_) fun _ _ z => z)⟩
    cases fl with
    | ret u =>
      obtain ⟨v, σ', H', J, rv, q⟩ := hs
      exact ⟨v, H', J.os, J.bare, J.base, J.hok, rv, q⟩
    | next =>
      obtain ⟨σ', H', J, q⟩ := hs
      exact ⟨V.non, H', J.os, J.bare, J.base, J.hok, rfl, q⟩
    | brk => exact hs.elim fun _ z => z.elim fun _ y => False.elim y.2
    | cont => exact hs.elim fun _ z => z.elim fun _ y => False.elim y.2
end
structure DfF (P : Program) (w : World) (K : PySem.W.Frag) (mg : Str → Option Value) (base : Heap) (k : Nat) (x : Str) (ps : List Str) (sp : Addr × Obj → Sp) : Prop where
  ex : ∃ (f : Addr) (fd : FuncData), FnF P w K mg base k f fd ps sp ∧ mg x = some (.ref f) ∧ PySem.W.keepIn K (.ref f) = true ∧ Binds K fd ps []
section
variable {X : Cx} {k : Nat} {ps : List Str} {sp : Addr × Obj → Sp} {x : Str} {q pos : Pos} {e : Expr} {es : List Expr} {t : TA} {p : Addr × Obj}
theorem pe_dfF (D : DfF X.prog X.w X.K X.mg X.base k x ps sp) (hr : L2H.RoomH k X.A) (hot : (X.A.guards = some [] ∧ L2H.Hot1 X.A p)) (hp : p ∈ X.pn) (hg : Gl X x)
    (ha : PA X (e :: es) t) (hdb : (x == ("__debug__" : Str)) = false := by decide) (he : starEach (e :: es) X.env = (false, eval e X.env) :: starEach es X.env := by rfl) (hpl : (backTo pos (starEach es X.env)).any (·.1) = false := by rfl) :
    PE X (.Call (.Name x q) (e :: es) [] pos) (fun σ H Q => t σ H fun vs H1 => sp p vs H1 Q E0) := by
  obtain ⟨f, fd, F, hm, hk, hb⟩ := D.ex
  refine ⟨fun pins s σ H Q I h => wpAny_Call_Name_kw (ld_glob I hg hm (PySem.W.callWith_K (h₀ := X.base) I.ok.mod.kin hk (thn (ha.run pos pins s σ H _ I h) fun us s1 ⟨vs, H1, I1, r, q0⟩ => ⟨I1.kIn, ?_⟩) he hpl) hdb)⟩
  have hl : us.length = ps.length := by
    rw [← r.length]
    exact F.len _ _ _ _ _ q0
  have hbb := hb s1 us I1.kIn (by rw [List.append_nil]; exact hl)
  rw [List.append_nil] at hbb
  have P1 := I1.pin p (List.mem_append_left _ hp)
  have hpin : L2H.PinOk X.stack H1 s1 p := ⟨P1.1, P1.2.1, fun hm => (List.mem_cons.mp (I1.stkSub p.1 hm)).elim P1.2.2.1 P1.2.2.2.1, P1.2.2.2.2⟩
  refine wpAny_call (codeAny_mono (F.run X.A X.stack s1 H1 ⟨us, []⟩ us vs Q p hr hot hpin I1.env0 hbb r q0) fun z s' hq => ?_)
  cases z with
  | error e => exact hq.elim
  | ok fl =>
    cases fl with
    | ret u => exact I1.after hq
    | next => exact hq.elim
    | brk => exact hq.elim
    | cont => exact hq.elim
end
end RL

/-! xs.count(True) of a list of bools -/
namespace RL
open PySem L2 PySem.Spec PyProof.Rows PySem.SeqAt
def rCntB (K : PySem.W.Frag) : V → List V → Hp → VK → Prop := fun x xs H Q => ∃ (p : Addr) (bs : List Bool) (k : Bool), x = .ref p ∧ xs = [.bl k] ∧ SqL K H p (bs.map V.bl) ∧ Q (.int (bs.count k : Nat)) H
section
variable {X : Cx}
theorem mem_bl {bs : List Bool} {its : List Value} (r : Vals (bs.map V.bl) its) : ∀ y ∈ its, ∃ b, y = Value.bool b := by
  induction bs generalizing its with
  | nil =>
    cases r
    intro y h
    cases h
  | cons b bs ih =>
    cases r with
    | cons r1 r2 =>
      intro y h
      rcases List.mem_cons.mp h with rfl | h
      · exact ⟨b, r1⟩
      · exact ih r2 y h
theorem count_bl {k : Bool} {bs : List Bool} {its : List Value} (r : Vals (bs.map V.bl) its) : its.countP (isBoolOf k) = bs.count k := by
  induction bs generalizing its with
  | nil =>
    cases r
    rfl
  | cons b bs ih =>
    cases r with
    | @cons _ v _ _ r1 r2 =>
      have e : v = Value.bool b := r1
      subst e
      rw [List.countP_cons, List.count_cons, ih r2]
      rfl
theorem mt_lcountB : MtR X "list.count" (rCntB X.K) := by
  intro pins s σ H x xs v us Q I rx rxs h
  obtain ⟨p, bs, k, rfl, rfl, hs, q⟩ := h
  cases rx
  obtain ⟨u, rfl, ru⟩ := rxs.one
  obtain rfl : u = Value.bool k := ru
  obtain ⟨its, rv, ⟨⟨cls, dd, data, sl⟩, n, ho, hc, hdn, hd⟩, hlen⟩ := I.list hs
  simp only at hc hd
  subst hc hd
  refine call_meets PySem.F.slot_list_count ⟨_, ho, rfl⟩ PySem.F.entry_list_count (PySem.F.args_list_count_2 _ _)
    (SeqAt.list_countAt p its.toArray n dd sl (.bool k) (isBoolOf k)) ⟨ho, fun y hy => ?_, ?_⟩
  · obtain ⟨b, rfl⟩ := mem_bl rv y (by simpa using hy)
    exact EqAt.bool_bool b k
  have ec : its.toArray.toList.countP (isBoolOf k) = bs.count k := count_bl rv
  refine ⟨.int (bs.count k : Nat), H, I.tok _, ⟨s.toks, ?_⟩, q⟩
  show Value.int ((its.toArray.toList.countP (isBoolOf k) : Nat) : Int) s.toks = Value.int ((bs.count k : Nat) : Int) s.toks
  rw [ec]
end
end RL
namespace RL
open PySem L2 PySem.Spec PyProof.Rows
theorem mt_lcountBK {X : Cx} {K : PySem.W.Frag} (hK : X.K = K := by rfl) : MtR X "list.count" (rCntB K) := by
  subst hK
  exact mt_lcountB
theorem mt_indexDK {X : Cx} {K : PySem.W.Frag} (hu : X.A.units + 65 < cLine) (hK : X.K = K := by rfl) : MtR X "list.index" (rIndexD K) := by
  subst hK
  exact mt_indexD hu
end RL

set_option maxHeartbeats 2000000
namespace RL
open PySem L2 PySem.Spec PyProof.Rows
structure TxF (mg : Str → Option Value) (c : Nat → Addr) : Prop where
  m0 : mg "NotAPattern" = some (.ref (c 0))
  m1 : mg "NotARun" = some (.ref (c 1))
  m2 : mg "InvalidResistance" = some (.ref (c 2))
  m3 : mg "InvalidCount" = some (.ref (c 3))
  m4 : mg "InvalidText" = some (.ref (c 4))
  m5 : mg "InvalidName" = some (.ref (c 5))
  m6 : mg "InvalidClaim" = some (.ref (c 6))
  m7 : mg "InvalidIndex" = some (.ref (c 7))
  m8 : mg "InvalidDeeds" = some (.ref (c 8))
  m9 : mg "UnknownName" = some (.ref (c 9))
  m10 : mg "InUse" = some (.ref (c 10))
  m11 : mg "TooMany" = some (.ref (c 11))
  m12 : mg "Broken" = some (.ref (c 12))
  m13 : mg "NoLimit" = some (.ref (c 13))
  m14 : mg "NothingToUndo" = some (.ref (c 14))
  m15 : mg "WrongValue" = some (.ref (c 15))
  m16 : mg "WrongName" = some (.ref (c 16))
  m17 : mg "NoAnswer" = some (.ref (c 17))
def IsRowF (K : PySem.W.Frag) (c : Nat → Addr) (C : Addr) (b : Nat → Bool) : Prop := ∀ j, j < 18 → PySem.W.kitOne K (.ref C) (.ref (c j)) = some (b j)
def fnF (b : Nat → Bool) (k n : Nat) : List V := (List.range n).map fun j => V.bl (b (k + j))
def fldF (j : Nat) : Str := if j < 8 ∨ j = 9 then "given" else if j = 11 then "most" else "index"
def wordsF : List Str := ["NotAPattern", "NotARun", "InvalidResistance", "InvalidCount", "InvalidText", "InvalidName", "InvalidClaim", "InvalidIndex", "InvalidDeeds", "UnknownName", "InUse", "TooMany", "Broken", "NoLimit", "NothingToUndo"]
def wordF (j : Nat) : Str := wordsF.getD j ""
structure EF (K : PySem.W.Frag) (c : Nat → Addr) (C : Addr) (j : Nat) : Prop where
  xc : XC K C
  row : IsRowF K c C (tbF j)
  any : PySem.W.exmAny K (.ref C) [.ref (c 15), .ref (c 16), .ref (c 17)] = some true
  lt : j < 13
  no : PySem.W.findIn K (.ref C) (fldF j) = some none
def spErr (K : PySem.W.Frag) (c : Nat → Addr) : Addr × Obj → Sp := fun p vs H Q _ => ∃ (C : Addr) (j : Nat) (dx : Addr) (v : V) (e : PyData), vs = [.ref p.1] ∧ EF K c C j ∧ Px p C H ∧ p.2.dict = some dx ∧ H dx = some (.xd [(fldF j, v)]) ∧
  Dq K H v e ∧ e.showable = true ∧ e.depth ≤ 40 ∧ e.shown.length ≤ sizeLine ∧ ∀ H' t, Same H H' → H' t = some (.tup [.str (wordF j), .str e.shown]) → Q (.ref t) H'
theorem split_words : Txt.split (("NotAPattern NotARun InvalidResistance InvalidCount InvalidText InvalidName InvalidClaim InvalidIndex" : Str) ++ (" InvalidDeeds UnknownName InUse TooMany Broken NoLimit NothingToUndo" : Str)) " " = wordsF := by decide +kernel
theorem wordF_at {j : Nat} (h : j < 13) : (wordsF.map V.str)[j]? = some (.str (wordF j)) := by
  have hl : j < wordsF.length := Nat.lt_of_lt_of_le h (by decide)
  rw [List.getElem?_map, List.getElem?_eq_getElem hl]
  unfold wordF
  rw [List.getD_eq_getElem?_getD, List.getElem?_eq_getElem hl]
  rfl
def rowF (j k n : Nat) : List Bool := (List.range n).map fun i => tbF j (k + i)
theorem fnF_bl {j k n : Nat} : fnF (tbF j) k n = (rowF j k n).map V.bl := by
  unfold fnF rowF
  rw [List.map_map]
  rfl
theorem rowF_count : ∀ j, j < 13 → (rowF j 0 15).count true = 1 := by decide +kernel
theorem rowF_first : ∀ j, j < 13 → (rowF j 0 15)[j]? = some true ∧ ∀ m, m < j → (rowF j 0 15)[m]? = some false := by decide +kernel
theorem rowF_base : ∀ j, j < 13 → rowF j 15 3 = [decide ((j : Int) < 9), decide ((8 : Int) < j ∧ (j : Int) < 11), decide ((j : Int) > 10)] := by decide +kernel
theorem dp_bls {K : PySem.W.Frag} {H : Hp} : ∀ bs : List Bool, DpAll K H (bs.map V.bl) (bs.map PyData.bool)
  | [] => .nil
  | b :: bs => .cons (.bl b) (dp_bls bs)
theorem rowF_sh : ∀ j, j < 13 → SeqAt.shaped (.list ((rowF j 0 15).map PyData.bool)) = true ∧ SeqAt.shaped (.list ((rowF j 15 3).map PyData.bool)) = true := by decide +kernel
theorem pnF {CX : CXT} {P : Program} {w : World} {K : PySem.W.Frag} {mg : Str → Option Value} {base : Heap} {N : List Str} {qual : Str} {scope : Scope} {f : Addr} {cd : Value} {A : Around} {outer : List Env} {s : Shared} {H : Hp} {E : XK} {p : Addr × Obj} :
    p ∈ (L2H.cxH CX P w K mg base N qual scope f cd A outer s H E p).pn := List.mem_cons_self
section
variable {P : Program} {w : World} {K : PySem.W.Frag} {mg : Str → Option Value} {base : Heap} {c : Nat → Addr}
theorem sc_law_error : FnScope ["_law_e", "_law_words", "_law_sorts", "_law_bases", "_law_at"] ["_law_e"] (defScope s_law_error) := ⟨rfl, rfl, rfl, by decide +kernel, rfl, by decide +kernel, by decide +kernel⟩

theorem ok_errF {f : Addr} {fd : FuncData} (F : Fun K "_law_error" "_law_error" s_law_error f fd) (T : Txt K mg) (TE : TxF mg c) (Z : XK0 K) : FnF P w K mg base 2 f fd ["_law_e"] (spErr K c) := by
  refine okF F sc_law_error (fun p vs H Q E h => ?_) (fun cdv A outer s H vs Q p hot hr h => ?_)
  · obtain ⟨C, j, dx, v, e, rfl, _⟩ := h
    rfl
  · obtain ⟨C, j, dx, v, e, rfl, ec, px, hdx, hd, hq, q1, q2, q3, k⟩ := h
    obtain ⟨hgd, hot⟩ := hot
    have hgS : (A.deeper (envOfC "_law_error" (defScope s_law_error) s.heap.objs.size f cdv)).guards = some [] := hgd
    have huS : (A.deeper (envOfC "_law_error" (defScope s_law_error) s.heap.objs.size f cdv)).units + 64 < cLine := by
      have := hr.un
      omega
    have hu5 : (A.deeper (envOfC "_law_error" (defScope s_law_error) s.heap.objs.size f cdv)).units + 65 < cLine := by
      have := hr.un
      omega
    refine ⟨_, (C8.pss_cut (ps_set (i := 1) sc_law_error.nd rfl (.inl rfl) pe_str)
      (C8.pss_cut (ps_set (i := 1) sc_law_error.nd rfl (.inl rfl) (pe_split (pe_op op_add_str (pv 1) pe_str) pe_str))
      (C8.pss_cut (ps_set (i := 2) sc_law_error.nd rfl (.inl rfl) (pe_lst (pa_cons (pe_callB (call_isP Z pnF) (by rfl) T.isinstance (by decide +kernel) (pa_cons (pv 0) (pa_cons (pe_glob (v := .ref (c 0)) rfl TE.m0 rfl) pa_nil))) (pa_cons (pe_callB (call_isP Z pnF) (by rfl) T.isinstance (by decide +kernel) (pa_cons (pv 0) (pa_cons (pe_glob (v := .ref (c 1)) rfl TE.m1 rfl) pa_nil))) (pa_cons (pe_callB (call_isP Z pnF) (by rfl) T.isinstance (by decide +kernel) (pa_cons (pv 0) (pa_cons (pe_glob (v := .ref (c 2)) rfl TE.m2 rfl) pa_nil))) pa_nil)))))
      (C8.pss_cut (ps_set (i := 2) sc_law_error.nd rfl (.inl rfl) (pe_op op_cat (pv 2) (pe_lst (pa_cons (pe_callB (call_isP Z pnF) (by rfl) T.isinstance (by decide +kernel) (pa_cons (pv 0) (pa_cons (pe_glob (v := .ref (c 3)) rfl TE.m3 rfl) pa_nil))) (pa_cons (pe_callB (call_isP Z pnF) (by rfl) T.isinstance (by decide +kernel) (pa_cons (pv 0) (pa_cons (pe_glob (v := .ref (c 4)) rfl TE.m4 rfl) pa_nil))) (pa_cons (pe_callB (call_isP Z pnF) (by rfl) T.isinstance (by decide +kernel) (pa_cons (pv 0) (pa_cons (pe_glob (v := .ref (c 5)) rfl TE.m5 rfl) pa_nil))) pa_nil))))))
      (C8.pss_cut (ps_set (i := 2) sc_law_error.nd rfl (.inl rfl) (pe_op op_cat (pv 2) (pe_lst (pa_cons (pe_callB (call_isP Z pnF) (by rfl) T.isinstance (by decide +kernel) (pa_cons (pv 0) (pa_cons (pe_glob (v := .ref (c 6)) rfl TE.m6 rfl) pa_nil))) (pa_cons (pe_callB (call_isP Z pnF) (by rfl) T.isinstance (by decide +kernel) (pa_cons (pv 0) (pa_cons (pe_glob (v := .ref (c 7)) rfl TE.m7 rfl) pa_nil))) (pa_cons (pe_callB (call_isP Z pnF) (by rfl) T.isinstance (by decide +kernel) (pa_cons (pv 0) (pa_cons (pe_glob (v := .ref (c 8)) rfl TE.m8 rfl) pa_nil))) pa_nil))))))
      (C8.pss_cut (ps_set (i := 2) sc_law_error.nd rfl (.inl rfl) (pe_op op_cat (pv 2) (pe_lst (pa_cons (pe_callB (call_isP Z pnF) (by rfl) T.isinstance (by decide +kernel) (pa_cons (pv 0) (pa_cons (pe_glob (v := .ref (c 9)) rfl TE.m9 rfl) pa_nil))) (pa_cons (pe_callB (call_isP Z pnF) (by rfl) T.isinstance (by decide +kernel) (pa_cons (pv 0) (pa_cons (pe_glob (v := .ref (c 10)) rfl TE.m10 rfl) pa_nil))) (pa_cons (pe_callB (call_isP Z pnF) (by rfl) T.isinstance (by decide +kernel) (pa_cons (pv 0) (pa_cons (pe_glob (v := .ref (c 11)) rfl TE.m11 rfl) pa_nil))) pa_nil))))))
      (C8.pss_cut (ps_set (i := 2) sc_law_error.nd rfl (.inl rfl) (pe_op op_cat (pv 2) (pe_lst (pa_cons (pe_callB (call_isP Z pnF) (by rfl) T.isinstance (by decide +kernel) (pa_cons (pv 0) (pa_cons (pe_glob (v := .ref (c 12)) rfl TE.m12 rfl) pa_nil))) (pa_cons (pe_callB (call_isP Z pnF) (by rfl) T.isinstance (by decide +kernel) (pa_cons (pv 0) (pa_cons (pe_glob (v := .ref (c 13)) rfl TE.m13 rfl) pa_nil))) (pa_cons (pe_callB (call_isP Z pnF) (by rfl) T.isinstance (by decide +kernel) (pa_cons (pv 0) (pa_cons (pe_glob (v := .ref (c 14)) rfl TE.m14 rfl) pa_nil))) pa_nil))))))
      (C8.pss_cut (ps_set (i := 3) sc_law_error.nd rfl (.inl rfl) (pe_lst (pa_cons (pe_callB (call_isP Z pnF) (by rfl) T.isinstance (by decide +kernel) (pa_cons (pv 0) (pa_cons (pe_glob (v := .ref (c 15)) rfl TE.m15 rfl) pa_nil))) (pa_cons (pe_callB (call_isP Z pnF) (by rfl) T.isinstance (by decide +kernel) (pa_cons (pv 0) (pa_cons (pe_glob (v := .ref (c 16)) rfl TE.m16 rfl) pa_nil))) (pa_cons (pe_callB (call_isP Z pnF) (by rfl) T.isinstance (by decide +kernel) (pa_cons (pv 0) (pa_cons (pe_glob (v := .ref (c 17)) rfl TE.m17 rfl) pa_nil))) pa_nil)))))
      (C8.pss_cut (ps_set (i := 4) sc_law_error.nd rfl (.inl rfl) (pe_ifExp (pt_cmpR op_eq (pe_bm PySem.F.plainAttrs_list PySem.F.slot_list_count PySem.F.type_list_count (mt_lcountBK (K := K)) (pv 2) (pa_cons pe_bl pa_nil)) pe_int (nomark _)) (pe_bm PySem.F.plainAttrs_list PySem.F.slot_list_index PySem.F.type_list_index (mt_indexDK (K := K) hu5) (pv 2) (pa_cons pe_bl pa_nil)) (pe_un un_neg pe_int)))
      (pss_cons (ps_if (PW.pt (pw_or (pt_cmpR op_lt (pv 4) pe_int (nomark _)) (pw_or1 (pt_cmpR (op_neD huS) (pv 3) (pe_lst (pa_cons (pe_cmpR op_lt (pv 4) pe_int (nomark _)) (pa_cons (pe_chain op_lt op_lt pe_int (pv 4) pe_int) (pa_cons (pe_cmpR op_gt (pv 4) pe_int (nomark _)) pa_nil)))) (nomark _))))) (pss_one (ps_ret (pe_tup (pa_cons pe_str (pa_cons (pe_callB (cr_rpK (K := K) hgS huS) (by rfl) T.repr (by decide +kernel) (pa_cons (pv 2) pa_nil)) pa_nil))))) pss_nil)
      (pss_cons (ps_if (PW.pt (pw_or (pt_cmpR op_lt (pv 4) pe_int (nomark _)) (pw_or1 (pt_cmpR op_eq (pv 4) pe_int (nomark _))))) (pss_one (ps_ret (pe_tup (pa_cons (pe_ix (r := rIxL K) ix_list (pv 1) (pv 4) (fun _ _ => rfl)) (pa_cons (pe_callB (cr_rpK (K := K) hgS huS) (by rfl) T.repr (by decide +kernel) (pa_cons (pe_pfdK (K := K) pnF (pv 0)) pa_nil)) pa_nil))))) pss_nil)
      (pss_cons (ps_if (pt_cmpR (op_inD hu5) (pv 4) (pe_lst (pa_cons pe_int (pa_cons pe_int (pa_cons pe_int pa_nil)))) (by rfl)) (pss_one (ps_ret (pe_tup (pa_cons (pe_ix (r := rIxL K) ix_list (pv 1) (pv 4) (fun _ _ => rfl)) (pa_cons (pe_callB (cr_rpK (K := K) hgS huS) (by rfl) T.repr (by decide +kernel) (pa_cons (pe_pfdK (K := K) pnF (pv 0)) pa_nil)) pa_nil))))) pss_nil)
      (pss_one (ps_ret (pe_tup (pa_cons (pe_ix (r := rIxL K) ix_list (pv 1) (pv 4) (fun _ _ => rfl)) (pa_cons (pe_ifExp (pt_cmpR op_eq (pv 4) pe_int (nomark _)) (pe_callB (cr_rpK (K := K) hgS huS) (by rfl) T.repr (by decide +kernel) (pa_cons (pe_pfdK (K := K) pnF (pv 0)) pa_nil)) pe_str) pa_nil))))))))))))))))), ?_⟩
    have xc := ec.xc
    have r := fun i (hi : i < 18) => ec.row i hi
    have lj := ec.lt
    have no := ec.no
    refine ⟨fun σ' H' => σ' = [some (.ref p.1), some (.str "NotAPattern NotARun InvalidResistance InvalidCount InvalidText InvalidName InvalidClaim InvalidIndex"), none, none, none] ∧ Same H H', ⟨rfl, Same.refl _⟩, ?_⟩
    rintro σ1 H1 ⟨rfl, s0⟩
    refine ⟨fun σ' H' => ∃ l, σ' = [some (.ref p.1), some (.ref l), none, none, none] ∧ Same H H' ∧ H' l = some (.lst (wordsF.map V.str)), ?_, ?_⟩
    · refine ⟨_, rfl, _, _, rfl, rfl, (by decide +kernel), ⟨_, rfl⟩, _, _, rfl, rfl, (by decide +kernel), (by decide +kernel), fun q nq => ?_⟩
      rw [split_words]
      exact ⟨q, rfl, s0.trans (same_upd nq), upd_same⟩
    rintro σ1 H1 ⟨l, rfl, s1, hl⟩
    have e1 := px.same s1
    refine ⟨fun σ' H' => ∃ q, σ' = [some (.ref p.1), some (.ref l), some (.ref q), none, none] ∧ Same H H' ∧ H' l = some (.lst (wordsF.map V.str)) ∧ H' q = some (.lst (fnF (tbF j) 0 3)), ?_, ?_⟩
    · refine ⟨_, rfl, C, _, _, _, rfl, .own _, xc, e1, r 0 (by decide), _, rfl, C, _, _, _, rfl, .own _, xc, e1, r 1 (by decide), _, rfl, C, _, _, _, rfl, .own _, xc, e1, r 2 (by decide), (by show 3 ≤ sizeLine; decide), fun q o => ?_⟩
      exact ⟨q, rfl, s1.trans (same_upd o), same_upd o _ _ hl, upd_same⟩
    clear s1 hl e1
    rintro σ1 H1 ⟨q, rfl, s1, hl, l1⟩
    have e1 := px.same s1
    refine ⟨fun σ' H' => ∃ q, σ' = [some (.ref p.1), some (.ref l), some (.ref q), none, none] ∧ Same H H' ∧ H' l = some (.lst (wordsF.map V.str)) ∧ H' q = some (.lst (fnF (tbF j) 0 6)), ?_, ?_⟩
    · refine ⟨_, rfl, _, rfl, C, _, _, _, rfl, .own _, xc, e1, r 3 (by decide), _, rfl, C, _, _, _, rfl, .own _, xc, e1, r 4 (by decide), _, rfl, C, _, _, _, rfl, .own _, xc, e1, r 5 (by decide), (by show 3 ≤ sizeLine; decide), fun q' np => ⟨q, q', _, _, rfl, rfl, same_upd np _ _ l1, upd_same, (by show 6 ≤ sizeLine; decide), fun z nz => ?_⟩⟩
      exact ⟨z, rfl, (s1.trans (same_upd np)).trans (same_upd nz), same_upd nz _ _ (same_upd np _ _ hl), upd_same⟩
    clear s1 hl e1
    rintro σ1 H1 ⟨q, rfl, s1, hl, l1⟩
    have e1 := px.same s1
    refine ⟨fun σ' H' => ∃ q, σ' = [some (.ref p.1), some (.ref l), some (.ref q), none, none] ∧ Same H H' ∧ H' l = some (.lst (wordsF.map V.str)) ∧ H' q = some (.lst (fnF (tbF j) 0 9)), ?_, ?_⟩
    · refine ⟨_, rfl, _, rfl, C, _, _, _, rfl, .own _, xc, e1, r 6 (by decide), _, rfl, C, _, _, _, rfl, .own _, xc, e1, r 7 (by decide), _, rfl, C, _, _, _, rfl, .own _, xc, e1, r 8 (by decide), (by show 3 ≤ sizeLine; decide), fun q' np => ⟨q, q', _, _, rfl, rfl, same_upd np _ _ l1, upd_same, (by show 9 ≤ sizeLine; decide), fun z nz => ?_⟩⟩
      exact ⟨z, rfl, (s1.trans (same_upd np)).trans (same_upd nz), same_upd nz _ _ (same_upd np _ _ hl), upd_same⟩
    clear s1 hl e1
    rintro σ1 H1 ⟨q, rfl, s1, hl, l1⟩
    have e1 := px.same s1
    refine ⟨fun σ' H' => ∃ q, σ' = [some (.ref p.1), some (.ref l), some (.ref q), none, none] ∧ Same H H' ∧ H' l = some (.lst (wordsF.map V.str)) ∧ H' q = some (.lst (fnF (tbF j) 0 12)), ?_, ?_⟩
    · refine ⟨_, rfl, _, rfl, C, _, _, _, rfl, .own _, xc, e1, r 9 (by decide), _, rfl, C, _, _, _, rfl, .own _, xc, e1, r 10 (by decide), _, rfl, C, _, _, _, rfl, .own _, xc, e1, r 11 (by decide), (by show 3 ≤ sizeLine; decide), fun q' np => ⟨q, q', _, _, rfl, rfl, same_upd np _ _ l1, upd_same, (by show 12 ≤ sizeLine; decide), fun z nz => ?_⟩⟩
      exact ⟨z, rfl, (s1.trans (same_upd np)).trans (same_upd nz), same_upd nz _ _ (same_upd np _ _ hl), upd_same⟩
    clear s1 hl e1
    rintro σ1 H1 ⟨q, rfl, s1, hl, l1⟩
    have e1 := px.same s1
    refine ⟨fun σ' H' => ∃ q, σ' = [some (.ref p.1), some (.ref l), some (.ref q), none, none] ∧ Same H H' ∧ H' l = some (.lst (wordsF.map V.str)) ∧ H' q = some (.lst (fnF (tbF j) 0 15)), ?_, ?_⟩
    · refine ⟨_, rfl, _, rfl, C, _, _, _, rfl, .own _, xc, e1, r 12 (by decide), _, rfl, C, _, _, _, rfl, .own _, xc, e1, r 13 (by decide), _, rfl, C, _, _, _, rfl, .own _, xc, e1, r 14 (by decide), (by show 3 ≤ sizeLine; decide), fun q' np => ⟨q, q', _, _, rfl, rfl, same_upd np _ _ l1, upd_same, (by show 15 ≤ sizeLine; decide), fun z nz => ?_⟩⟩
      exact ⟨z, rfl, (s1.trans (same_upd np)).trans (same_upd nz), same_upd nz _ _ (same_upd np _ _ hl), upd_same⟩
    clear s1 hl e1
    rintro σ1 H1 ⟨q, rfl, s1, hl, l1⟩
    have e1 := px.same s1
    refine ⟨fun σ' H' => ∃ z, σ' = [some (.ref p.1), some (.ref l), some (.ref q), some (.ref z), none] ∧ Same H H' ∧ H' l = some (.lst (wordsF.map V.str)) ∧ H' q = some (.lst (fnF (tbF j) 0 15)) ∧ H' z = some (.lst (fnF (tbF j) 15 3)), ?_, ?_⟩
    · refine ⟨_, rfl, C, _, _, _, rfl, .own _, xc, e1, r 15 (by decide), _, rfl, C, _, _, _, rfl, .own _, xc, e1, r 16 (by decide), _, rfl, C, _, _, _, rfl, .own _, xc, e1, r 17 (by decide), (by show 3 ≤ sizeLine; decide), fun z o => ?_⟩
      exact ⟨z, rfl, s1.trans (same_upd o), same_upd o _ _ hl, same_upd o _ _ l1, upd_same⟩
    clear s1 hl e1 l1
    rintro σ1 H1 ⟨z, rfl, s1, hl, l1, l2⟩
    rw [fnF_bl] at l1 l2
    obtain ⟨f1, f2⟩ := rowF_first j lj
    have dq : Dp K H1 (.ref q) (.list ((rowF j 0 15).map PyData.bool)) := .lst (SqL.of l1) (dp_bls _)
    have dz : Dp K H1 (.ref z) (.list ((rowF j 15 3).map PyData.bool)) := .lst (SqL.of l2) (dp_bls _)
    obtain ⟨sh1, sh2⟩ := rowF_sh j lj
    refine ⟨fun σ' H' => σ' = [some (.ref p.1), some (.ref l), some (.ref q), some (.ref z), some (.int (j : Int))] ∧ H' = H1, ?_, ?_⟩
    · refine ⟨_, rfl, .inl ⟨rfl, _, SqL.of l1⟩, q, _, true, rfl, rfl, SqL.of l1, ?_⟩
      rw [rowF_count j lj]
      refine ⟨rfl, _, rfl, iteT ?_⟩
      refine ⟨_, rfl, .inl ⟨rfl, _, SqL.of l1⟩, q, .bl true, .bool true, _, j, .bool true, rfl, rfl, dq, .bl true, sh1, (by decide), (by rw [List.getElem?_map, f1]; rfl), (by decide), fun m z' hm hz => ?_, ?_⟩
      · rw [List.getElem?_map, f2 m hm] at hz
        cases hz
        decide
      · exact ⟨rfl, rfl⟩
    rintro σ1 H2 ⟨rfl, rfl⟩
    have e2 := px.same s1
    have hd2 := s1 _ _ hd
    have hq2 := hq.same s1
    have hjw := wordF_at lj
    refine ⟨_, rfl, _, _, rfl, rfl, _, rfl, ite2 (fun e => ?_) (fun e => ?_)⟩
    · exact absurd (of_decide_eq_true e : (j : Int) < 0) (by omega)
    clear e
    refine ⟨_, rfl, _, rfl, _, _, rfl, rfl, _, rfl, _, _, rfl, rfl, _, rfl, ?_⟩
    have fin : ∀ {H3 : Hp} {bb : Bool} {y : Addr}, H2 y = none → bb = decide ((8 : Int) < j ∧ (j : Int) < 11) → H3 = upd H2 y (.lst [.bl (decide ((j : Int) < 9)), .bl bb, .bl (decide ((j : Int) > 10))]) →
        Same H H3 ∧ H3 l = some (.lst (wordsF.map V.str)) ∧ Dp K H3 (.ref z) (.list ((rowF j 15 3).map PyData.bool)) ∧ Dp K H3 (.ref y) (.list ((rowF j 15 3).map PyData.bool)) := fun {H3 bb y} ny hb h3 => by
      subst h3
      have sy := same_upd (o := .lst [.bl (decide ((j : Int) < 9)), .bl bb, .bl (decide ((j : Int) > 10))]) ny
      refine ⟨s1.trans sy, sy _ _ hl, .lst (SqL.of (sy _ _ l2)) (dp_bls _), ?_⟩
      have e : ([.bl (decide ((j : Int) < 9)), .bl bb, .bl (decide ((j : Int) > 10))] : List V) = (rowF j 15 3).map V.bl := by
        rw [rowF_base j lj, hb]
        rfl
      rw [e]
      exact .lst (SqL.of upd_same) (dp_bls _)
    have neq : (!PyData.eqv (.list ((rowF j 15 3).map PyData.bool)) (.list ((rowF j 15 3).map PyData.bool))) = false := by
      rw [SeqAt.eqv_refl _ (SeqAt.canLay_of_shaped sh2)]
      rfl
    have given : (j < 8 ∨ j = 9) → fldF j = Str.ofString "given" := fun z => if_pos z
    refine ite2 (fun h8 => ?_) (fun h8 => ?_)
    · refine ⟨_, _, rfl, rfl, _, rfl, _, _, rfl, rfl, (by show 3 ≤ sizeLine; decide), fun y ny => ?_⟩
      obtain ⟨s3, hl3, d1, d2⟩ := fin ny (show decide ((j : Int) < 11) = _ by rw [decide_eq_decide]; exact ⟨fun a => ⟨of_decide_eq_true h8, a⟩, fun a => a.2⟩) rfl
      refine ⟨_, _, d1, d2, sh2, sh2, ?_⟩
      rw [neq]
      refine ⟨_, rfl, iteF ?_⟩
      have hd3 := s3 _ _ hd
      have hq3 := hq.same s3
      have hx3 : atI (wordsF.map V.str) (j : Int) = some (V.str (wordF j)) := atI_nat hjw
      refine ⟨_, rfl, _, _, rfl, rfl, _, rfl, ite2 (fun e8 => iteT ?_) (fun e8 => ⟨_, rfl, rfl, _, rfl, ite2 (fun e9 => ?_) (fun e9 => ?_)⟩)⟩
      · have ef := given (.inl (by have := (of_decide_eq_true e8 : (j : Int) < 8); omega))
        rw [ef] at hd3 no
        refine ⟨_, rfl, _, rfl, l, _, _, _, rfl, rfl, SqL.of hl3, hx3, _, rfl, C, dx, _, v, rfl, xc, no, px.1, px.2.1, hdx, hd3, rfl, v, e, rfl, hq3, q1, q2, q3, (by show 2 ≤ sizeLine; decide), fun t nt => ?_⟩
        exact k _ t (s3.trans (same_upd nt)) upd_same
      · have ef := given (.inr (by have := V.int.inj (of_decide_eq_true e9); omega))
        rw [ef] at hd3 no
        refine ⟨_, rfl, _, rfl, l, _, _, _, rfl, rfl, SqL.of hl3, hx3, _, rfl, C, dx, _, v, rfl, xc, no, px.1, px.2.1, hdx, hd3, rfl, v, e, rfl, hq3, q1, q2, q3, (by show 2 ≤ sizeLine; decide), fun t nt => ?_⟩
        exact k _ t (s3.trans (same_upd nt)) upd_same
      have y8 : ¬ (j : Int) < 8 := fun z => e8 (decide_eq_true z)
      have y9 : ¬ (j : Int) = 9 := fun z => e9 (decide_eq_true (congrArg V.int z))
      have nb : ¬ (j < 8 ∨ j = 9) := by omega
      refine ⟨_, rfl, (by show 3 ≤ sizeLine; decide), fun y' ny' => ?_⟩
      have sy := same_upd (o := .lst [.int 8, .int 10, .int 12]) ny'
      refine ⟨.int (j : Int), [.int 8, .int 10, .int 12], .int _, .lst (SqL.of upd_same) (.cons (.int _) (.cons (.int _) (.cons (.int _) .nil))), rfl, by decide, _, rfl, ite2 (fun e10 => ?_) (fun e10 => ?_)⟩
      · have y11 : ¬ j = 11 := by
          intro z
          subst z
          exact absurd e10 (by decide)
        have ef : fldF j = Str.ofString "index" := by
          unfold fldF
          rw [if_neg nb, if_neg y11]
        rw [ef] at hd3 no
        refine ⟨_, rfl, _, rfl, l, _, _, _, rfl, rfl, SqL.of (sy _ _ hl3), hx3, _, rfl, C, dx, _, v, rfl, xc, no, px.1, px.2.1, hdx, sy _ _ hd3, rfl, v, e, rfl, hq3.same sy, q1, q2, q3, (by show 2 ≤ sizeLine; decide), fun t nt => ?_⟩
        exact k _ t ((s3.trans sy).trans (same_upd nt)) upd_same
      · have y11 : j = 11 := by
          refine Classical.byContradiction fun y11 => e10 ?_
          have : j = 8 ∨ j = 10 ∨ j = 12 := by omega
          rcases this with rfl | rfl | rfl <;> decide
        have ef : fldF j = Str.ofString "most" := by
          unfold fldF
          rw [if_neg nb, if_pos y11]
        rw [ef] at hd3 no
        refine ⟨_, rfl, _, rfl, l, _, _, _, rfl, rfl, SqL.of (sy _ _ hl3), hx3, _, rfl, rfl, _, rfl, ite2 (fun _ => ?_) (fun z => absurd (decide_eq_true (show V.int (j : Int) = V.int 11 by rw [y11]; rfl)) z)⟩
        refine ⟨_, rfl, C, dx, _, v, rfl, xc, no, px.1, px.2.1, hdx, sy _ _ hd3, rfl, v, e, rfl, hq3.same sy, q1, q2, q3, (by show 2 ≤ sizeLine; decide), fun t nt => ?_⟩
        exact k _ t ((s3.trans sy).trans (same_upd nt)) upd_same
    · refine ⟨_, rfl, _, _, rfl, rfl, (by show 3 ≤ sizeLine; decide), fun y ny => ?_⟩
      obtain ⟨s3, hl3, d1, d2⟩ := fin ny (show false = _ from (decide_eq_false fun a => h8 (decide_eq_true a.1)).symm) rfl
      refine ⟨_, _, d1, d2, sh2, sh2, ?_⟩
      rw [neq]
      refine ⟨_, rfl, iteF ?_⟩
      have hd3 := s3 _ _ hd
      have hq3 := hq.same s3
      have hx3 : atI (wordsF.map V.str) (j : Int) = some (V.str (wordF j)) := atI_nat hjw
      refine ⟨_, rfl, _, _, rfl, rfl, _, rfl, ite2 (fun e8 => iteT ?_) (fun e8 => ⟨_, rfl, rfl, _, rfl, ite2 (fun e9 => ?_) (fun e9 => ?_)⟩)⟩
      · have ef := given (.inl (by have := (of_decide_eq_true e8 : (j : Int) < 8); omega))
        rw [ef] at hd3 no
        refine ⟨_, rfl, _, rfl, l, _, _, _, rfl, rfl, SqL.of hl3, hx3, _, rfl, C, dx, _, v, rfl, xc, no, px.1, px.2.1, hdx, hd3, rfl, v, e, rfl, hq3, q1, q2, q3, (by show 2 ≤ sizeLine; decide), fun t nt => ?_⟩
        exact k _ t (s3.trans (same_upd nt)) upd_same
      · have ef := given (.inr (by have := V.int.inj (of_decide_eq_true e9); omega))
        rw [ef] at hd3 no
        refine ⟨_, rfl, _, rfl, l, _, _, _, rfl, rfl, SqL.of hl3, hx3, _, rfl, C, dx, _, v, rfl, xc, no, px.1, px.2.1, hdx, hd3, rfl, v, e, rfl, hq3, q1, q2, q3, (by show 2 ≤ sizeLine; decide), fun t nt => ?_⟩
        exact k _ t (s3.trans (same_upd nt)) upd_same
      have y8 : ¬ (j : Int) < 8 := fun z => e8 (decide_eq_true z)
      have y9 : ¬ (j : Int) = 9 := fun z => e9 (decide_eq_true (congrArg V.int z))
      have nb : ¬ (j < 8 ∨ j = 9) := by omega
      refine ⟨_, rfl, (by show 3 ≤ sizeLine; decide), fun y' ny' => ?_⟩
      have sy := same_upd (o := .lst [.int 8, .int 10, .int 12]) ny'
      refine ⟨.int (j : Int), [.int 8, .int 10, .int 12], .int _, .lst (SqL.of upd_same) (.cons (.int _) (.cons (.int _) (.cons (.int _) .nil))), rfl, by decide, _, rfl, ite2 (fun e10 => ?_) (fun e10 => ?_)⟩
      · have y11 : ¬ j = 11 := by
          intro z
          subst z
          exact absurd e10 (by decide)
        have ef : fldF j = Str.ofString "index" := by
          unfold fldF
          rw [if_neg nb, if_neg y11]
        rw [ef] at hd3 no
        refine ⟨_, rfl, _, rfl, l, _, _, _, rfl, rfl, SqL.of (sy _ _ hl3), hx3, _, rfl, C, dx, _, v, rfl, xc, no, px.1, px.2.1, hdx, sy _ _ hd3, rfl, v, e, rfl, hq3.same sy, q1, q2, q3, (by show 2 ≤ sizeLine; decide), fun t nt => ?_⟩
        exact k _ t ((s3.trans sy).trans (same_upd nt)) upd_same
      · have y11 : j = 11 := by
          refine Classical.byContradiction fun y11 => e10 ?_
          have : j = 8 ∨ j = 10 ∨ j = 12 := by omega
          rcases this with rfl | rfl | rfl <;> decide
        have ef : fldF j = Str.ofString "most" := by
          unfold fldF
          rw [if_neg nb, if_pos y11]
        rw [ef] at hd3 no
        refine ⟨_, rfl, _, rfl, l, _, _, _, rfl, rfl, SqL.of (sy _ _ hl3), hx3, _, rfl, rfl, _, rfl, ite2 (fun _ => ?_) (fun z => absurd (decide_eq_true (show V.int (j : Int) = V.int 11 by rw [y11]; rfl)) z)⟩
        refine ⟨_, rfl, C, dx, _, v, rfl, xc, no, px.1, px.2.1, hdx, sy _ _ hd3, rfl, v, e, rfl, hq3.same sy, q1, q2, q3, (by show 2 ≤ sizeLine; decide), fun t nt => ?_⟩
        exact k _ t ((s3.trans sy).trans (same_upd nt)) upd_same
end
end RL

set_option maxHeartbeats 2000000
namespace RL
open PySem L2 PySem.Spec PyProof.Rows
def cgtF (K : PySem.W.Frag) (c : Nat → Addr) (Q : VK) : XK := fun cls d H => ∃ (C : Addr) (j : Nat) (dx : Addr) (v : V) (e : PyData), cls = .ref C ∧ EF K c C j ∧ d = some dx ∧ H dx = some (.xd [(fldF j, v)]) ∧
  Dq K H v e ∧ e.showable = true ∧ e.depth ≤ 40 ∧ e.shown.length ≤ sizeLine ∧ ∀ H' t, Same H H' → H' t = some (.tup [.str (wordF j), .str e.shown]) → Q (.ref t) H'
def TTf (K : PySem.W.Frag) (c : Nat → Addr) (rR : List V → Hp → VK → Prop) : (XK → Hp → VK → Prop) → Hp → VK → Prop := fun tl H Q =>
  tl (cgtF K c Q) H fun v H2 => rR [v] H2 fun r H3 => [V.str (Str.ofString "told"), r].length ≤ sizeLine ∧ ∀ l, H3 l = none → Q (.ref l) (upd H3 l (.tup [V.str (Str.ofString "told"), r]))
theorem pssF_all {X : Cx} {b : List Stmt} {cls : Value} {d : Option Addr} {t : Obj → TS} (oe : Obj) (hz : L2N.Zn cls d oe) (hf : ∃ vs, oe.data = .fields vs) (h : PSs X b (t oe)) : PSs X b (fun D σ H => ∀ oe, L2N.Zn cls d oe → (∃ vs, oe.data = .fields vs) → t oe D σ H) :=
  ⟨fun pins s σ H D I q => h.run pins s σ H D I (q oe hz hf)⟩
def tVarD (i : Nat) : TE := fun σ H Q => match σ[i]? with
  | some (some v) => Q v H
  | _ => False
theorem pe_varD {X : Cx} {e : Expr} {i : Nat} (h : PE X e (tVar i)) : PE X e (tVarD i) := ⟨fun pins s σ H Q I q => h.run pins s σ H Q I (by
  unfold tVarD at q
  split at q
  · rename_i v hv
    exact ⟨v, hv, q⟩
  · exact q.elim)⟩
theorem sc_law_told : FnScope ["_law_act", "_law_found", "_law_e"] ["_law_act"] (defScope s_law_told) := ⟨rfl, rfl, rfl, by decide +kernel, rfl, by decide +kernel, by decide +kernel⟩

structure ToldD (P : Program) (w : World) (K : PySem.W.Frag) (mg : Str → Option Value) (base : Heap) (c : Nat → Addr) (kr : Nat) (rR : List V → Hp → VK → Prop) : Prop where
  T : Txt K mg
  TE : TxF mg c
  ex : ∃ (g : Addr) (fd : FuncData), Fun K "_law_told" "_law_told" s_law_told g fd ∧ mg "_law_told" = some (.ref g)
  err : DfF P w K mg base 2 "_law_error" ["_law_e"] (spErr K c)
  rp : ∀ X : Cx, X.prog = P → X.w = w → X.K = K → X.mg = mg → X.base = base → X.A.guards = some [] → Room kr X.A → CallR X (.builtin "repr") rR
theorem hot_of {A : Around} {a : Addr} {cls : Value} {d : Option Addr} {oe : Obj} (hg : A.guards = some []) (hz : L2N.Zn cls d oe) (hf : ∃ vs, oe.data = .fields vs) : (A.mark (some (.ref a))).guards = some [] ∧ L2H.Hot1 (A.mark (some (.ref a))) (a, oe) := by
  obtain ⟨vs, hv⟩ := hf
  exact ⟨hg, rfl, vs, hv, hz.2.2 vs hv⟩
section
variable {X : Cx} {c : Nat → Addr} {kr : Nat} {rR : List V → Hp → VK → Prop}
theorem told_gives {k : Nat} {q : Str} {g : Addr} {cdg : Value} (CG : ToldD X.prog X.w X.K X.mg X.base c kr rR) (hgd : X.A.guards = some []) (hk : kr ≤ k + 1) (hk1 : 1 ≤ k) :
    GivesN X k ["_law_act", "_law_found", "_law_e"] "_law_told" (defScope s_law_told) g cdg (defBody s_law_told) "_law_act" q (TTf X.K c rR) := by
  intro f c' s H Q tl hr hact hc hT
  have T := CG.T
  have TE := CG.TE
  have D_law_error := CG.err
  have hgS : (X.A.deeper (envOfC "_law_told" (defScope s_law_told) s.heap.objs.size g cdg)).guards = some [] := hgd
  have hk2 : 2 ≤ k + 1 := by omega
  have sc := sc_law_told
  refine ⟨_, pss_cons (ps_try_as3 (X := (cxOf CX0 X.prog X.w X.K X.mg X.base ["_law_act", "_law_found", "_law_e"] "_law_told" (defScope s_law_told) g cdg X.A X.stack s H E0).nox) (i := 2) (c1 := .ref (c 15)) (c2 := .ref (c 16)) (c3 := .ref (c 17))
    (tb := fun W D σ H => ∃ Ech : XK, σ[0]? = some (some (.ref f)) ∧ H c' = some (LamX.CodeO c' q) ∧ (∀ cls d H', Ech cls d H' → W cls d σ H') ∧ tl Ech H fun v H2 => D.nx (σ.set 1 (some v)) H2)
    rfl rfl sc.nd rfl rfl ⟨rfl, by decide, .inl TE.m15⟩ ⟨rfl, by decide, .inl TE.m16⟩ ⟨rfl, by decide, .inl TE.m17⟩ (fun W pn xe tk _ => ⟨fun pins s' σ H' D I h => ?_⟩)
    (fun a oe cls d pn hz hf => pssF_all (cls := cls) (d := d) oe hz hf (pss_one (ps_ret (pe_dfF D_law_error (L2H.roomH_mark (hr.mono hk2) (some (.ref a))) (hot_of hgd hz hf) List.mem_cons_self (by rfl) (pa_cons (pv 2) pa_nil))))))
    (pss_one (ps_ret (pe_tup (pa_cons pe_str (pa_cons (pe_callB (CG.rp _ rfl rfl rfl rfl rfl hgS (hr.mono hk)) (by rfl) T.repr (by decide +kernel) (pa_cons (pe_varD (pv 1)) pa_nil)) pa_nil))))), ?_⟩
  · obtain ⟨Ech, h1, h2, h3, h4⟩ := h
    exact (pss_one (ps_set (i := 1) sc.nd rfl (.inl rfl) (hact W pn xe Ech _ _ tk))).run pins s' σ H' D I ⟨h1, h2, h3, h4⟩
  · refine ⟨cgtF X.K c Q, rfl, hc, fun cls d H1 hE => ?_, ?_⟩
    · obtain ⟨C, j, dx, v, e, rfl, ec, rfl, hd, hq, q1, q2, q3, kf⟩ := hE
      refine ⟨ec.any, fun a na oe hz hf => ?_⟩
      exact ⟨_, rfl, C, j, dx, v, e, rfl, ec, ⟨hz.1, hf, .inr ⟨dx, _, hz.2.1, hd⟩⟩, hz.2.1, hd, hq, q1, q2, q3, kf⟩
    · exact hT
theorem pe_told {k : Nat} {T : List (Addr × Str)} {cA PA : Addr} {params : Arguments} {body : Expr} {scope : Scope} {t : XK → TE} {p lpos pos : Pos} (CG : ToldD X.prog X.w X.K X.mg X.base c kr rR) (hgd : X.A.guards = some []) (hk : kr ≤ k + 1) (hk1 : 1 ≤ k)
    (TB : LamX.TabB X.base X.mg cA PA) (hcode : X.env.code = .ref cA) (hmT : (PA, X.env.qual ++ "<lambda>") ∈ T) (hu : ∀ p ∈ T, p.1 = PA → p.2 = X.env.qual ++ "<lambda>") (hr : Room (k + 2) X.A) (hL : LamX.lamSB X.env.scope scope = true)
    (hbody : ∀ (A : Around) (outer : List Env) (s : Shared) (H : Hp) (E : XK) (f c' : Addr), A.guards = some [] → Room k (A.deeper (LamX.lamEnv X scope s.heap.objs.size f c')) → PE (lamN X A outer s H E scope f c') body (t E))
    (hg : Gl X "_law_told" := by rfl) (hdef : defaultsOf params X.env = ([], []) := by rfl) (hbind : ∀ (q : Str) (cl : List (Str × Addr)) (pm cv ctv : Value), bindArgs (PySem.W.kla_fn "<lambda>" q params body scope cl pm cv ctv) ⟨[], []⟩ = pure [] := by intros; rfl) :
    PE X (.Call (.Name "_law_told" p) [.Lambda params body scope lpos] [] pos) (LamX.tLam T (TTf X.K c rR) t) := by
  obtain ⟨g, fd, F, hm⟩ := CG.ex
  obtain ⟨oc, od, kV, doc, pm, an, cdv, ct, osl, rfl, lk, hcd⟩ := F.ex
  have b := F.binds (ps := ["_law_act"]) fun _ _ _ _ _ _ us hl => match us, hl with | [_], _ => rfl
  exact pe_lamN hg hm F.kp lk hcd b sc_law_told rfl (.inl rfl) (told_gives CG hgd hk hk1) TB hcode hmT hu hr (LamX.lamS_by hL) hdef hbind (fun A outer s H E f c' hA hr2 => hbody A outer s H E f c' (hA.trans hgd) hr2)
end
end RL

set_option maxHeartbeats 2000000
namespace RL
open PySem L2 PySem.Spec PyProof.Rows
structure Bi (P : Program) (w : World) (K : PySem.W.Frag) (mg : Str → Option Value) (base : Heap) (x : Str) : Prop where
  ex : ∃ (C g : Addr) (mc : Value) (fd : FuncData), mg x = some (.ref C) ∧ ClX.CRead K C mc ∧ PySem.W.findCls K (.ref C) mc "__init__" = some (.val (.ref g)) ∧ PySem.W.keepIn K (.ref g) = true ∧ FnOk P w K mg base CX0 1 g fd ["self"] spN ∧ Binds K fd ["self"] []
theorem rowBF_ok {K : PySem.W.Frag} {cs : List Addr} {j : Nat} (h : rowBF K cs j = true) : IsRowF K (cF cs) (cF cs j) (tbF j) := fun i hi => of_decide_eq_true (List.all_eq_true.mp h i (List.mem_range.mpr hi))
structure Rz (P : Program) (w : World) (K : PySem.W.Frag) (mg : Str → Option Value) (base : Heap) (c : Nat → Addr) (j : Nat) (f : Str) : Prop where
  m : XM P w K mg base 2 (c j) ["self", f] (spI K f)
  ty : PySem.W.typeIn K (.ref (c j)) = some (.type "type")
  no : PySem.W.findIn K (.ref (c j)) f = some none
section
variable {P : Program} {w : World} {K : PySem.W.Frag} {mg : Str → Option Value} {base : Heap}
theorem sc_WrongValue_init : FnScope ["self"] ["self"] (defScope s_WrongValue_init) := ⟨rfl, rfl, rfl, by decide +kernel, rfl, by decide +kernel, by decide +kernel⟩

theorem ok_WrongValue_init {f : Addr} {fd : FuncData} (F : Fun K "__init__" "WrongValue.__init__" s_WrongValue_init f fd) : FnOk P w K mg base CX0 1 f fd ["self"] spN := by
  refine F.ok sc_WrongValue_init (fun vs H Q E h => ?_) (fun cdv A outer s H vs Q E hr h => ?_)
  · obtain ⟨v, rfl, _⟩ := h
    rfl
  · obtain ⟨v, rfl, k⟩ := h
    exact ⟨_, (pss_one ps_pass), k⟩
theorem sc_WrongName_init : FnScope ["self"] ["self"] (defScope s_WrongName_init) := ⟨rfl, rfl, rfl, by decide +kernel, rfl, by decide +kernel, by decide +kernel⟩

theorem ok_WrongName_init {f : Addr} {fd : FuncData} (F : Fun K "__init__" "WrongName.__init__" s_WrongName_init f fd) : FnOk P w K mg base CX0 1 f fd ["self"] spN := by
  refine F.ok sc_WrongName_init (fun vs H Q E h => ?_) (fun cdv A outer s H vs Q E hr h => ?_)
  · obtain ⟨v, rfl, _⟩ := h
    rfl
  · obtain ⟨v, rfl, k⟩ := h
    exact ⟨_, (pss_one ps_pass), k⟩
theorem sc_NotAPattern_init : FnScope ["self", "given"] ["self", "given"] (defScope s_NotAPattern_init) := ⟨rfl, rfl, rfl, by decide +kernel, rfl, by decide +kernel, by decide +kernel⟩

theorem ok_NotAPattern_init {f : Addr} {fd : FuncData} (F : Fun K "__init__" "NotAPattern.__init__" s_NotAPattern_init f fd) (B : Bi P w K mg base "WrongValue") : FnOk P w K mg base CX0 2 f fd ["self", "given"] (spI K "given") := by
  obtain ⟨Cb, gb, mc, fdb, gC, rd, hf, kp, Fb, hb⟩ := B.ex
  refine F.ok sc_NotAPattern_init (fun vs H Q E h => ?_) (fun cdv A outer s H vs Q E hr h => ?_)
  · obtain ⟨a, C, y, rfl, _⟩ := h
    rfl
  · obtain ⟨a, C, y, rfl, xc, hno, ha, k⟩ := h
    refine ⟨_, (pss_cons (ps_expr (pe_xbase gC (by rfl) rd hf kp Fb (hr.mono (by decide)) hb (pa_cons (pv 0) pa_nil)))
      (pss_one (ps_xst (pv 0) (pv 1)))), ?_⟩
    exact ⟨_, rfl, _, rfl, _, rfl, _, rfl, a, C, rfl, xc, hno, ha, fun dx nd ne => k dx nd ne⟩
theorem ef_0 {cs : List Addr} (x : XC K (cF cs 0)) (r : rowBF K cs 0 = true) (any : PySem.W.exmAny K (.ref (cF cs 0)) [.ref (cF cs 15), .ref (cF cs 16), .ref (cF cs 17)] = some true) (no : PySem.W.findIn K (.ref (cF cs 0)) "given" = some none) : EF K (cF cs) (cF cs 0) 0 :=
  ⟨x, rowBF_ok r, any, by decide, (by rw [show fldF 0 = ("given" : Str) from by decide +kernel]; exact no)⟩
theorem sc_InvalidName_init : FnScope ["self", "given"] ["self", "given"] (defScope s_InvalidName_init) := ⟨rfl, rfl, rfl, by decide +kernel, rfl, by decide +kernel, by decide +kernel⟩

theorem ok_InvalidName_init {f : Addr} {fd : FuncData} (F : Fun K "__init__" "InvalidName.__init__" s_InvalidName_init f fd) (B : Bi P w K mg base "WrongValue") : FnOk P w K mg base CX0 2 f fd ["self", "given"] (spI K "given") := by
  obtain ⟨Cb, gb, mc, fdb, gC, rd, hf, kp, Fb, hb⟩ := B.ex
  refine F.ok sc_InvalidName_init (fun vs H Q E h => ?_) (fun cdv A outer s H vs Q E hr h => ?_)
  · obtain ⟨a, C, y, rfl, _⟩ := h
    rfl
  · obtain ⟨a, C, y, rfl, xc, hno, ha, k⟩ := h
    refine ⟨_, (pss_cons (ps_expr (pe_xbase gC (by rfl) rd hf kp Fb (hr.mono (by decide)) hb (pa_cons (pv 0) pa_nil)))
      (pss_one (ps_xst (pv 0) (pv 1)))), ?_⟩
    exact ⟨_, rfl, _, rfl, _, rfl, _, rfl, a, C, rfl, xc, hno, ha, fun dx nd ne => k dx nd ne⟩
theorem ef_5 {cs : List Addr} (x : XC K (cF cs 5)) (r : rowBF K cs 5 = true) (any : PySem.W.exmAny K (.ref (cF cs 5)) [.ref (cF cs 15), .ref (cF cs 16), .ref (cF cs 17)] = some true) (no : PySem.W.findIn K (.ref (cF cs 5)) "given" = some none) : EF K (cF cs) (cF cs 5) 5 :=
  ⟨x, rowBF_ok r, any, by decide, (by rw [show fldF 5 = ("given" : Str) from by decide +kernel]; exact no)⟩
theorem sc_UnknownName_init : FnScope ["self", "given"] ["self", "given"] (defScope s_UnknownName_init) := ⟨rfl, rfl, rfl, by decide +kernel, rfl, by decide +kernel, by decide +kernel⟩

theorem ok_UnknownName_init {f : Addr} {fd : FuncData} (F : Fun K "__init__" "UnknownName.__init__" s_UnknownName_init f fd) (B : Bi P w K mg base "WrongName") : FnOk P w K mg base CX0 2 f fd ["self", "given"] (spI K "given") := by
  obtain ⟨Cb, gb, mc, fdb, gC, rd, hf, kp, Fb, hb⟩ := B.ex
  refine F.ok sc_UnknownName_init (fun vs H Q E h => ?_) (fun cdv A outer s H vs Q E hr h => ?_)
  · obtain ⟨a, C, y, rfl, _⟩ := h
    rfl
  · obtain ⟨a, C, y, rfl, xc, hno, ha, k⟩ := h
    refine ⟨_, (pss_cons (ps_expr (pe_xbase gC (by rfl) rd hf kp Fb (hr.mono (by decide)) hb (pa_cons (pv 0) pa_nil)))
      (pss_one (ps_xst (pv 0) (pv 1)))), ?_⟩
    exact ⟨_, rfl, _, rfl, _, rfl, _, rfl, a, C, rfl, xc, hno, ha, fun dx nd ne => k dx nd ne⟩
theorem ef_9 {cs : List Addr} (x : XC K (cF cs 9)) (r : rowBF K cs 9 = true) (any : PySem.W.exmAny K (.ref (cF cs 9)) [.ref (cF cs 15), .ref (cF cs 16), .ref (cF cs 17)] = some true) (no : PySem.W.findIn K (.ref (cF cs 9)) "given" = some none) : EF K (cF cs) (cF cs 9) 9 :=
  ⟨x, rowBF_ok r, any, by decide, (by rw [show fldF 9 = ("given" : Str) from by decide +kernel]; exact no)⟩
end
end RL

set_option maxHeartbeats 2000000
/-! a def that may raise, called by two keywords the other way round -/
namespace RL
open PySem L2 PySem.Spec PyProof.Rows
def gSw {α : Type} : List α → List α → List α := fun us ws => match us, ws with | [], [x, y] => [y, x] | _, _ => []
structure DfNK (P : Program) (w : World) (K : PySem.W.Frag) (mg : Str → Option Value) (base : Heap) (k : Nat) (x k1 k2 : Str) (sp : Sp) : Prop where
  ex : ∃ (f : Addr) (fd : FuncData), FnOk P w K mg base (L2N.CX P w) k f fd [k2, k1] sp ∧ mg x = some (.ref f) ∧ PySem.W.keepIn K (.ref f) = true ∧ KBinds K fd [k2, k1] [k1, k2] gSw gSw
def tCallNK (sp : Sp) (E : XK) (tk : TA) : TE := fun σ H Q => tk σ H fun zs H2 => sp (gSw [] zs) H2 Q E
end RL

set_option maxHeartbeats 2000000
/-! The end of a law whose defs make lambdas: the tables of their code objects are tracked; no repr is under way. -/
namespace RL
open PySem L2 PySem.Spec PyProof.Rows
def startH (a : Addr) (sc : Option HO) (ts : List Addr) : Hp := fun b => if b = a then sc else if b ∈ ts then some (.tbl #[]) else none
theorem startH_a {a : Addr} {sc : Option HO} {ts : List Addr} : startH a sc ts a = sc := if_pos rfl
theorem startH_t {a b : Addr} {sc : Option HO} {ts : List Addr} (h : b ∈ ts) (n : b ≠ a) : startH a sc ts b = some (.tbl #[]) := (if_neg n).trans (if_pos h)
theorem startH_n {a b : Addr} {sc : Option HO} {ts : List Addr} (h : b ∉ ts) (n : b ≠ a) : startH a sc ts b = none := (if_neg n).trans (if_neg h)
theorem law_runT {P : Program} {w : World} {K : PySem.W.Frag} {mg mb : Str → Option Value} {k : Nat} {fa a : Addr} {cs : List (Addr × Addr)} {fd : FuncData} {x : Str} {sp : Sp} {s1 : Shared} {vs : List Value} {xs : List V} {sc : Option HO}
    (KX : K.In s1.heap) (hns : s1.heap.Ns mainGlobals mg) (hb : s1.heap.Ns builtinsNs mb) (hbb : ∀ x : Str, x ≠ "__name__" → mb x = bootBuiltins x) (hlim : s1.heap.NoLimit) (hgen : s1.gens = #[])
    (hT : ∀ p ∈ cs, s1.heap.get? p.2 = some { cls := .none, data := .fields #[] }) (nT : ∀ p ∈ cs, K.lookup p.2 = none) (hC : ∀ p ∈ cs, PySem.W.CodeHd s1.heap p.1 p.2)
    (hbm : ∃ (bm : Addr) (ob : Obj), mg "__builtins__" = some (.ref bm) ∧ bm ≠ builtinsNs ∧ s1.heap.get? bm = some ob ∧ ob.cls = .type "module" ∧ ob.dict = some builtinsNs ∧ ob.data = .plain)
    (ha : s1.heap.get? a = some { cls := .type "list", data := .seq vs.toArray }) (hr : Room k callerA)
    (F : ∀ base : Heap, K.In base → base.Ns mainGlobals mg → (∀ p ∈ cs, LamX.TabB base mg p.1 p.2) → FnG P w K mg base k fa fd [x] sp) (hbind : ∀ (s : Shared) (u : Value), BindsTo s fd ⟨[u], []⟩ [(x, u)])
    (hsc : sc = none ∨ (K.lookup a = none ∧ sc = some (.frz { cls := .type "list", data := .seq vs.toArray } (.lst xs)))) (hokA : ∀ u, sc = some u → ObjOk P w (startH a sc (cs.map (·.2))) s1.heap a u)
    (hsp : sp [.ref a] (startH a sc (cs.map (·.2))) (fun v _ => v = .bl true) fun _ _ _ => False) :
    codeAny (model P w) callerA (.call (.ref fa) ⟨[.ref a], []⟩) (fun r s' => r = .ok (.ret (.bool true)) ∧ OldK s1.heap s'.heap ∧ s'.os = s1.os ∧ AllBare s'.gens) s1 := by
  have isT : ∀ b : Addr, b ∈ cs.map (·.2) → s1.heap.get? b = some { cls := .none, data := .fields #[] } := fun b hb => by
    obtain ⟨p, hp, e⟩ := List.mem_map.mp hb
    rw [← e]
    exact hT p hp
  have memT : ∀ p ∈ cs, p.2 ∈ cs.map (·.2) := fun p hp => List.mem_map.mpr ⟨p, hp, rfl⟩
  have aT : ∀ b, b ∈ cs.map (·.2) → b ≠ a := fun b hb z => by
    have q := isT b hb
    rw [z, ha] at q
    have z' : Data.seq vs.toArray _ = Data.fields #[] := congrArg Obj.data (Option.some.inj q)
    cases z'
  generalize hH : startH a sc (cs.map (·.2)) = H at *
  have HT : ∀ b, b ∈ cs.map (·.2) → H b = some (.tbl #[]) := fun b hb => by rw [← hH]; exact startH_t hb (aT b hb)
  have HA : H a = sc := by rw [← hH]; exact startH_a
  have HN : ∀ b, b ∉ cs.map (·.2) → b ≠ a → H b = none := fun b hb n => by rw [← hH]; exact startH_n hb n
  -- what is neither the script nor a table is not tracked
  have free : ∀ {b : Addr} {o : Obj}, s1.heap.get? b = some o → (∀ ys n, o.data ≠ .seq ys n) → o.data ≠ .fields #[] → H b = none := fun {b o} e n1 n2 => by
    refine HN b (fun z => ?_) fun z => ?_
    · rw [isT b z] at e
      cases e
      exact n2 rfl
    · rw [z, ha] at e
      cases e
      exact n1 _ _ rfl
  have ns1 : ∀ {b : Addr} {m : Str → Option Value}, s1.heap.Ns b m → (hidT s1.heap H).Ns b m := fun {b m} ⟨o, es, ep, e, d, r⟩ => ⟨o, es, ep, hidT_get e (free e (fun _ _ z => by rw [d] at z; cases z) fun z => by rw [d] at z; cases z), d, r⟩
  have kin : K.In (hidT s1.heap H) := fun b o e => hidT_get (KX b o e) (by
    by_cases hb : b ∈ cs.map (·.2)
    · obtain ⟨p, hp, ep⟩ := List.mem_map.mp hb
      rw [← ep, nT p hp] at e
      cases e
    · by_cases hb2 : b = a
      · rw [hb2, HA]
        rcases hsc with z | ⟨z, _⟩
        · exact z
        · rw [hb2, z] at e
          cases e
      · exact HN b hb hb2)
  have hok : HOk P w H s1.heap := fun b u e => by
    by_cases hb : b ∈ cs.map (·.2)
    · rw [HT b hb] at e
      cases e
      exact isT b hb
    · by_cases hb2 : b = a
      · subst hb2
        rw [HA] at e
        exact hokA u e
      · rw [HN b hb hb2] at e
        cases e
  obtain ⟨mc, c1, c2⟩ := hlim
  have TB : ∀ p ∈ cs, LamX.TabB (hidT s1.heap H) mg p.1 p.2 := fun p hp => by
    have hTp := hT p hp
    refine ⟨?_, ?_, fun z => ?_⟩
    · obtain ⟨o, us, file, tf, flags, tg, inF, text, tt, e1, r1, r2, r3, r4, r5, r6, r7, r8, hne⟩ := hC p hp
      refine ⟨o, us, file, tf, flags, tg, inF, text, tt, hidT_get e1 (free e1 (fun _ _ z => by rw [r2] at z; cases z) fun z => ?_), r1, r2, r3, r4, r5, r6, r7, r8, hne⟩
      rw [r2] at z
      cases z
      simp at r3
    · obtain ⟨bm, ob, b1, b2, b3, b4, b5, b6⟩ := hbm
      have nG : bm ≠ mainGlobals := fun q => by
        obtain ⟨o, es, ep, e, hd, _⟩ := hns
        rw [q, e] at b3
        cases b3
        rw [hd] at b6
        cases b6
      have nP : bm ≠ p.2 := fun q => by
        rw [q, hTp] at b3
        cases b3
        cases b6
      exact ⟨bm, ob, b1, b2, nG, nP, hidT_get b3 (free b3 (fun _ _ z => by rw [b6] at z; cases z) fun z => by rw [b6] at z; cases z), b4, b5, b6⟩
    · obtain ⟨o, es, ep, e, hd, _⟩ := hns
      rw [z, hTp] at e
      cases e
      cases hd
  have e0 : Env0 P w K mg (hidT s1.heap H) callerA [] s1 H :=
    { frames := rfl, mod := ⟨kin, ns1 hns, ⟨mb, ns1 hb, hbb⟩, ⟨mc, ns1 c1, c2⟩⟩, bs := fun b o e => of_hidT e, bsz := Nat.le_of_eq (hidT_size _ _), funs := trivial, frf := fun b z => absurd (show b ∈ ([] : List Addr) from z) (by simp), hok := hok, bare := .of_eq hgen }
  refine codeAny_mono ((F _ kin (ns1 hns) TB).run callerA [] s1 H ⟨[.ref a], []⟩ [.ref a] [.ref a] _ _ rfl hr e0 (hbind s1 (.ref a)) (.cons rfl .nil) hsp) fun r s' h => ?_
  match r, h with
  | .ok (.ret u), ⟨v, H', os, bare, un, hok', r', q⟩ =>
    cases (show v = V.bl true from q)
    cases (show u = Value.bool true from r')
    have grown : ∀ p ∈ cs, ∃ more : Array Value, s'.heap.get? p.2 = some { cls := .none, data := .fields more } := fun p hp => by
      obtain ⟨more, z⟩ := un.tbls p.2 #[] (HT p.2 (memT p hp))
      exact ⟨_, hok' p.2 _ z⟩
    have key : ∀ b o, b ∉ cs.map (·.2) → s1.heap.get? b = some o → s'.heap.get? b = some o := fun b o nb e => by
      cases q2 : H b with
      | none => exact un.keep b o e q2 (fun z => absurd (show b ∈ ([] : List Addr) from z) (by simp)) (by simp)
      | some u =>
        have hba : b = a := Classical.byContradiction fun z => by
          rw [HN b nb z] at q2
          cases q2
        subst hba
        rw [HA] at q2
        rcases hsc with z | ⟨_, z⟩
        · rw [z] at q2
          cases q2
        · have q3 : H b = some (.frz { cls := .type "list", data := .seq vs.toArray } (.lst xs)) := by rw [HA, z]
          obtain ⟨e1, _⟩ := hok b _ q3
          obtain ⟨e2, _⟩ := hok' b _ (un.frzs b _ _ q3)
          rw [e] at e1
          cases e1
          exact e2
    refine ⟨rfl, ⟨fun b o e => ?_, fun b o e => ?_⟩, os, bare⟩
    · by_cases hb : b ∈ cs.map (·.2)
      · obtain ⟨p, hp, ep⟩ := List.mem_map.mp hb
        obtain ⟨more, hm⟩ := grown p hp
        rw [← ep] at e ⊢
        rw [hT p hp] at e
        cases e
        exact .inr (.inl ⟨((hC p hp).tab (hT p hp)).isCodeTable, rfl, #[], more, rfl, by rw [Array.empty_append]; exact hm⟩)
      · exact .inl (key b o hb e)
    · by_cases hb : b ∈ cs.map (·.2)
      · obtain ⟨p, hp, ep⟩ := List.mem_map.mp hb
        obtain ⟨more, hm⟩ := grown p hp
        rw [← ep]
        exact ⟨_, hm⟩
      · exact ⟨o, key b o hb e⟩
def LawT (l : PySem.W.OpenLaw) (w : World) (K : PySem.W.Frag) (k n : Nat) (x : Str) (mg : Str → Option Value) (fa : Addr) (h : Heap) : Prop :=
  ∃ (fd : FuncData) (cs : List (Addr × Addr)) (sp : Sp), (∀ p ∈ cs, h.get? p.2 = some { cls := .none, data := .fields #[] }) ∧ (∀ p ∈ cs, K.lookup p.2 = none) ∧ (∀ p ∈ cs, PySem.W.CodeHd h p.1 p.2) ∧ (∀ (s : Shared) (u : Value), BindsTo s fd ⟨[u], []⟩ [(x, u)]) ∧
    (∀ (H : Hp) (a : Addr) (ns : List Int), ns.length ≤ n → (∀ p ∈ cs, H p.2 = some (.tbl #[])) → SqL K H a (ns.map V.int) → sp [.ref a] H (fun v _ => v = .bl true) fun _ _ _ => False) ∧
    ∀ base : Heap, K.In base → base.Ns mainGlobals mg → (∀ p ∈ cs, LamX.TabB base mg p.1 p.2) → FnG l.prog w K mg base k fa fd [x] sp
end RL

/-! a def whose code object is known (it makes lambdas) -/
namespace RL
open PySem L2 PySem.Spec PyProof.Rows
structure FunC (K : PySem.W.Frag) (x qual : Str) (st : Stmt) (f : Addr) (fd : FuncData) (cA : Addr) : Prop where
  ex : ∃ (oc : Value) (od : Option Addr) (kV doc pm : Value) (an : Option Addr) (ct : Value) (osl : Array (Option Value)),
    fd = PySem.W.fnOf x qual (defArgs st) (defBody st) (defScope st) .none kV doc pm an (.ref cA) ct ∧ K.lookup f = some ⟨oc, od, .func fd, osl⟩ ∧ PySem.W.codeIn K (.ref cA) qual = true
section
variable {P : Program} {w : World} {K : PySem.W.Frag} {mg : Str → Option Value} {base : Heap}
theorem okGC {x qual : Str} {st : Stmt} {f cA : Addr} {fd : FuncData} {N ps : List Str} {k : Nat} {sp : Sp} (F : FunC K x qual st f fd cA) (S : FnScope N ps (defScope st)) (len : ∀ vs H Q E, sp vs H Q E → vs.length = ps.length)
    (bd : ∀ (A : Around) (outer : List Env) (s : Shared) (H : Hp) (vs : List V) (Q : VK) (E : XK), A.guards = some [] → Room k (A.deeper (envOfC qual (defScope st) s.heap.objs.size f (.ref cA))) → sp vs H Q E →
      ∃ t, PSs (cxOf CX0 P w K mg base N qual (defScope st) f (.ref cA) A outer s H E).nox (defBody st) t ∧ t { nx := fun _ H' => Q .non H', rt := Q } (start N vs) H) : FnG P w K mg base (k + 1) f fd ps sp := by
  obtain ⟨oc, od, kV, doc, pm, an, ct, osl, rfl, lk, hcd⟩ := F.ex
  refine ⟨len, fun A outer s H args us vs Q E hg hr e0 hb r hsp => ?_⟩
  have KX : K.In s.heap := e0.mod.kin.keeps fun b o e => (e0.bs b o e).1
  have lim := e0.mod.nolimit.keeps fun b o e => (e0.bs b o e).1
  refine codeAny_call_function hr.depth (KX _ _ lk) rfl S.co S.gen rfl (PySem.W.codeRec_of KX hcd) (hb _ _ _ _ (wpAny_newFunctionEnv_cells S.kind (fun ⟨n, v⟩ hy => ?_) fun env he s1 x => ?_))
  · exact (S.par n (List.of_mem_zip hy).1).imp id fun q => ⟨q, PySem.W.cellsFrom_some _ _ _ (.inl q)⟩
  · subst he
    obtain ⟨t, ht, hq⟩ := bd A outer s H vs Q E hg (hr.deeper _) hsp
    have I : Inv (cxOf CX0 P w K mg base N qual (defScope st) f (.ref cA) A outer s H E) [] (start N vs) H s1 := inv_start S hr.hd e0 (len _ _ _ _ hsp) r x
    refine ⟨lim.keeps x.toInCall.keep, codeAny_func (wpAny_mono (ht.nox.run [] s1 _ H _ I hq) (fun fl s' hs => ?_) fun _ _ z => z)⟩
    cases fl with
    | ret u =>
      obtain ⟨v, σ', H', J, rv, q⟩ := hs
      exact ⟨v, H', J.os, J.bare, J.base, J.hok, rv, q⟩
    | next =>
      obtain ⟨σ', H', J, q⟩ := hs
      exact ⟨V.non, H', J.os, J.bare, J.base, J.hok, rfl, q⟩
    | brk => exact hs.elim fun _ z => z.elim fun _ y => False.elim y.2
    | cont => exact hs.elim fun _ z => z.elim fun _ y => False.elim y.2
end
end RL

set_option maxHeartbeats 4000000
namespace RL
open PySem L2 PySem.Spec PyProof.Rows
/-! ### heaps in which tables grow -/
def ButT (c : Addr) (H H' : Hp) : Prop := ∀ b o, b ≠ c → (∀ ps, o ≠ .tbl ps) → H b = some o → H' b = some o
theorem ButT.refl (c : Addr) (H : Hp) : ButT c H H := fun _ _ _ _ h => h
theorem ButT.trans {c : Addr} {H H1 H2 : Hp} (a : ButT c H H1) (b : ButT c H1 H2) : ButT c H H2 := fun x o n t h => b x o n t (a x o n t h)
theorem ButT.of {c : Addr} {H H' : Hp} (h : Same H H') : ButT c H H' := fun x o _ _ e => h x o e
theorem ButT.but {c : Addr} {H H' : Hp} (h : But c H H') : ButT c H H' := fun x o n _ e => h x o n e
theorem ButT.ext {c : Addr} {H H' : Hp} (h : LamX.ExtN H H') : ButT c H H' := fun x o _ n e => h x o e n
theorem tabs_same {T : List (Addr × Str)} {H H' : Hp} (t : LamX.Tabs T H) (s : Same H H') : LamX.Tabs T H' := t.ext s
theorem tabs_butL {T : List (Addr × Str)} {c : Addr} {xs : List V} {H H' : Hp} (t : LamX.Tabs T H) (hc : H c = some (.lst xs)) (s : But c H H') : LamX.Tabs T H' := fun p hp => by
  obtain ⟨ps, h1, h2, h3⟩ := t p hp
  refine ⟨ps, s _ _ (ne_of h1 hc (by intro z; cases z)) h1, h2, fun pos cv hcv => ?_⟩
  obtain ⟨c', e1, e2⟩ := h3 pos cv hcv
  exact ⟨c', e1, s _ _ (ne_of e2 hc (by intro z; unfold LamX.CodeO at z; cases z)) e2⟩
theorem tabs_tape {T : List (Addr × Str)} {c : Addr} {n : Nat} {H H' : Hp} (t : LamX.Tabs T H) (hc : TapeAt c n H) (s : But c H H') : LamX.Tabs T H' := by
  obtain ⟨x, y, z, h, _⟩ := hc
  exact tabs_butL t h s
theorem tabs_upd {TT : List (Addr × Str)} {H : Hp} {D : Addr} {xs : List V} {o : HO} (t : LamX.Tabs TT H) (h : H D = some (.lst xs)) : LamX.Tabs TT (upd H D o) := tabs_butL t h But.upd
theorem ext_same {H H' : Hp} (s : Same H H') : LamX.ExtN H H' := LamX.ExtN.of s
theorem ext_tup {H H' : Hp} {a : Addr} {xs : List V} (s : LamX.ExtN H H') (h : H a = some (.tup xs)) : H' a = some (.tup xs) := s _ _ h (by intro ps z; cases z)
theorem ext_ins {H H' : Hp} {a C dx : Addr} {fs : List (Str × V)} (s : LamX.ExtN H H') (h : H a = some (.ins C dx fs)) : H' a = some (.ins C dx fs) := s _ _ h (by intro ps z; cases z)
theorem Dr.ext {H H' : Hp} {v : V} {d : PyData} (h : Dr H v d) (s : LamX.ExtN H H') : Dr H' v d := by
  induction h with
  | non => exact .non
  | bl b => exact .bl b
  | int i => exact .int i
  | str x => exact .str x
  | lst h1 h2 h3 ih => exact .lst (s _ _ h1 (by intro ps z; cases z)) h2 ih
  | tup h1 h2 h3 ih => exact .tup (s _ _ h1 (by intro ps z; cases z)) h2 ih
  | dk h1 => exact .dk (s _ _ h1 (by intro ps z; cases z))
theorem PiecesAt.ext {H H' : Hp} {vs : List V} {r : List Pc} (h : PiecesAt H vs r) (s : LamX.ExtN H H') : PiecesAt H' vs r :=
  ⟨h.1, fun i p hp => let ⟨v, hv, t, e, q⟩ := h.2 i p hp; ⟨v, hv, t, e, ext_tup s q⟩⟩
theorem PatAt.ext {C x : Addr} {H H' : Hp} {r : List Pc} (h : PatAt C H x r) (s : LamX.ExtN H H') : PatAt C H' x r := by
  obtain ⟨dx, q, m, f, ws, f1, f2, f3, f4, h1, h2, h3, h4, h5, h6, h7, h8, h9⟩ := h
  exact ⟨dx, q, m, f, ws, f1, f2, f3, f4, ext_ins s h1, ext_tup s h2, h3.ext s, ext_tup s h4, ext_tup s h5, ext_tup s h6, ext_tup s h7, ext_tup s h8, ext_tup s h9⟩
/-! ### promises of what raises -/
def giv (a : Addr) (v : V) (H : Hp) (E : XK) : Prop := ∀ H' dx, Same H H' → H' dx = some (.xd [(Str.ofString "given", v)]) → E (.ref a) (some dx) H'
theorem giv.same {a : Addr} {v : V} {H H' : Hp} {E : XK} (h : giv a v H E) (s : Same H H') : giv a v H' E := fun H2 dx s2 hd => h H2 dx (s.trans s2) hd
def tyPat (K : PySem.W.Frag) (C : Addr) : Prop := ∀ d : PyData, PySem.W.kitOne K (.type (tyN d)) (.ref C) = some false
def IsPat (C : Addr) (H : Hp) (v : V) : Prop := ∃ x dx fs, v = .ref x ∧ H x = some (.ins C dx fs)
theorem PatAt.is {C x : Addr} {H : Hp} {r : List Pc} (h : PatAt C H x r) : IsPat C H (.ref x) := by
  obtain ⟨dx, _, _, _, _, _, _, _, _, h1, _⟩ := h
  exact ⟨x, dx, _, rfl, h1⟩
def spChkPN (K : PySem.W.Frag) (C C0 : Addr) : Sp := fun vs H Q E => ∃ v : V, vs = [v] ∧ ((∃ d, Dq K H v d ∧ giv C0 v H E) ∨ (IsPat C H v ∧ Q .non H))
def spChkRN (K : PySem.W.Frag) (C2 : Addr) : Sp := fun vs H Q E => ∃ (v : V) (d : PyData), vs = [v] ∧ Dq K H v d ∧ (resG d = false → giv C2 v H E) ∧ (resG d = true → Q .non H)
def spChkRD (K : PySem.W.Frag) : Sp := fun vs H Q _ => ∃ (v : V) (d : PyData), vs = [v] ∧ Dq K H v d ∧ resG d = true ∧ Q .non H
section
variable {P : Program} {w : World} {K : PySem.W.Frag} {mg : Str → Option Value} {base : Heap} {tG t1 t2 t3 tC tK tP : Tok} {aO aW aCh Ce J C : Addr} {c : Nat → Addr}
theorem ok_chkpN {f : Addr} {fd : FuncData} (F : Fun K "check_pattern" "check_pattern" s_check_pattern f fd) (T : Txt3 K mg tG t1 t2 t3 aO aW J C) (TE : TxF mg c) (RZ0 : Rz P w K mg base c 0 "given") (I : IsC K C) (kC : tyPat K C) : FnOk P w K mg base (L2N.CX P w) 4 f fd ["value"] (spChkPN K C (c 0)) := by
  refine okN F sc_check_pattern (fun vs H Q E h => ?_) (fun cdv A outer s H vs Q E hr h => ?_)
  · obtain ⟨v, rfl, _⟩ := h
    rfl
  · obtain ⟨v, rfl, h⟩ := h
    refine ⟨_, (pss_one (ps_if (pt_not (pt_val (pe_callB call_isi (by rfl) T.isinstance (by decide +kernel) (pa_cons (pv 0) (pa_cons (pe_glob (v := .ref C) rfl T.mgC rfl) pa_nil))))) (pss_one (ps_raiseX RZ0.m RZ0.ty RZ0.no (hr.mono (by decide)) (by rfl) TE.m0 (pv 0) rfl (L2N.takes_of rfl rfl rfl rfl))) pss_nil)), ?_⟩
    rcases h with ⟨d, hd, k⟩ | ⟨⟨x, dx, fs, rfl, hx⟩, k⟩
    · exact ⟨_, rfl, _, _, _, _, false, rfl, .own C, ty_dq hd, kC d, _, rfl, iteT ⟨_, rfl, fun dd nd => k _ dd (same_upd nd) upd_same⟩⟩
    · exact ⟨_, rfl, _, _, _, _, true, rfl, .own C, .base (.ins hx T.cl I.ca I.cn I.ct I.cm), I.is_, _, rfl, iteF k⟩
end
end RL

set_option maxHeartbeats 2000000
/-! len of an own object; own operators, methods, makings that may raise. -/
namespace RL
open PySem L2 PySem.Spec PyProof.Rows
section
variable {X : Cx} {k : Nat} {ps : List Str} {sp : Sp} {C g : Addr} {fd : FuncData} {E : XK}
def rBinN (C : Addr) (sp : Sp) (E : XK) : R2 := fun x y H Q => ∃ a dx fs b dy gs, x = .ref a ∧ H a = some (.ins C dx fs) ∧ y = .ref b ∧ H b = some (.ins C dy gs) ∧ sp [x, y] H Q E
def rLenOwn (C : Addr) (sp : Sp) : List V → Hp → VK → Prop := fun vs H Q => ∃ a dx fs, vs = [.ref a] ∧ H a = some (.ins C dx fs) ∧ sp [.ref a] H (fun v H' => ∃ n : Nat, v = .int (n : Int) ∧ n ≤ 1000 ∧ Q (.int (n : Int)) H') E0
theorem call_lenOwn (hs : PySem.W.findIn X.K (.ref C) "__len__" = some (some (.ref g))) (hf : PySem.W.isFn X.K (.ref g) = true) (F : FnOk X.prog X.w X.K X.mg X.base CX0 k g fd ps sp) (hb : Binds X.K fd ps []) (hr : Room (k + 1) X.A) : CallR X (.builtin "len") (rLenOwn C sp) := by
  intro pins s σ H vs us Q I r h
  obtain ⟨a, dx, fs, rfl, ha, q⟩ := h
  rw [Vals.ref1 r]
  obtain ⟨mA, O, _⟩ := ins_get I.hok ha
  obtain ⟨od, J, _⟩ := O.look
  obtain ⟨m, hF⟩ := I.fr
  have hl : ([Value.ref a] ++ []).length = ps.length := F.len _ _ _ _ q
  refine PySem.W.len_K hF I.ok.mod.kin J hs hf (wpAny_call (codeAny_mono (F.run X.A.in1 X.stack s H ⟨[.ref a], []⟩ [.ref a] [.ref a] _ E0 hr.in1 I.env0.in1 (hb s [.ref a] I.kIn hl) (.cons rfl .nil) q) fun z s' hq => ?_))
  match z, hq with
  | .ok (.ret w'), hq =>
    obtain ⟨v', H', I', rv, n, e, hn, qz⟩ := I.after hq
    subst e
    obtain ⟨t, e2⟩ := (show ∃ t, w' = Value.int (n : Int) t from rv)
    subst e2
    exact ⟨⟨by omega, by omega⟩, .int (n : Int), H', I'.tok _, ⟨_, rfl⟩, qz⟩
end
end RL

set_option maxHeartbeats 1000000
/-! An own unary operator; `x in o` by an own __contains__; C(*y). -/
namespace RL
open PySem L2 PySem.Spec PyProof.Rows PySem.W
section
variable {X : Cx} {k : Nat} {ps : List Str} {sp : Sp} {C g : Addr} {fd : FuncData}
def rUnOwn (C : Addr) (sp : Sp) : V → Hp → VK → Prop := fun x H Q => ∃ a dx fs, x = .ref a ∧ H a = some (.ins C dx fs) ∧ sp [x] H Q E0
def rInOwn (C : Addr) (sp : Sp) : R2 := fun x y H Q => ∃ a dx fs, y = .ref a ∧ H a = some (.ins C dx fs) ∧ sp [y, x] H (fun z H' => ∃ b : Bool, z = .bl b ∧ Q (.bl b) H') E0
theorem op_inOwn (hs : PySem.W.findIn X.K (.ref C) "__contains__" = some (some (.ref g))) (hf : PySem.W.isFn X.K (.ref g) = true) (F : FnOk X.prog X.w X.K X.mg X.base CX0 k g fd ps sp) (hb : Binds X.K fd ps []) (hr : Room k X.A) :
    OpR X (compareOp .In) (rInOwn C sp) := by
  intro pins s σ H x y v u Q I rx ry h
  obtain ⟨a, dx, fs, rfl, ha, q⟩ := h
  cases (show u = Value.ref a from ry)
  obtain ⟨mA, O, _⟩ := ins_get I.hok ha
  obtain ⟨od, J, _⟩ := O.look
  obtain ⟨m, hF⟩ := I.fr
  refine PySem.W.in_K hF I.ok.mod.kin J hs hf ?_
  have q0 : sp ([.ref a, x] ++ []) H _ E0 := q
  refine wpAny_mono (run_fn (us := [.ref a, v]) (vs := [.ref a, x]) F hr hb .nil pass0 I (.cons rfl (.cons rx .nil)) q0) (fun w s' z => ?_) fun _ _ z => z
  obtain ⟨z', H', I', rz, b, rfl, qz⟩ := z
  cases (show w = Value.bool b from rz)
  exact wpAny_truthy_bool ⟨.bl b, H', I', rfl, qz⟩
end
section
variable {X : Cx} {CX : CXT} {k : Nat} {f C : Addr} {sp : Sp} {E : XK} {x : Str} {e : Expr} {te : TE} {p pos sp_ : Pos}
theorem pe_makeR0 (M : Mk X.K C f) (F : FnR X.prog X.w X.K X.mg X.base CX k f sp) (hr : Room (k + 1) X.A) (hg : Gl X x) (hm : X.mg x = some (.ref C)) (hx : Passes CX X E)
    (hdb : (x == ("__debug__" : Str)) = false := by decide) : PE X (.Call (.Name x p) [] [] pos) (StX.tMakeR C sp E tNil) := by
  refine ⟨fun pins s σ H Q I h => ?_⟩
  refine wpAny_Call_Name_kw (ld_glob I hg hm ?_ hdb)
  exact PySem.W.callWith_K0 I.kIn M.kp (StX.run_makeR M F hr hx I .nil h)
end
end RL

set_option maxHeartbeats 1000000
/-! bool(a tuple), bool(o) by an own __bool__ -/
namespace RBo
open PySem PySem.Spec PyProof.Rows
section
variable {prog : Program} {w : World} {A : Around} {E : Value → Shared → Prop} {s : Shared}
theorem bool_by {x : Value} {Q : Value → Shared → Prop} (h : wpAny (model prog w) A.in1.in1 (truthy x) (fun b s' => Q (.bool b) s') E s) : wpAny (model prog w) A (call (.type "bool") [x]) Q E s := by
  refine callType_codes (T := "bool") (Bi := Builtin.«object.__init__») (Q₁ := fun r s₁ => ∃ b, r = Value.bool b ∧ Q r s₁) PySem.F.called_bool (PySem.F.typeCall_bool_1 _) PySem.F.entry_object_init ?_ ?_
  · refine codeAny_of_tree ?_
    show wpAny _ A.in1.in1 (do checkBuiltinCall "bool.__new__" ⟨[.type "bool", x], []⟩; again (.builtin "bool.__new__" ⟨[.type "bool", x], []⟩)) _ _ s
    refine wpAny_bind (wpAny_of_eq (PySem.F.newCall_bool_1 _) (wpAny_pure ⟨plainId_quiet (by decide +kernel) _, codeAny_builtin PySem.F.entry_bool_new ?_⟩))
    rw [Around.under_plainId (by decide +kernel) _]
    have f1 := F.conv_sub_bool
    obtain ⟨hp, g, d, tk, os⟩ := s
    repeat (any_goals (first | assumption | (with_reducible refine wpAny_mono h ?_ ?_) | wp_step))
    · exact fun a s hq => wpAny_pure ⟨a, rfl, hq⟩
    · exact fun e s he => he
  · rintro obj s₁ ⟨b, rfl, hq⟩
    exact ⟨rfl, PySem.F.args_object_init_2 _ _, object_init_meets PySem.F.called_bool.init.lookup PySem.F.called_bool.made (by decide) prog w A.in1 _ s₁ ⟨rfl, rfl, hq⟩⟩
end
end RBo
namespace RL
open PySem L2 PySem.Spec PyProof.Rows
section
variable {X : Cx} {k : Nat} {ps : List Str} {sp : Sp} {C g : Addr} {fd : FuncData}
def rBoolOwn (C : Addr) (sp : Sp) : List V → Hp → VK → Prop := fun xs H Q => ∃ a dx fs, xs = [V.ref a] ∧ H a = some (.ins C dx fs) ∧ sp [.ref a] H (fun z H' => ∃ b, z = .bl b ∧ Q (.bl b) H') E0
end
end RL

set_option maxHeartbeats 2000000
/-! own __contains__ by not in; own __getitem__, __setitem__, that may raise; bool by own __len__. -/
namespace RL
open PySem L2 PySem.Spec PyProof.Rows PySem.Calls
section
variable {X : Cx} {CX : CXT} {k : Nat} {ps : List Str} {sp : Sp} {C g : Addr} {fd : FuncData} {E : XK} {o i value : Expr} {pos pos' : Pos} {to ti tv : TE}
theorem run_fn1 {pins : List (Addr × Obj)} {σ : L2.St} {H : Hp} {s : Shared} {Q : VK} {us : List Value} {vs : List V} (F : FnOk X.prog X.w X.K X.mg X.base CX k g fd ps sp) (hr : Room (k + 1) X.A) (hb : Binds X.K fd ps []) (hx : Passes CX X E)
    (I : Inv X pins σ H s) (r : Vals vs us) (h : sp vs H Q E) : wpAny (model X.prog X.w) X.A.in1 (call (.ref g) us) (EP X pins σ Q) X.xe s := by
  have hl : (us ++ []).length = ps.length := by rw [List.append_nil, ← r.length]; exact F.len _ _ _ _ h
  have b := hb s us I.kIn hl
  rw [List.append_nil] at b
  refine wpAny_call (codeAny_mono (F.run X.A.in1 X.stack s H ⟨us, []⟩ us vs Q E hr.in1 I.env0.in1 b r h) fun r s' hq => ?_)
  cases r with
  | error e => exact hx pins σ H s e s' I hq
  | ok fl =>
    cases fl with
    | ret u => exact I.after hq
    | next => exact False.elim hq
    | brk => exact False.elim hq
    | cont => exact False.elim hq
def rNotInOwn (C : Addr) (sp : Sp) : R2 := fun x y H Q => ∃ a dx fs, y = .ref a ∧ H a = some (.ins C dx fs) ∧ sp [y, x] H (fun z H' => ∃ b : Bool, z = .bl b ∧ Q (.bl (!b)) H') E0
theorem op_notInOwn (hs : PySem.W.findIn X.K (.ref C) "__contains__" = some (some (.ref g))) (hf : PySem.W.isFn X.K (.ref g) = true) (F : FnOk X.prog X.w X.K X.mg X.base CX0 k g fd ps sp) (hb : Binds X.K fd ps []) (hr : Room k X.A) :
    OpR X (compareOp .NotIn) (rNotInOwn C sp) := by
  intro pins s σ H x y v u Q I rx ry h
  obtain ⟨a, dx, fs, rfl, ha, q⟩ := h
  cases (show u = Value.ref a from ry)
  obtain ⟨mA, O, _⟩ := ins_get I.hok ha
  obtain ⟨od, J, _⟩ := O.look
  obtain ⟨m, hF⟩ := I.fr
  refine PySem.W.notIn_K hF I.ok.mod.kin J hs hf ?_
  have q0 : sp ([.ref a, x] ++ []) H _ E0 := q
  refine wpAny_mono (run_fn (us := [.ref a, v]) (vs := [.ref a, x]) F hr hb .nil pass0 I (.cons rfl (.cons rx .nil)) q0) (fun w s' z => ?_) fun _ _ z => z
  obtain ⟨z', H', I', rz, b, rfl, qz⟩ := z
  cases (show w = Value.bool b from rz)
  exact wpAny_truthy_bool ⟨.bl (!b), H', I', rfl, qz⟩
def tItOwn (C : Addr) (sp : Sp) (E : XK) (to ti : TE) : TE := fun σ H Q => to σ H fun x H1 => ti σ H1 fun y H2 => ∃ a dx fs, x = .ref a ∧ H2 a = some (.ins C dx fs) ∧ sp [x, y] H2 Q E
theorem pe_itOwn (hs : PySem.W.findIn X.K (.ref C) "__getitem__" = some (some (.ref g))) (hf : PySem.W.fnIn X.K g = true) (hfn : PySem.W.isFn X.K (.ref g) = true) (F : FnOk X.prog X.w X.K X.mg X.base CX k g fd ps sp) (hb : Binds X.K fd ps []) (hr : Room (k + 1) X.A) (hx : Passes CX X E) (ho : PE X o to) (hi : PE X i ti)
    (hsl : ∀ a iv, subscripted i true (.ref a) iv = runValue (.builtin "lifetime.subscript" ⟨[.ref a, iv], []⟩) := by intros; rfl) : PE X (.Subscript o i pos) (tItOwn C sp E to ti) := by
  refine ⟨fun pins s σ H Q I h => ?_⟩
  refine Subscript_ (thn (ho.run pins s σ H _ I h) fun u s1 ⟨x, H1, I1, rx, q1⟩ => thn (hi.run pins s1 σ H1 _ I1 q1) fun iv s2 ⟨y, H2, I2, ry, a, dx, fs, ex, ha, q⟩ => ?_)
  subst ex
  obtain rfl : u = Value.ref a := rx
  obtain ⟨mA, O, _⟩ := ins_get I2.hok ha
  obtain ⟨od, J, _⟩ := O.look
  obtain ⟨m, hF⟩ := I2.fr
  exact PySem.W.sub_K hF I2.ok.mod.kin J hs hf hfn (run_fn1 (us := [.ref a, iv]) (vs := [.ref a, y]) F hr hb hx I2 (.cons rfl (.cons ry .nil)) q) (hsl a iv)
def sStOwn (C : Addr) (sp : Sp) (E : XK) (to ti tv : TE) : TS := fun D σ H => tv σ H fun v H1 => to σ H1 fun x H2 => ti σ H2 fun y H3 => ∃ a dx fs, x = .ref a ∧ H3 a = some (.ins C dx fs) ∧ sp [x, y, v] H3 (fun _ H4 => D.nx σ H4) E
theorem ps_stOwn (hq : PySem.W.noSeq X.K C = true) (hs : PySem.W.findIn X.K (.ref C) "__setitem__" = some (some (.ref g))) (hf : PySem.W.isFn X.K (.ref g) = true) (F : FnOk X.prog X.w X.K X.mg X.base CX k g fd ps sp) (hb : Binds X.K fd ps []) (hr : Room k X.A) (hx : Passes CX X E) (ho : PE X o to) (hi : PE X i ti) (hv : PE X value tv)
    (hw : swapsWith value (some (.Subscript o i pos')) pos.line X.env = pure false := by rfl) : PS X (.Assign [.Subscript o i pos'] value pos) (sStOwn C sp E to ti tv) := by
  refine ⟨fun pins s σ H D I h => ?_⟩
  refine wpAny_Assign_Subscript (thn (hv.run pins s σ H _ I h) fun r s1 ⟨v, H1, I1, rv, q1⟩ => thn (ho.run pins s1 σ H1 _ I1 q1) fun u s2 ⟨x, H2, I2, rx, q2⟩ => thn (hi.run pins s2 σ H2 _ I2 q2) fun iv s3 ⟨y, H3, I3, ry, a, dx, fs, ex, ha, q⟩ => ?_) hw
  subst ex
  obtain rfl : u = Value.ref a := rx
  obtain ⟨mA, O, _⟩ := ins_get I3.hok ha
  obtain ⟨od, J, _⟩ := O.look
  obtain ⟨m, hF⟩ := I3.fr
  have q0 : sp ([.ref a, y, v] ++ []) H3 _ E := q
  refine PySem.W.ksp_setItem hF I3.ok.mod.kin J hq hs hf (wpAny_mono (run_fn (us := [.ref a, iv, r]) (vs := [.ref a, y, v]) F hr hb .nil hx I3 (.cons rfl (.cons ry (.cons rv .nil))) q0) (fun w s' z => ?_) fun _ _ z => z)
  obtain ⟨z', H', I', _, qz⟩ := z
  exact ⟨σ, H', I', qz⟩
end
section
variable {prog : Program} {w : World} {A : Around} {E : Value → Shared → Prop} {s : Shared} {K : PySem.W.Frag} {x C L f : Addr} {h₀ : Heap} {m : Str → Option Value} {ox : Obj} {od : Option Obj}
theorem truthy_len {Q : Bool → Shared → Prop} (F : Fr h₀ L s.heap m) (X₀ : K.In h₀) (I : PySem.W.InstAt s.heap x ox C od) (hb : PySem.W.findIn K (.ref C) "__bool__" = some none) (hs : PySem.W.findIn K (.ref C) "__len__" = some (some (.ref f))) (hf : PySem.W.isFn K (.ref f) = true)
    (h : wpAny (model prog w) A.in1 (call (.ref f) [.ref x]) (fun v s' => ∃ (n : Int) (t : Tok), v = .int n t ∧ 0 ≤ n ∧ n < 2 ^ 63 ∧ Q (n != 0) { s' with toks := s'.toks + 1 }) E s) : wpAny (model prog w) A (truthy (.ref x)) Q E s := by
  have X := X₀.keeps F.keep
  unfold truthy
  refine wpAny_bind (m := callSpecial? (.ref x) (Str.ofString "__bool__")) (wpAny_bind (wpAny_bind (I.type.here ((PySem.W.looks_findIn X hb).here (wpAny_pure ?_)))))
  refine wpAny_bind (wpAny_bind (I.type.here ((PySem.W.looks_findIn X hs).here ?_)))
  show wpAny _ _ (if (some (Value.ref f)).isNone = true then _ else _) _ _ _
  rw [if_neg (by simp)]
  refine wpAny_bind (wpAny_runValue (codeAny_builtin entry_len ?_))
  unfold Builtin.«len»
  refine wpAny_bind (m := oneArg "len" _) (wpAny_pure ?_)
  refine wpAny_bind (m := callSpecial? (.ref x) (Str.ofString "__len__")) (PySem.W.special_fn X I hs (beq_iff_eq.mp hf) (wpAny_mono h (fun r s' hr => ?_) fun _ _ y => y))
  obtain ⟨n, t, rfl, h0, h1, hq⟩ := hr
  refine wpAny_bind (wpAny_holding (wpAny_pure ?_))
  refine wpAny_bind (wpAny_letGo ?_)
  show wpAny _ _ (if n < 0 then _ else _) _ _ _
  rw [if_neg (by omega)]
  show wpAny _ _ (if n ≥ 2 ^ 63 then _ else _) _ _ _
  rw [if_neg (by omega)]
  refine wpAny_bind (wpAny_mkInt (wpAny_pure ?_))
  exact wpAny_pure hq
end
section
variable {X : Cx} {k : Nat} {ps : List Str} {sp : Sp} {C g : Addr} {fd : FuncData}
def rBoolLen (C : Addr) (sp : Sp) : List V → Hp → VK → Prop := fun xs H Q => ∃ a dx fs, xs = [V.ref a] ∧ H a = some (.ins C dx fs) ∧ sp [.ref a] H (fun z H' => ∃ n : Nat, z = .int (n : Int) ∧ n ≤ 1000 ∧ Q (.bl ((n : Int) != 0)) H') E0
theorem cr_boolLen (h0 : PySem.W.findIn X.K (.ref C) "__bool__" = some none) (hs : PySem.W.findIn X.K (.ref C) "__len__" = some (some (.ref g))) (hf : PySem.W.isFn X.K (.ref g) = true) (Fn : FnOk X.prog X.w X.K X.mg X.base CX0 k g fd ps sp) (hb : Binds X.K fd ps []) (hr : Room (k + 3) X.A) : CallR X (.type "bool") (rBoolLen C sp) := by
  intro pins s σ H vs us Q I r h
  obtain ⟨a, dx, fs, rfl, ha, q⟩ := h
  rw [Vals.ref1 r]
  obtain ⟨mA, O, _⟩ := ins_get I.hok ha
  obtain ⟨od, J, _⟩ := O.look
  obtain ⟨m, hF⟩ := I.fr
  have hr2 : Room (k + 1) X.A.in1.in1 := (show Room (k + 2) X.A.in1 from Room.in1 hr).in1
  have hr3 : Room k X.A.in1.in1.in1 := Room.in1 hr2
  refine RBo.bool_by (truthy_len hF I.ok.mod.kin J h0 hs hf ?_)
  have hl : ([Value.ref a] ++ []).length = ps.length := Fn.len _ _ _ _ q
  refine wpAny_call (codeAny_mono (Fn.run X.A.in1.in1.in1 X.stack s H ⟨[.ref a], []⟩ [.ref a] [.ref a] _ E0 hr3 I.env0.in1.in1.in1 (hb s [.ref a] I.kIn hl) (.cons rfl .nil) q) fun z s' hq => ?_)
  match z, hq with
  | .ok (.ret w'), hq =>
    obtain ⟨v', H', I', rv, n, e, hn, qz⟩ := I.after hq
    subst e
    obtain ⟨t, e2⟩ := (show ∃ t, w' = Value.int (n : Int) t from rv)
    subst e2
    exact ⟨(n : Int), t, rfl, by omega, by omega, .bl ((n : Int) != 0), H', I'.tok _, rfl, qz⟩
end
end RL

set_option maxHeartbeats 4000000
namespace RL
open PySem L2 PySem.Spec PyProof.Rows
/-! ### names -/
theorem u1_of {A : Around} (h : A.units + 64 < cLine) : A.units + 1 < cLine := by omega
structure TxK (K : PySem.W.Frag) (mg : Str → Option Value) (tG t1 t2 t3 tLo tLe : Tok) (aO aW J C Cb Cm : Addr) : Prop extends Txt3 K mg tG t1 t2 t3 aO aW J C where
  mgLe : mg "LETTERS" = some (.str lettersS tLe)
  mgLo : mg "LONGEST_NAME" = some (.int 8 tLo)
  mgB : mg "Bench" = some (.ref Cb)
  mgM : mg "Moment" = some (.ref Cm)
  clB : Cls K Cb
  clM : Cls K Cm
  nPr : NoAttr K Cb "present"
  nSt : NoAttr K Cm "stored"
  nSd : NoAttr K Cm "stated"
  nBe : NoAttr K Cm "before"
  nDe : NoAttr K Cm "depth"
  dict_ : mg "dict" = none
  list_ : mg "list" = none
  sorted : mg "sorted" = none
def nameS (x : Str) : Bool := decide (1 ≤ x.length) && (decide (x.length ≤ 8) && x.cps.toList.all fun c => decide (c ∈ lettersS.cps.toList))
def nameG : PyData → Bool
  | .str x => nameS x
  | _ => false
def spNameG (K : PySem.W.Frag) : Sp := fun vs H Q _ => ∃ (v : V) (d : PyData), vs = [v] ∧ Dq K H v d ∧ (∀ x, d = .str x → x.length ≤ sizeLine) ∧ ∀ H', Same H H' → Q (.bl (nameG d)) H'
theorem str_of_q {K : PySem.W.Frag} {H : Hp} {v : V} {x : Str} (h : Dq K H v (.str x)) : v = .str x := by
  cases h with
  | dp a b =>
    cases a
    rfl
section
variable {P : Program} {w : World} {K : PySem.W.Frag} {mg : Str → Option Value} {base : Heap} {tG t1 t2 t3 tLo tLe : Tok} {aO aW J C Cb Cm : Addr}
theorem sc_is_name : FnScope ["value", "letter"] ["value"] (defScope s_is_name) := ⟨rfl, rfl, rfl, by decide +kernel, rfl, by decide +kernel, by decide +kernel⟩

theorem ok_isname {f : Addr} {fd : FuncData} (F : Fun K "is_name" "is_name" s_is_name f fd) (T : TxK K mg tG t1 t2 t3 tLo tLe aO aW J C Cb Cm) : FnOk P w K mg base CX0 1 f fd ["value"] (spNameG K) := by
  refine F.ok sc_is_name (fun vs H Q E h => ?_) (fun cdv A outer s H vs Q E hr h => ?_)
  · obtain ⟨v, d, rfl, _⟩ := h
    rfl
  · obtain ⟨v, d, rfl, hd, hz, k⟩ := h
    refine ⟨_, (pss_cons (ps_if (PW.pt (pw_or (pt_not (pt_val (pe_callB call_isi (by rfl) T.isinstance (by decide +kernel) (pa_cons (pv 0) (pa_cons (pe_bltn (v := .ty "str") (by rfl) T.str_ (by decide +kernel) rfl) pa_nil))))) (pw_or (pt_cmpR op_lt (pe_callB call_len_str (by rfl) T.len (by decide +kernel) (pa_cons (pv 0) pa_nil)) pe_int (nomark _)) (pw_or1 (pt_cmpR op_gt (pe_callB call_len_str (by rfl) T.len (by decide +kernel) (pa_cons (pv 0) pa_nil)) (pe_glob (v := .int 8) rfl T.mgLo ⟨_, rfl⟩) (nomark _)))))) (pss_one (ps_ret pe_bl)) pss_nil)
      (pss_one (ps_ret (pe_callB (cr_all rfl) (by rfl) T.all (by decide +kernel) (pa_cons (pe_lc (own := [("letter", 1)]) (g := gName 1) (tt := tYes) rfl sc_is_name.nd (pi_str (pv 0)) (blkOk_by (N := ["value", "letter"]) (sc := defScope s_is_name) (by decide +kernel)) (fun _ _ _ _ _ => pg_name (i := 1) sc_is_name.nd rfl (Or.inl rfl)) (fun _ _ _ _ _ => pts_nil) (fun _ _ _ _ _ => (pe_cmpR op_in_sign (pv 1) (pe_glob (v := .str lettersS) rfl T.mgLe ⟨_, rfl⟩) (by rfl)))) pa_nil))))), ?_⟩
    refine ⟨_, rfl, _, _, _, _, isStrD d, rfl, .ty _, ty_dq hd, kit_str d, _, rfl, ?_⟩
    cases h1 : isStrD d with
    | false =>
      have e : nameG d = false := by cases d <;> first | rfl | exact absurd h1 (by simp [isStrD])
      rw [e] at k
      exact iteT (k _ (Same.refl _))
    | true =>
      obtain ⟨x, rfl⟩ : ∃ x, d = .str x := by cases d <;> first | exact ⟨_, rfl⟩ | exact absurd h1 (by simp [isStrD])
      cases str_of_q hd
      have hx := hz x rfl
      have ek : nameG (.str x) = nameS x := rfl
      rw [ek] at k
      unfold nameS at k
      refine iteF ⟨_, rfl, x, rfl, hx, _, _, rfl, rfl, _, rfl, ite2 (fun e => ?_) (fun e => ?_)⟩
      · have e : (x.length : Int) < 1 := of_decide_eq_true e
        rw [decide_eq_false (show ¬ 1 ≤ x.length by omega), Bool.false_and] at k
        exact k _ (Same.refl _)
      have e : ¬ (x.length : Int) < 1 := fun z => e (decide_eq_true z)
      rw [decide_eq_true (show 1 ≤ x.length by omega), Bool.true_and] at k
      refine ⟨_, rfl, x, rfl, hx, _, _, rfl, rfl, _, rfl, ite2 (fun e2 => ?_) (fun e2 => ?_)⟩
      · have e2 : (x.length : Int) > 8 := of_decide_eq_true e2
        rw [decide_eq_false (show ¬ x.length ≤ 8 by omega), Bool.false_and] at k
        exact k _ (Same.refl _)
      have e2 : ¬ (x.length : Int) > 8 := fun z => e2 (decide_eq_true z)
      rw [decide_eq_true (show x.length ≤ 8 by omega), Bool.true_and] at k
      refine ⟨_, rfl, x, rfl, fun D hD => ?_⟩
      refine lc_it walk_str (fun i H' => Same H H' ∧ H' D = some (.lst (((x.cps.toList.take i).map fun c => decide (c ∈ lettersS.cps.toList)).map V.bl))) ⟨same_upd hD, upd_same⟩ (fun _ _ _ _ => trivial) ?_ ?_
      · rintro i y H1 H2 hi ⟨s1, hDi⟩ ⟨rfl, c, hc, rfl⟩
        refine ⟨rfl, ?_⟩
        unfold tYes
        refine iteT ?_
        have hc' : x.cps.toList[i]? = some c := by rw [Array.getElem?_toList]; exact hc
        refine ⟨_, rfl, c, lettersS, rfl, rfl, _, hDi, ?_, ?_, ?_⟩
        · rw [List.length_map, List.length_map, List.length_take]
          have : x.cps.toList.length = x.length := rfl
          exact small1000 (by omega)
        · intro b o eb
          rw [upd_ne (ne_of_none eb hD)]
          exact s1 _ _ eb
        · rw [upd_same, List.take_add_one, hc', List.map_append, List.map_append]
          rfl
      · rintro H1 ⟨s1, hDn⟩
        rw [show x.cps.size = x.cps.toList.length from rfl, List.take_length] at hDn
        refine ⟨D, _, rfl, SqL.of hDn, ?_⟩
        have e3 : (x.cps.toList.map fun c => decide (c ∈ lettersS.cps.toList)).all id = x.cps.toList.all fun c => decide (c ∈ lettersS.cps.toList) := by
          rw [List.all_map]
          rfl
        rw [e3]
        exact k _ s1
theorem sc_law_is_name : FnScope ["_law_thing", "_law_letter"] ["_law_thing"] (defScope s_law_is_name) := ⟨rfl, rfl, rfl, by decide +kernel, rfl, by decide +kernel, by decide +kernel⟩

theorem ok_lisname {f : Addr} {fd : FuncData} (F : Fun K "_law_is_name" "_law_is_name" s_law_is_name f fd) (T : TxK K mg tG t1 t2 t3 tLo tLe aO aW J C Cb Cm) : FnOk P w K mg base CX0 1 f fd ["_law_thing"] (spNameG K) := by
  refine F.ok sc_law_is_name (fun vs H Q E h => ?_) (fun cdv A outer s H vs Q E hr h => ?_)
  · obtain ⟨v, d, rfl, _⟩ := h
    rfl
  · obtain ⟨v, d, rfl, hd, hz, k⟩ := h
    refine ⟨_, (pss_cons (ps_if (PW.pt (pw_or (pt_not (pt_val (pe_callB call_isi (by rfl) T.isinstance (by decide +kernel) (pa_cons (pv 0) (pa_cons (pe_bltn (v := .ty "str") (by rfl) T.str_ (by decide +kernel) rfl) pa_nil))))) (pw_or1 (pt_not (pt_chain op_le op_le pe_int (pe_callB call_len_str (by rfl) T.len (by decide +kernel) (pa_cons (pv 0) pa_nil)) pe_int))))) (pss_one (ps_ret pe_bl)) pss_nil)
      (pss_one (ps_ret (pe_callB (cr_all rfl) (by rfl) T.all (by decide +kernel) (pa_cons (pe_lc (own := [("_law_letter", 1)]) (g := gName 1) (tt := tYes) rfl sc_law_is_name.nd (pi_str (pv 0)) (blkOk_by (N := ["_law_thing", "_law_letter"]) (sc := defScope s_law_is_name) (by decide +kernel)) (fun _ _ _ _ _ => pg_name (i := 1) sc_law_is_name.nd rfl (Or.inl rfl)) (fun _ _ _ _ _ => pts_nil) (fun _ _ _ _ _ => (pe_cmpR op_in_sign (pv 1) pe_str (by rfl)))) pa_nil))))), ?_⟩
    refine ⟨_, rfl, _, _, _, _, isStrD d, rfl, .ty _, ty_dq hd, kit_str d, _, rfl, ?_⟩
    cases h1 : isStrD d with
    | false =>
      have e : nameG d = false := by cases d <;> first | rfl | exact absurd h1 (by simp [isStrD])
      rw [e] at k
      exact iteT (k _ (Same.refl _))
    | true =>
      obtain ⟨x, rfl⟩ : ∃ x, d = .str x := by cases d <;> first | exact ⟨_, rfl⟩ | exact absurd h1 (by simp [isStrD])
      cases str_of_q hd
      have hx := hz x rfl
      have ek : nameG (.str x) = nameS x := rfl
      rw [ek] at k
      unfold nameS at k
      refine iteF ⟨_, rfl, x, rfl, hx, _, _, rfl, rfl, _, rfl, ite2 (fun e => ?_) (fun e => ?_)⟩
      · have e : (1 : Int) ≤ (x.length : Int) := of_decide_eq_true e
        rw [decide_eq_true (show 1 ≤ x.length by omega), Bool.true_and] at k
        refine ⟨_, _, rfl, rfl, _, rfl, ite2 (fun e2 => ?_) (fun e2 => ?_)⟩
        · have e2 : ¬ (x.length : Int) ≤ 8 := fun z => by
            rw [decide_eq_true z] at e2
            exact absurd e2 (by decide)
          rw [decide_eq_false (show ¬ x.length ≤ 8 by omega), Bool.false_and] at k
          exact k _ (Same.refl _)
        · have e2 : (x.length : Int) ≤ 8 := Classical.byContradiction fun z => e2 (by rw [decide_eq_false z]; rfl)
          rw [decide_eq_true (show x.length ≤ 8 by omega), Bool.true_and] at k
          refine ⟨_, rfl, x, rfl, fun D hD => ?_⟩
          refine lc_it walk_str (fun i H' => Same H H' ∧ H' D = some (.lst (((x.cps.toList.take i).map fun c => decide (c ∈ lettersS.cps.toList)).map V.bl))) ⟨same_upd hD, upd_same⟩ (fun _ _ _ _ => trivial) ?_ ?_
          · rintro i y H1 H2 hi ⟨s1, hDi⟩ ⟨rfl, c, hc, rfl⟩
            refine ⟨rfl, ?_⟩
            unfold tYes
            refine iteT ?_
            have hc' : x.cps.toList[i]? = some c := by rw [Array.getElem?_toList]; exact hc
            refine ⟨_, rfl, c, lettersS, rfl, rfl, _, hDi, ?_, ?_, ?_⟩
            · rw [List.length_map, List.length_map, List.length_take]
              have : x.cps.toList.length = x.length := rfl
              exact small1000 (by omega)
            · intro b o eb
              rw [upd_ne (ne_of_none eb hD)]
              exact s1 _ _ eb
            · rw [upd_same, List.take_add_one, hc', List.map_append, List.map_append]
              rfl
          · rintro H1 ⟨s1, hDn⟩
            rw [show x.cps.size = x.cps.toList.length from rfl, List.take_length] at hDn
            refine ⟨D, _, rfl, SqL.of hDn, ?_⟩
            have e3 : (x.cps.toList.map fun c => decide (c ∈ lettersS.cps.toList)).all id = x.cps.toList.all fun c => decide (c ∈ lettersS.cps.toList) := by
              rw [List.all_map]
              rfl
            rw [e3]
            exact k _ s1
      · have e : ¬ (1 : Int) ≤ (x.length : Int) := fun z => e (decide_eq_true z)
        rw [decide_eq_false (show ¬ 1 ≤ x.length by omega), Bool.false_and] at k
        exact ⟨_, rfl, iteT (k _ (Same.refl _))⟩
end
end RL

set_option maxHeartbeats 4000000
namespace RL
open PySem L2 PySem.Spec PyProof.Rows
/-! ### what a bench holds -/
structure Pres (H H' : Hp) : Prop where
  t : ∀ a xs, H a = some (.tup xs) → H' a = some (.tup xs)
  i : ∀ a C dx fs, 2 ≤ fs.length → H a = some (.ins C dx fs) → H' a = some (.ins C dx fs)
theorem Pres.of {H H' : Hp} (s : Same H H') : Pres H H' := ⟨fun _ _ h => s _ _ h, fun _ _ _ _ _ h => s _ _ h⟩
theorem Pres.trans {H H1 H2 : Hp} (a : Pres H H1) (b : Pres H1 H2) : Pres H H2 := ⟨fun _ _ h => b.t _ _ (a.t _ _ h), fun _ _ _ _ l h => b.i _ _ _ _ l (a.i _ _ _ _ l h)⟩
theorem Pres.ext {H H' : Hp} (s : LamX.ExtN H H') : Pres H H' := ⟨fun _ _ h => ext_tup s h, fun _ _ _ _ _ h => ext_ins s h⟩
theorem Pres.but {c : Addr} {H H' : Hp} (b : But c H H') (n : ∀ o, H c = some o → (∃ xs, o = .lst xs) ∨ (∃ kvs, o = .dK kvs) ∨ ∃ C dx fs, o = .ins C dx fs ∧ fs.length ≤ 1) : Pres H H' := by
  have no : ∀ {a : Addr} {o : HO}, H a = some o → (∀ xs, o ≠ .lst xs) → (∀ kvs, o ≠ .dK kvs) → (∀ C dx fs, o = .ins C dx fs → 2 ≤ fs.length) → H' a = some o := fun {a o} h n1 n2 n3 => by
    refine b _ _ (fun e => ?_) h
    subst e
    rcases n o h with ⟨xs, e⟩ | ⟨kvs, e⟩ | ⟨C, dx, fs, e, l⟩
    · exact n1 _ e
    · exact n2 _ e
    · have := n3 _ _ _ e
      omega
  exact ⟨fun a xs h => no h (fun _ z => by cases z) (fun _ z => by cases z) (fun _ _ _ z => by cases z), fun a C dx fs l h => no h (fun _ z => by cases z) (fun _ z => by cases z) (fun _ _ _ z => by cases z; exact l)⟩
theorem Pres.tape {c : Addr} {n : Nat} {H H' : Hp} (t : TapeAt c n H) (b : But c H H') : Pres H H' := Pres.but b fun o e => by
  obtain ⟨x, y, z, h, _⟩ := t
  rw [h] at e
  cases e
  exact .inl ⟨_, rfl⟩
theorem PatAt.pres {C x : Addr} {H H' : Hp} {r : List Pc} (h : PatAt C H x r) (p : Pres H H') : PatAt C H' x r := by
  obtain ⟨dx, q, m, f, ws, f1, f2, f3, f4, h1, h2, h3, h4, h5, h6, h7, h8, h9⟩ := h
  exact ⟨dx, q, m, f, ws, f1, f2, f3, f4, p.i _ _ _ _ (by show 2 ≤ 4; decide) h1, p.t _ _ h2, ⟨h3.1, fun i y hy => let ⟨v, hv, t, e, z⟩ := h3.2 i y hy; ⟨v, hv, t, e, p.t _ _ z⟩⟩, p.t _ _ h4, p.t _ _ h5, p.t _ _ h6, p.t _ _ h7, p.t _ _ h8, p.t _ _ h9⟩
theorem RowT.pres {H H' : Hp} {v : V} {r : List Pc} (h : RowT H v r) (p : Pres H H') : RowT H' v r := by
  obtain ⟨q, ws, e, h1, h2, h3⟩ := h
  exact ⟨q, ws, e, p.t _ _ h1, ⟨h2.1, fun i y hy => let ⟨v, hv, t, e, z⟩ := h2.2 i y hy; ⟨v, hv, t, e, p.t _ _ z⟩⟩, h3⟩
abbrev Wr := List (Str × List Pc)
def hasW (ws : Wr) (x : Str) : Bool := ws.any fun p => decide (p.1 = x)
def putW (ws : Wr) (x : Str) (r : List Pc) : Wr := if hasW ws x = true then ws.map (fun p => if p.1 = x then (p.1, r) else p) else ws ++ [(x, r)]
def hasG (ws : Wr) : PyData → Bool
  | .str x => hasW ws x
  | _ => false
def Kvs (R : V → List Pc → Prop) : List (Key × V) → Wr → Prop
  | [], [] => True
  | kv :: t, p :: u => kv.1 = Sum.inr p.1 ∧ R kv.2 p.2 ∧ Kvs R t u
  | _, _ => False
theorem Kvs.imp {R S : V → List Pc → Prop} (f : ∀ v r, R v r → S v r) : ∀ {kvs : List (Key × V)} {ws : Wr}, Kvs R kvs ws → Kvs S kvs ws
  | [], [], _ => trivial
  | kv :: t, p :: u, h => ⟨h.1, f _ _ h.2.1, Kvs.imp f h.2.2⟩
  | [], _ :: _, h => h.elim
  | _ :: _, [], h => h.elim
theorem Kvs.len {R : V → List Pc → Prop} : ∀ {kvs : List (Key × V)} {ws : Wr}, Kvs R kvs ws → kvs.length = ws.length
  | [], [], _ => rfl
  | kv :: t, p :: u, h => by rw [List.length_cons, List.length_cons, Kvs.len h.2.2]
  | [], _ :: _, h => h.elim
  | _ :: _, [], h => h.elim
theorem inr_eq {a b : Str} : ((Sum.inr a : Key) = Sum.inr b) ↔ a = b := ⟨fun h => Sum.inr.inj h, fun h => by rw [h]⟩
theorem Kvs.any {R : V → List Pc → Prop} (x : Str) : ∀ {kvs : List (Key × V)} {ws : Wr}, Kvs R kvs ws → (kvs.any fun kv => decide (kv.1 = (Sum.inr x : Key))) = hasW ws x
  | [], [], _ => rfl
  | kv :: t, p :: u, h => by
    unfold hasW
    rw [List.any_cons, List.any_cons, Kvs.any x h.2.2, h.1]
    refine congrArg (· || _) ?_
    rw [decide_eq_decide]
    exact inr_eq
  | [], _ :: _, h => h.elim
  | _ :: _, [], h => h.elim
theorem Kvs.app {R : V → List Pc → Prop} {x : Str} {v : V} {r : List Pc} (hr : R v r) : ∀ {kvs : List (Key × V)} {ws : Wr}, Kvs R kvs ws → Kvs R (kvs ++ [(Sum.inr x, v)]) (ws ++ [(x, r)])
  | [], [], _ => ⟨rfl, hr, trivial⟩
  | kv :: t, p :: u, h => ⟨h.1, h.2.1, Kvs.app hr h.2.2⟩
  | [], _ :: _, h => h.elim
  | _ :: _, [], h => h.elim
theorem Kvs.map {R : V → List Pc → Prop} {x : Str} {v : V} {r : List Pc} (hr : R v r) : ∀ {kvs : List (Key × V)} {ws : Wr}, Kvs R kvs ws → Kvs R (kvs.map fun kv => if kv.1 = (Sum.inr x : Key) then (kv.1, v) else kv) (ws.map fun p => if p.1 = x then (p.1, r) else p)
  | [], [], _ => trivial
  | kv :: t, p :: u, h => by
    rw [List.map_cons, List.map_cons]
    by_cases e : p.1 = x
    · have e2 : kv.1 = (Sum.inr x : Key) := by rw [h.1, e]
      rw [if_pos e, if_pos e2]
      exact ⟨h.1, hr, Kvs.map hr h.2.2⟩
    · have e2 : ¬ kv.1 = (Sum.inr x : Key) := fun z => e (Sum.inr.inj (h.1.symm.trans z))
      rw [if_neg e, if_neg e2]
      exact ⟨h.1, h.2.1, Kvs.map hr h.2.2⟩
  | [], _ :: _, h => h.elim
  | _ :: _, [], h => h.elim
theorem Kvs.put {R : V → List Pc → Prop} {x : Str} {v : V} {r : List Pc} {kvs : List (Key × V)} {ws : Wr} (h : Kvs R kvs ws) (hr : R v r) : Kvs R (putK kvs (Sum.inr x) v) (putW ws x r) := by
  unfold putK putW
  rw [Kvs.any x h]
  split
  · exact Kvs.map hr h
  · exact Kvs.app hr h
theorem Kvs.has {R : V → List Pc → Prop} {x : Str} {kvs : List (Key × V)} {ws : Wr} (h : Kvs R kvs ws) : (valV kvs (Sum.inr x : Key)).isSome = hasW ws x := by
  rw [← valV_any, Kvs.any x h]
def valNm : Wr → Str → Option (List Pc)
  | [], _ => none
  | p :: u, x => if p.1 = x then some p.2 else valNm u x
theorem Kvs.val {R : V → List Pc → Prop} {x : Str} : ∀ {kvs : List (Key × V)} {ws : Wr}, Kvs R kvs ws → hasW ws x = true → ∃ v r, valV kvs (Sum.inr x : Key) = some v ∧ valNm ws x = some r ∧ R v r
  | [], [], _, z => by cases z
  | kv :: t, p :: u, h, z => by
    by_cases e : p.1 = x
    · exact ⟨kv.2, p.2, valV_pos (by rw [h.1, e]), by unfold valNm; rw [if_pos e], h.2.1⟩
    · have z' : hasW u x = true := by
        unfold hasW at z ⊢
        rw [List.any_cons, decide_eq_false e, Bool.false_or] at z
        exact z
      obtain ⟨v, r, a, b, c⟩ := Kvs.val h.2.2 z'
      exact ⟨v, r, by rw [valV_neg (fun y => e (Sum.inr.inj (h.1.symm.trans y)))]; exact a, by unfold valNm; rw [if_neg e]; exact b, c⟩
  | [], _ :: _, h, _ => h.elim
  | _ :: _, [], h, _ => h.elim
def MF (d t : Addr) (bf : V) (n : Nat) : List (Str × V) := [(Str.ofString "stored", .ref d), (Str.ofString "stated", .ref t), (Str.ofString "before", bf), (Str.ofString "depth", .int (n : Int))]
def BF (m : Addr) : List (Str × V) := [(Str.ofString "present", .ref m)]
def PatV (C : Addr) (H : Hp) (v : V) (r : List Pc) : Prop := ∃ y, v = .ref y ∧ PatAt C H y r ∧ RowOk r ∧ 1 ≤ r.length ∧ r.length ≤ 8
def DeskAt (C Cb Cm : Addr) (H : Hp) (b d : Addr) (ws : Wr) (n : Nat) : Prop := ∃ (db m dm t : Addr) (bf : V) (kvs : List (Key × V)), H b = some (.ins Cb db (BF m)) ∧ H m = some (.ins Cm dm (MF d t bf n)) ∧ H d = some (.dK kvs) ∧ H t = some (.tup []) ∧ Kvs (PatV C H) kvs ws
theorem PatV.pres {C : Addr} {H H' : Hp} {v : V} {r : List Pc} (h : PatV C H v r) (p : Pres H H') : PatV C H' v r := by
  obtain ⟨y, e, a, b⟩ := h
  exact ⟨y, e, a.pres p, b⟩
theorem DeskAt.pres {C Cb Cm : Addr} {H H' : Hp} {b d : Addr} {ws : Wr} {n : Nat} (h : DeskAt C Cb Cm H b d ws n) (p : Pres H H') (hb : ∀ o, H b = some o → H' b = some o) (hd : ∀ o, H d = some o → H' d = some o) : DeskAt C Cb Cm H' b d ws n := by
  obtain ⟨db, m, dm, t, bf, kvs, h1, h2, h3, h4, h5⟩ := h
  exact ⟨db, m, dm, t, bf, kvs, hb _ h1, p.i _ _ _ _ (by show 2 ≤ 4; decide) h2, hd _ h3, p.t _ _ h4, h5.imp fun v r z => z.pres p⟩
theorem DeskAt.same {C Cb Cm : Addr} {H H' : Hp} {b d : Addr} {ws : Wr} {n : Nat} (h : DeskAt C Cb Cm H b d ws n) (s : Same H H') : DeskAt C Cb Cm H' b d ws n := h.pres (.of s) (fun _ e => s _ _ e) (fun _ e => s _ _ e)
/-! ### the promises of the classes' methods -/
def spMom (Cm : Addr) : Sp := fun vs H Q _ => ∃ (x dx d t : Addr) (bf : V) (n : Nat), vs = [.ref x, .ref d, .ref t, bf] ∧ H x = some (.ins Cm dx []) ∧ ((bf = .non ∧ n = 0) ∨ ∃ (z dz d' t' : Addr) (bf' : V) (k : Nat), bf = .ref z ∧ z ≠ x ∧ H z = some (.ins Cm dz (MF d' t' bf' k)) ∧ n = k + 1) ∧ ∀ H', But x H H' → H' x = some (.ins Cm dx (MF d t bf n)) → Q .non H'
def spBen (C Cb Cm : Addr) : Sp := fun vs H Q _ => ∃ (b db : Addr), vs = [.ref b] ∧ H b = some (.ins Cb db []) ∧ ∀ H' d, But b H H' → H d = none → DeskAt C Cb Cm H' b d [] 0 → Q .non H'
def spCon (K : PySem.W.Frag) (C Cb Cm : Addr) : Sp := fun vs H Q _ => ∃ (b d : Addr) (v : V) (e : PyData) (ws : Wr) (n : Nat), vs = [.ref b, v] ∧ DeskAt C Cb Cm H b d ws n ∧ Dq K H v e ∧ Q (.bl (hasG ws e)) H
def spGet (C Cb Cm : Addr) : Sp := fun vs H Q _ => ∃ (b d : Addr) (x : Str) (ws : Wr) (n : Nat), vs = [.ref b, .str x] ∧ DeskAt C Cb Cm H b d ws n ∧ hasW ws x = true ∧ ∀ v r, valNm ws x = some r → PatV C H v r → Q v H
def spLen (C Cb Cm : Addr) : Sp := fun vs H Q _ => ∃ (b d : Addr) (ws : Wr) (n : Nat), vs = [.ref b] ∧ DeskAt C Cb Cm H b d ws n ∧ Q (.int (ws.length : Int)) H
def spNms (C Cb Cm : Addr) : Sp := fun vs H Q _ => ∃ (b d : Addr) (ws : Wr) (n : Nat), vs = [.ref b] ∧ DeskAt C Cb Cm H b d ws n ∧ ws.length < 64 ∧ ∀ H' p ys, Same H H' → ys.Perm (ws.map (·.1)) → sortedS ys = true → H' p = some (.tup (ys.map V.str)) → Q (.ref p) H'
def spCls (C Cb Cm : Addr) : Sp := fun vs H Q _ => ∃ (b d : Addr) (ws : Wr) (n : Nat), vs = [.ref b] ∧ DeskAt C Cb Cm H b d ws n ∧ ∀ t, H t = some (.tup []) → Q (.ref t) H
def spChs (C Cb Cm : Addr) : Sp := fun vs H Q _ => ∃ (b d : Addr) (ws : Wr) (n : Nat), vs = [.ref b] ∧ DeskAt C Cb Cm H b d ws n ∧ Q (.int (n : Int)) H
def spChg (C Cb Cm : Addr) : Sp := fun vs H Q _ => ∃ (b d t d' : Addr) (ws ws' : Wr) (n : Nat) (kvs : List (Key × V)), vs = [.ref b, .ref d', .ref t] ∧ DeskAt C Cb Cm H b d ws n ∧ H d' = some (.dK kvs) ∧ H t = some (.tup []) ∧ Kvs (PatV C H) kvs ws' ∧ ∀ H', But b H H' → DeskAt C Cb Cm H' b d' ws' (n + 1) → Q .non H'
end RL

set_option maxHeartbeats 4000000
namespace RL
open PySem L2 PySem.Spec PyProof.Rows
/-! ### the classes' methods -/
section
variable {d t : Addr} {bf : V} {n : Nat} {m : Addr}
theorem lk_st : List.lookup ("stored" : Str) (MF d t bf n) = some (.ref d) := by
  have h : (("stored" : Str) == Str.ofString "stored") = true := by decide +kernel
  unfold MF
  simp [List.lookup, h]
theorem lk_sd : List.lookup ("stated" : Str) (MF d t bf n) = some (.ref t) := by
  have h : (("stated" : Str) == Str.ofString "stored") = false := by decide +kernel
  have h2 : (("stated" : Str) == Str.ofString "stated") = true := by decide +kernel
  unfold MF
  simp [List.lookup, h, h2]
theorem lk_de : List.lookup ("depth" : Str) (MF d t bf n) = some (.int (n : Int)) := by
  have h : (("depth" : Str) == Str.ofString "stored") = false := by decide +kernel
  have h2 : (("depth" : Str) == Str.ofString "stated") = false := by decide +kernel
  have h3 : (("depth" : Str) == Str.ofString "before") = false := by decide +kernel
  have h4 : (("depth" : Str) == Str.ofString "depth") = true := by decide +kernel
  unfold MF
  simp [List.lookup, h, h2, h3, h4]
theorem lk_pr : List.lookup ("present" : Str) (BF m) = some (.ref m) := by
  have h : (("present" : Str) == Str.ofString "present") = true := by decide +kernel
  unfold BF
  simp [List.lookup, h]
theorem nm_pr {x : Str} (h : (x == Str.ofString "present") = false) : List.lookup x (BF m) = none := by
  unfold BF
  simp [List.lookup, h]
end
theorem pf1 {d : V} : putF ("stored" : Str) d [] = [(Str.ofString "stored", d)] := rfl
theorem pf2 {d t : V} : putF ("stated" : Str) t [(Str.ofString "stored", d)] = [(Str.ofString "stored", d), (Str.ofString "stated", t)] := by
  have h : ¬ (Str.ofString "stored" = ("stated" : Str)) := by decide +kernel
  simp [putF, h]
theorem pf3 {d t b : V} : putF ("before" : Str) b [(Str.ofString "stored", d), (Str.ofString "stated", t)] = [(Str.ofString "stored", d), (Str.ofString "stated", t), (Str.ofString "before", b)] := by
  have h : ¬ (Str.ofString "stored" = ("before" : Str)) := by decide +kernel
  have h2 : ¬ (Str.ofString "stated" = ("before" : Str)) := by decide +kernel
  simp [putF, h, h2]
theorem pf4 {d t b n : V} : putF ("depth" : Str) n [(Str.ofString "stored", d), (Str.ofString "stated", t), (Str.ofString "before", b)] = [(Str.ofString "stored", d), (Str.ofString "stated", t), (Str.ofString "before", b), (Str.ofString "depth", n)] := by
  have h : ¬ (Str.ofString "stored" = ("depth" : Str)) := by decide +kernel
  have h2 : ¬ (Str.ofString "stated" = ("depth" : Str)) := by decide +kernel
  have h3 : ¬ (Str.ofString "before" = ("depth" : Str)) := by decide +kernel
  simp [putF, h, h2, h3]
theorem upd_upd {H : Hp} {a : Addr} {o o' : HO} : upd (upd H a o) a o' = upd H a o' := by
  funext x
  unfold upd
  split <;> rfl
structure MomD (P : Program) (w : World) (K : PySem.W.Frag) (mg : Str → Option Value) (base : Heap) (Cm f : Addr) (fd : FuncData) : Prop where
  m : Mk K Cm f
  fn : FnOk P w K mg base CX0 1 f fd ["self", "stored", "stated", "before"] (spMom Cm)
  bd : Binds K fd ["self", "stored", "stated", "before"] []
structure OwF (P : Program) (w : World) (K : PySem.W.Frag) (mg : Str → Option Value) (base : Heap) (C : Addr) (at' : Str) (k : Nat) (ps : List Str) (sp : Sp) (g : Addr) (fd : FuncData) : Prop where
  at_ : PySem.W.findIn K (.ref C) at' = some (some (.ref g))
  fn : PySem.W.isFn K (.ref g) = true
  ok : FnOk P w K mg base CX0 k g fd ps sp
  b : Binds K fd ps []
section
variable {P : Program} {w : World} {K : PySem.W.Frag} {mg : Str → Option Value} {base : Heap} {tG t1 t2 t3 tLo tLe : Tok} {aO aW J C Cb Cm fM gC : Addr} {fdM fdC : FuncData}
theorem sc_Moment_init : FnScope ["self", "stored", "stated", "before"] ["self", "stored", "stated", "before"] (defScope s_Moment_init) := ⟨rfl, rfl, rfl, by decide +kernel, rfl, by decide +kernel, by decide +kernel⟩

theorem ok_mom {f : Addr} {fd : FuncData} (F : Fun K "__init__" "Moment.__init__" s_Moment_init f fd) (T : TxK K mg tG t1 t2 t3 tLo tLe aO aW J C Cb Cm) : FnOk P w K mg base CX0 1 f fd ["self", "stored", "stated", "before"] (spMom Cm) := by
  refine F.ok sc_Moment_init (fun vs H Q E h => ?_) (fun cdv A outer s H vs Q E hr h => ?_)
  · obtain ⟨x, dx, d, t, bf, n, rfl, _⟩ := h
    rfl
  · obtain ⟨x, dx, d, t, bf, n, rfl, hx, hb, k⟩ := h
    refine ⟨_, (pss_cons (ps_fld (pv 0) (pv 1) rfl)
      (pss_cons (ps_fld (pv 0) (pv 2) rfl)
      (pss_cons (ps_fld (pv 0) (pv 3) rfl)
      (pss_one (ps_fld (pv 0) (pe_ifExp (pt_cmpR op_isN (pv 3) pe_non (nomark _)) pe_int (pe_op op_add (pe_fld (pv 3) rfl) pe_int)) rfl))))), ?_⟩
    refine ⟨_, rfl, _, rfl, x, Cm, dx, _, rfl, hx, T.clM, T.nSt, by decide, ?_⟩
    rw [pf1]
    refine ⟨_, rfl, _, rfl, x, Cm, dx, _, rfl, upd_same, T.clM, T.nSd, by show 1 < 1000; decide, ?_⟩
    rw [pf2, upd_upd]
    refine ⟨_, rfl, _, rfl, x, Cm, dx, _, rfl, upd_same, T.clM, T.nBe, by show 2 < 1000; decide, ?_⟩
    rw [pf3, upd_upd]
    have b1 : But x H (upd H x (.ins Cm dx [(Str.ofString "stored", .ref d), (Str.ofString "stated", .ref t), (Str.ofString "before", bf)])) := But.upd
    have h1 : (upd H x (.ins Cm dx [(Str.ofString "stored", .ref d), (Str.ofString "stated", .ref t), (Str.ofString "before", bf)])) x = some (.ins Cm dx [(Str.ofString "stored", .ref d), (Str.ofString "stated", .ref t), (Str.ofString "before", bf)]) := upd_same
    generalize upd H x (.ins Cm dx [(Str.ofString "stored", .ref d), (Str.ofString "stated", .ref t), (Str.ofString "before", bf)]) = H1 at *
    have fin : ∀ m : Nat, n = m → Q .non (upd H1 x (.ins Cm dx (putF ("depth" : Str) (.int (m : Int)) [(Str.ofString "stored", .ref d), (Str.ofString "stated", .ref t), (Str.ofString "before", bf)]))) := fun m e => by
      rw [pf4]
      subst e
      exact k _ (b1.trans But.upd) upd_same
    refine ⟨_, rfl, ?_⟩
    rcases hb with ⟨rfl, e0⟩ | ⟨z, dz, d', t', bf', j, rfl, nz, hz, e0⟩
    · refine ⟨rfl, _, rfl, ite2 (fun _ => ?_) (fun w => absurd (by decide) w)⟩
      exact ⟨_, rfl, x, Cm, dx, _, rfl, h1, T.clM, T.nDe, by show 3 < 1000; decide, fin 0 e0⟩
    · refine ⟨rfl, _, rfl, ite2 (fun w => absurd w (by simp)) (fun _ => ?_)⟩
      refine ⟨_, rfl, z, Cm, dz, _, _, rfl, b1 _ _ nz hz, T.clM, T.nDe, lk_de, _, _, rfl, rfl, ?_⟩
      exact ⟨_, rfl, x, Cm, dx, _, rfl, h1, T.clM, T.nDe, by show 3 < 1000; decide, fin (j + 1) e0⟩
end
end RL

set_option maxHeartbeats 4000000
namespace RL
open PySem L2 PySem.Spec PyProof.Rows
/-! ### class Bench -/
structure OwM (P : Program) (w : World) (K : PySem.W.Frag) (mg : Str → Option Value) (base : Heap) (C : Addr) (at' : Str) (k : Nat) (ps : List Str) (sp : Sp) (g : Addr) (fd : FuncData) : Prop where
  m : Meth K C at' g
  ok : FnOk P w K mg base CX0 k g fd ps sp
  b : Binds K fd ps []
def spSet (C Cb Cm : Addr) : Sp := fun vs H Q _ => ∃ (b d : Addr) (x : Str) (y : V) (r : List Pc) (ws : Wr) (n : Nat), vs = [.ref b, .str x, y] ∧ DeskAt C Cb Cm H b d ws n ∧ ws.length < 60 ∧ nameS x = true ∧ PatV C H y r ∧ ∀ H' d', But b H H' → H d' = none → DeskAt C Cb Cm H' b d' (putW ws x r) (n + 1) → Q .non H'
theorem mk_same {H H' : Hp} {x dx : Addr} {o o2 : HO} (nx : H x = none) (ndx : H dx = none) (b : But x (upd (upd H dx o) x o2) H') : Same H H' := fun a u e => by
  refine b _ _ (ne_of_none e nx) ?_
  rw [upd_ne (ne_of_none e nx), upd_ne (ne_of_none e ndx)]
  exact e
theorem ne_of {H : Hp} {a b : Addr} {o u : HO} (h : H a = some o) (g : H b = some u) (n : o ≠ u) : a ≠ b := fun e => n (by subst e; rw [h] at g; exact Option.some.inj g)
theorem Kvs.keys {R : V → List Pc → Prop} : ∀ {kvs : List (Key × V)} {ws : Wr}, Kvs R kvs ws → (kvs.map fun kv => kV kv.1) = (ws.map (·.1)).map V.str
  | [], [], _ => rfl
  | kv :: t, p :: u, h => by
    rw [List.map_cons, List.map_cons, List.map_cons, Kvs.keys h.2.2, h.1]
    rfl
  | [], _ :: _, h => h.elim
  | _ :: _, [], h => h.elim
theorem Pres.b {b C dx : Addr} {fs : List (Str × V)} {H H' : Hp} (h : H b = some (.ins C dx fs)) (l : fs.length ≤ 1) (s : But b H H') : Pres H H' := Pres.but s fun o e => by
  rw [h] at e
  cases e
  exact .inr (.inr ⟨_, _, _, rfl, l⟩)
section
variable {P : Program} {w : World} {K : PySem.W.Frag} {mg : Str → Option Value} {base : Heap} {tG t1 t2 t3 tLo tLe : Tok} {aO aW J C Cb Cm fM gC : Addr} {fdM fdC : FuncData}
theorem sc_Bench_init : FnScope ["self"] ["self"] (defScope s_Bench_init) := ⟨rfl, rfl, rfl, by decide +kernel, rfl, by decide +kernel, by decide +kernel⟩

theorem ok_ben {f : Addr} {fd : FuncData} (F : Fun K "__init__" "Bench.__init__" s_Bench_init f fd) (T : TxK K mg tG t1 t2 t3 tLo tLe aO aW J C Cb Cm) (X_mom : MomD P w K mg base Cm fM fdM) : FnOk P w K mg base CX0 3 f fd ["self"] (spBen C Cb Cm) := by
  refine F.ok sc_Bench_init (fun vs H Q E h => ?_) (fun cdv A outer s H vs Q E hr h => ?_)
  · obtain ⟨b, db, rfl, _⟩ := h
    rfl
  · obtain ⟨b, db, rfl, hb, k⟩ := h
    refine ⟨_, (pss_one (ps_fld (pv 0) (pe_make X_mom.m X_mom.fn (hr.mono (by decide)) rfl T.mgM X_mom.bd .nil pass0 (pa_cons pe_dnewK (pa_cons (pe_tup pa_nil) (pa_cons pe_non pa_nil)))) rfl)), ?_⟩
    intro d hd
    refine ⟨Nat.zero_le _, fun t ht => ?_⟩
    intro x dx nx ndx nxd
    have s1 : Same H (upd (upd H d (.dK [])) t (.tup [])) := (same_upd hd).trans (same_upd ht)
    have hd1 : (upd (upd H d (.dK [])) t (.tup [])) d = some (.dK []) := by
      rw [upd_ne (ne_of_none upd_same ht)]
      exact upd_same
    have ht1 : (upd (upd H d (.dK [])) t (.tup [])) t = some (.tup []) := upd_same
    generalize upd (upd H d (.dK [])) t (.tup []) = H1 at *
    refine ⟨x, dx, d, t, .non, 0, rfl, upd_same, .inl ⟨rfl, rfl⟩, fun H' b1 h1 => ⟨rfl, ?_⟩⟩
    have s2 : Same H1 H' := mk_same nx ndx b1
    have hb1 := s1 _ _ hb
    refine ⟨_, rfl, b, Cb, db, _, rfl, s2 _ _ hb1, T.clB, T.nPr, by decide, ?_⟩
    have nxb : x ≠ b := (ne_of_none hb1 nx).symm
    refine k _ d ((But.of (s1.trans s2)).trans But.upd) hd ⟨db, x, dx, t, .non, [], upd_same, ?_, ?_, ?_, trivial⟩
    · rw [upd_ne nxb]
      exact h1
    · rw [upd_ne (ne_of hd1 hb1 (by intro z; cases z))]
      exact s2 _ _ hd1
    · rw [upd_ne (ne_of ht1 hb1 (by intro z; cases z))]
      exact s2 _ _ ht1
theorem sc_Bench_contains : FnScope ["self", "x"] ["self", "x"] (defScope s_Bench_contains) := ⟨rfl, rfl, rfl, by decide +kernel, rfl, by decide +kernel, by decide +kernel⟩

theorem ok_con {f : Addr} {fd : FuncData} (F : Fun K "__contains__" "Bench.__contains__" s_Bench_contains f fd) (T : TxK K mg tG t1 t2 t3 tLo tLe aO aW J C Cb Cm) : FnOk P w K mg base CX0 1 f fd ["self", "x"] (spCon K C Cb Cm) := by
  refine F.ok sc_Bench_contains (fun vs H Q E h => ?_) (fun cdv A outer s H vs Q E hr h => ?_)
  · obtain ⟨b, d, v, e, ws, n, rfl, _⟩ := h
    rfl
  · obtain ⟨b, d, v, e, ws, n, rfl, hD, hv, k⟩ := h
    refine ⟨_, (pss_one (ps_ret (pe_and (pe_callB call_isi (by rfl) T.isinstance (by decide +kernel) (pa_cons (pv 1) (pa_cons (pe_bltn (v := .ty "str") (by rfl) T.str_ (by decide +kernel) rfl) pa_nil))) (pe_one (pe_cmp (pc_din (u1_of hr.units) (pv 1) (pe_fld (pe_fld (pv 0) rfl) rfl))))))), ?_⟩
    obtain ⟨db, m, dm, t, bf, kvs, h1, h2, h3, h4, h5⟩ := hD
    refine ⟨_, rfl, _, _, _, _, isStrD e, rfl, .ty _, ty_dq hv, kit_str e, _, rfl, ?_⟩
    cases h : isStrD e with
    | false =>
      have e1 : hasG ws e = false := by cases e <;> first | rfl | exact absurd h (by simp [isStrD])
      rw [e1] at k
      exact iteF k
    | true =>
      obtain ⟨x, rfl⟩ : ∃ x, e = .str x := by cases e <;> first | exact ⟨_, rfl⟩ | exact absurd h (by simp [isStrD])
      cases str_of_q hv
      refine iteT ⟨_, rfl, _, rfl, b, Cb, db, _, _, rfl, h1, T.clB, T.nPr, lk_pr, m, Cm, dm, _, _, rfl, h2, T.clM, T.nSt, lk_st, d, _, rfl, DGet.k (k := .inr x) h3, ?_⟩
      rw [h5.has]
      exact k
theorem sc_Bench_len : FnScope ["self"] ["self"] (defScope s_Bench_len) := ⟨rfl, rfl, rfl, by decide +kernel, rfl, by decide +kernel, by decide +kernel⟩

theorem ok_len {f : Addr} {fd : FuncData} (F : Fun K "__len__" "Bench.__len__" s_Bench_len f fd) (T : TxK K mg tG t1 t2 t3 tLo tLe aO aW J C Cb Cm) : FnOk P w K mg base CX0 1 f fd ["self"] (spLen C Cb Cm) := by
  refine F.ok sc_Bench_len (fun vs H Q E h => ?_) (fun cdv A outer s H vs Q E hr h => ?_)
  · obtain ⟨b, d, ws, n, rfl, _⟩ := h
    rfl
  · obtain ⟨b, d, ws, n, rfl, hD, k⟩ := h
    refine ⟨_, (pss_one (ps_ret (pe_callB call_lenD (by rfl) T.len (by decide +kernel) (pa_cons (pe_fld (pe_fld (pv 0) rfl) rfl) pa_nil)))), ?_⟩
    obtain ⟨db, m, dm, t, bf, kvs, h1, h2, h3, h4, h5⟩ := hD
    refine ⟨_, rfl, b, Cb, db, _, _, rfl, h1, T.clB, T.nPr, lk_pr, m, Cm, dm, _, _, rfl, h2, T.clM, T.nSt, lk_st, d, kvs, rfl, h3, ?_⟩
    rw [h5.len]
    exact k
theorem sc_Bench_names : FnScope ["self"] ["self"] (defScope s_Bench_names) := ⟨rfl, rfl, rfl, by decide +kernel, rfl, by decide +kernel, by decide +kernel⟩

theorem ok_nms {f : Addr} {fd : FuncData} (F : Fun K "names" "Bench.names" s_Bench_names f fd) (T : TxK K mg tG t1 t2 t3 tLo tLe aO aW J C Cb Cm) : FnOk P w K mg base CX0 1 f fd ["self"] (spNms C Cb Cm) := by
  refine F.ok sc_Bench_names (fun vs H Q E h => ?_) (fun cdv A outer s H vs Q E hr h => ?_)
  · obtain ⟨b, d, ws, n, rfl, _⟩ := h
    rfl
  · obtain ⟨b, d, ws, n, rfl, hD, hl, k⟩ := h
    refine ⟨_, (pss_one (ps_ret (pe_callTy call_tuple_of (by rfl) T.tuple_ (by decide +kernel) (pa_cons (pe_callB cr_sortedS (by rfl) T.sorted (by decide +kernel) (pa_cons (pe_callTy (call_listD rfl) (by rfl) T.list_ (by decide +kernel) (pa_cons (pe_fld (pe_fld (pv 0) rfl) rfl) pa_nil)) pa_nil)) pa_nil)))), ?_⟩
    obtain ⟨db, m, dm, t, bf, kvs, h1, h2, h3, h4, h5⟩ := hD
    refine ⟨_, rfl, b, Cb, db, _, _, rfl, h1, T.clB, T.nPr, lk_pr, m, Cm, dm, _, _, rfl, h2, T.clM, T.nSt, lk_st, d, kvs, rfl, .of h3, fun p hp => ?_⟩
    rw [h5.keys]
    refine ⟨p, _, rfl, .of upd_same, by rw [List.length_map]; exact hl, fun ys q py sy hq => ⟨q, _, rfl, .inl ⟨.of upd_same, fun l hl => ?_⟩⟩⟩
    exact k _ l ys (((same_upd hp).trans (same_upd hq)).trans (same_upd hl)) py sy upd_same
theorem sc_Bench_claims : FnScope ["self"] ["self"] (defScope s_Bench_claims) := ⟨rfl, rfl, rfl, by decide +kernel, rfl, by decide +kernel, by decide +kernel⟩

theorem ok_cls {f : Addr} {fd : FuncData} (F : Fun K "claims" "Bench.claims" s_Bench_claims f fd) (T : TxK K mg tG t1 t2 t3 tLo tLe aO aW J C Cb Cm) : FnOk P w K mg base CX0 1 f fd ["self"] (spCls C Cb Cm) := by
  refine F.ok sc_Bench_claims (fun vs H Q E h => ?_) (fun cdv A outer s H vs Q E hr h => ?_)
  · obtain ⟨b, d, ws, n, rfl, _⟩ := h
    rfl
  · obtain ⟨b, d, ws, n, rfl, ⟨db, m, dm, t, bf, kvs, h1, h2, h3, h4, h5⟩, k⟩ := h
    refine ⟨_, (pss_one (ps_ret (pe_fld (pe_fld (pv 0) rfl) rfl))), ?_⟩
    exact ⟨_, rfl, b, Cb, db, _, _, rfl, h1, T.clB, T.nPr, lk_pr, m, Cm, dm, _, _, rfl, h2, T.clM, T.nSd, lk_sd, k t h4⟩
theorem sc_Bench_changes : FnScope ["self"] ["self"] (defScope s_Bench_changes) := ⟨rfl, rfl, rfl, by decide +kernel, rfl, by decide +kernel, by decide +kernel⟩

theorem ok_chs {f : Addr} {fd : FuncData} (F : Fun K "changes" "Bench.changes" s_Bench_changes f fd) (T : TxK K mg tG t1 t2 t3 tLo tLe aO aW J C Cb Cm) : FnOk P w K mg base CX0 1 f fd ["self"] (spChs C Cb Cm) := by
  refine F.ok sc_Bench_changes (fun vs H Q E h => ?_) (fun cdv A outer s H vs Q E hr h => ?_)
  · obtain ⟨b, d, ws, n, rfl, _⟩ := h
    rfl
  · obtain ⟨b, d, ws, n, rfl, ⟨db, m, dm, t, bf, kvs, h1, h2, h3, h4, h5⟩, k⟩ := h
    refine ⟨_, (pss_one (ps_ret (pe_fld (pe_fld (pv 0) rfl) rfl))), ?_⟩
    exact ⟨_, rfl, b, Cb, db, _, _, rfl, h1, T.clB, T.nPr, lk_pr, m, Cm, dm, _, _, rfl, h2, T.clM, T.nDe, lk_de, k⟩
theorem sc_Bench_change : FnScope ["self", "stored", "stated"] ["self", "stored", "stated"] (defScope s_Bench_change) := ⟨rfl, rfl, rfl, by decide +kernel, rfl, by decide +kernel, by decide +kernel⟩

theorem ok_chg {f : Addr} {fd : FuncData} (F : Fun K "change" "Bench.change" s_Bench_change f fd) (T : TxK K mg tG t1 t2 t3 tLo tLe aO aW J C Cb Cm) (X_mom : MomD P w K mg base Cm fM fdM) : FnOk P w K mg base CX0 3 f fd ["self", "stored", "stated"] (spChg C Cb Cm) := by
  refine F.ok sc_Bench_change (fun vs H Q E h => ?_) (fun cdv A outer s H vs Q E hr h => ?_)
  · obtain ⟨b, d, t, d', ws, ws', n, kvs, rfl, _⟩ := h
    rfl
  · obtain ⟨b, d, t', d', ws, ws', n, kvs', rfl, ⟨db, m, dm, t, bf, kvs, h1, h2, h3, h4, h5⟩, hd', ht', hk', k⟩ := h
    refine ⟨_, (pss_one (ps_fld (pv 0) (pe_make X_mom.m X_mom.fn (hr.mono (by decide)) rfl T.mgM X_mom.bd .nil pass0 (pa_cons (pv 1) (pa_cons (pv 2) (pa_cons (pe_fld (pv 0) rfl) pa_nil)))) rfl)), ?_⟩
    refine ⟨_, rfl, _, rfl, _, rfl, b, Cb, db, _, _, rfl, h1, T.clB, T.nPr, lk_pr, ?_⟩
    intro x dx nx ndx nxd
    refine ⟨x, dx, d', t', .ref m, n + 1, rfl, upd_same, .inr ⟨m, dm, d, t, bf, n, rfl, ne_of_none h2 nx, ?_, rfl⟩, fun H' b1 h1' => ⟨rfl, ?_⟩⟩
    · rw [upd_ne (ne_of_none h2 nx), upd_ne (ne_of_none h2 ndx)]
      exact h2
    have s2 : Same H H' := mk_same nx ndx b1
    refine ⟨_, rfl, b, Cb, db, _, rfl, s2 _ _ h1, T.clB, T.nPr, by show 1 < 1000; decide, ?_⟩
    have nxb : x ≠ b := (ne_of_none h1 nx).symm
    have pr : Pres H (upd H' b (.ins Cb db (putF ("present" : Str) (.ref x) (BF m)))) := (Pres.of s2).trans (Pres.b (s2 _ _ h1) (Nat.le_refl _) But.upd)
    refine k _ ((But.of s2).trans But.upd) ⟨db, x, dx, t', .ref m, kvs', upd_same, ?_, ?_, ?_, hk'.imp fun v r z => z.pres pr⟩
    · rw [upd_ne nxb]
      exact h1'
    · rw [upd_ne (ne_of hd' h1 (by intro z; cases z))]
      exact s2 _ _ hd'
    · exact pr.t _ _ ht'
theorem sc_Bench_getitem : FnScope ["self", "at"] ["self", "at"] (defScope s_Bench_getitem) := ⟨rfl, rfl, rfl, by decide +kernel, rfl, by decide +kernel, by decide +kernel⟩

theorem ok_get {f : Addr} {fd : FuncData} (F : Fun K "__getitem__" "Bench.__getitem__" s_Bench_getitem f fd) (T : TxK K mg tG t1 t2 t3 tLo tLe aO aW J C Cb Cm) (OCn : OwF P w K mg base Cb "__contains__" 1 ["self", "x"] (spCon K C Cb Cm) gC fdC) : FnOk P w K mg base CX0 2 f fd ["self", "at"] (spGet C Cb Cm) := by
  refine F.ok sc_Bench_getitem (fun vs H Q E h => ?_) (fun cdv A outer s H vs Q E hr h => ?_)
  · obtain ⟨b, d, x, ws, n, rfl, _⟩ := h
    rfl
  · obtain ⟨b, d, x, ws, n, rfl, hD, hx, k⟩ := h
    refine ⟨_, (pss_cons (ps_if (pt_cmpR (op_notInOwn OCn.at_ OCn.fn OCn.ok OCn.b (hr.mono (by decide))) (pv 1) (pv 0) (by rfl)) (pss_one ps_never) pss_nil)
      (pss_one (ps_ret (pe_dget (u1_of hr.units) (pe_fld (pe_fld (pv 0) rfl) rfl) (pv 1) (fun _ _ => rfl))))), ?_⟩
    have hD0 := hD
    obtain ⟨db, m, dm, t, bf, kvs, h1, h2, h3, h4, h5⟩ := hD
    refine ⟨_, rfl, _, rfl, b, db, _, rfl, h1, b, d, .str x, .str x, ws, n, rfl, hD0, .dp (.str x) rfl, true, ?_, ?_⟩
    · show V.bl (hasW ws x) = _
      rw [hx]
    refine ⟨_, rfl, iteF ?_⟩
    obtain ⟨v, r, e1, e2, e3⟩ := h5.val hx
    refine ⟨_, rfl, b, Cb, db, _, _, rfl, h1, T.clB, T.nPr, lk_pr, m, Cm, dm, _, _, rfl, h2, T.clM, T.nSt, lk_st, _, rfl, d, v, rfl, ?_, k v r e2 e3⟩
    rw [← e1]
    exact DGet.k (k := .inr x) h3
end
end RL

set_option maxHeartbeats 4000000
namespace RL
open PySem L2 PySem.Spec PyProof.Rows
def spSetN (K : PySem.W.Frag) (C Cb Cm C0 C5 : Addr) : Sp := fun vs H Q E => ∃ (b d : Addr) (v y : V) (e : PyData) (ws : Wr) (n : Nat), vs = [.ref b, v, y] ∧ DeskAt C Cb Cm H b d ws n ∧ Dq K H v e ∧ (∀ x, e = .str x → x.length ≤ sizeLine) ∧ (nameG e = false → giv C5 v H E) ∧ (nameG e = true → ∃ d2, Dq K H y d2 ∧ giv C0 y H E)
def spGetN (K : PySem.W.Frag) (C Cb Cm C9 : Addr) : Sp := fun vs H Q E => ∃ (b d : Addr) (v : V) (e : PyData) (ws : Wr) (n : Nat), vs = [.ref b, v] ∧ DeskAt C Cb Cm H b d ws n ∧ Dq K H v e ∧ hasG ws e = false ∧ giv C9 v H E
section
variable {P : Program} {w : World} {K : PySem.W.Frag} {mg : Str → Option Value} {base : Heap} {tG t1 t2 t3 tLo tLe : Tok} {aO aW J C Cb Cm fN fC gC gG : Addr} {fdN fdC fdG fdK : FuncData} {c : Nat → Addr}
theorem sc_Bench_setitem : FnScope ["self", "at", "worth", "stored", "index", "claim"] ["self", "at", "worth"] (defScope s_Bench_setitem) := ⟨rfl, rfl, rfl, by decide +kernel, rfl, by decide +kernel, by decide +kernel⟩

theorem ok_set {f : Addr} {fd : FuncData} (F : Fun K "__setitem__" "Bench.__setitem__" s_Bench_setitem f fd) (T : TxK K mg tG t1 t2 t3 tLo tLe aO aW J C Cb Cm) (D_is_name : Df P w K mg base 1 "is_name" ["value"] (spNameG K)) (D_check_pattern : Df P w K mg base 1 "check_pattern" ["value"] (spChkP C)) (OCg : OwM P w K mg base Cb "change" 3 ["self", "stored", "stated"] (spChg C Cb Cm) gG fdG) : FnOk P w K mg base CX0 4 f fd ["self", "at", "worth"] (spSet C Cb Cm) := by
  refine F.ok sc_Bench_setitem (fun vs H Q E h => ?_) (fun cdv A outer s H vs Q E hr h => ?_)
  · obtain ⟨b, d, x, y, r, ws, n, rfl, _⟩ := h
    rfl
  · obtain ⟨b, d, x, y, r, ws, n, rfl, hD, hl, hx, hy, k⟩ := h
    refine ⟨_, (pss_cons (ps_if (pt_not (pt_val (pe_df D_is_name (hr.mono (by decide)) (by rfl) (pa_cons (pv 1) pa_nil)))) (pss_one ps_never) pss_nil)
      (pss_cons (ps_expr (pe_df D_check_pattern (hr.mono (by decide)) (by rfl) (pa_cons (pv 2) pa_nil)))
      (pss_cons (ps_set (i := 3) sc_Bench_setitem.nd rfl (.inl rfl) (pe_callTy call_dictD (by rfl) T.dict_ (by decide +kernel) (pa_cons (pe_fld (pe_fld (pv 0) rfl) rfl) pa_nil)))
      (pss_cons (ps_dput (u1_of hr.units) (pv 3) (pv 1) (pv 2) (by rfl))
      (pss_cons (ps_for PassesOwn.never rfl (pi_enumT (by rfl) T.enumerate (pa_cons (pe_fld (pe_fld (pv 0) rfl) rfl) pa_nil)) (pg_tup rfl (pgs_cons (pg_name (i := 4) sc_Bench_setitem.nd rfl (.inl rfl)) (pgs_cons (pg_name (i := 5) sc_Bench_setitem.nd rfl (.inl rfl)) pgs_nil))) pss_never)
      (pss_one (ps_expr (pe_meth (pv 0) T.clB OCg.m OCg.ok (hr.mono (by decide)) OCg.b .nil pass0 (pa_cons (pv 3) (pa_cons (pe_fld (pe_fld (pv 0) rfl) rfl) pa_nil)))))))))), ?_⟩
    have hxl : x.length ≤ sizeLine := by
      unfold nameS at hx
      simp at hx
      exact small64 (by omega)
    refine ⟨_, rfl, .str x, .str x, rfl, .dp (.str x) rfl, (fun z e => by cases e; exact hxl), fun H1 s1 => ?_⟩
    have e1 : nameG (.str x) = true := hx
    rw [e1]
    refine ⟨true, rfl, iteF ?_⟩
    have hD1 := hD.same s1
    obtain ⟨z, rfl, hz, hrest⟩ := hy
    have hz1 := hz.same s1
    obtain ⟨dz, fz, hzi⟩ : ∃ dz fz, H1 z = some (.ins C dz fz) := by
      obtain ⟨dx, q, m, f, ws, f1, f2, f3, f4, h1, _⟩ := hz1
      exact ⟨_, _, h1⟩
    refine ⟨_, rfl, z, dz, fz, rfl, hzi, ?_⟩
    have hD0 := hD1
    obtain ⟨db, m, dm, t, bf, kvs, h1, h2, h3, h4, h5⟩ := hD1
    refine ⟨_, rfl, b, Cb, db, _, _, rfl, h1, T.clB, T.nPr, lk_pr, m, Cm, dm, _, _, rfl, h2, T.clM, T.nSt, lk_st, d, kvs, rfl, .of h3, fun d' nd' => ?_⟩
    have s2 : Same H1 (upd H1 d' (.dK kvs)) := same_upd nd'
    have hd2 : (upd H1 d' (.dK kvs)) d' = some (.dK kvs) := upd_same
    have nd0 : H d' = none := by
      cases e : H d' with
      | none => rfl
      | some o => rw [s1 _ _ e] at nd'; cases nd'
    generalize upd H1 d' (.dK kvs) = H2 at *
    refine ⟨_, rfl, _, rfl, _, rfl, d', _, rfl, DPut.k (k := .inr x) hd2 ?_, ?_⟩
    · rw [h5.len]
      exact small64 (by show ws.length + 1 < 64; omega)
    have b3 : But d' H2 (upd H2 d' (.dK (putK kvs (.inr x) (.ref z)))) := But.upd
    have pr : Pres H1 (upd H2 d' (.dK (putK kvs (.inr x) (.ref z)))) := (Pres.of s2).trans (Pres.but b3 fun o e => by
      rw [hd2] at e
      cases e
      exact .inr (.inl ⟨_, rfl⟩))
    have hd3 : (upd H2 d' (.dK (putK kvs (.inr x) (.ref z)))) d' = some (.dK (putK kvs (.inr x) (.ref z))) := upd_same
    have s3 : Same H1 (upd H2 d' (.dK (putK kvs (.inr x) (.ref z)))) := fun a o e => b3 _ _ (ne_of_none e nd') (s2 _ _ e)
    generalize upd H2 d' (.dK (putK kvs (.inr x) (.ref z))) = H3 at *
    refine ⟨_, rfl, b, Cb, db, _, _, rfl, s3 _ _ h1, T.clB, T.nPr, lk_pr, m, Cm, dm, _, _, rfl, s3 _ _ h2, T.clM, T.nSd, lk_sd, t, _, rfl, SqT.of (s3 _ _ h4), ?_⟩
    refine for_enumT (K := K) (a := t) (xs := []) (fun i σ H' => H' = H3 ∧ ∃ v1 v2, σ = [some (.ref b), some (.str x), some (.ref z), some (.ref d'), v1, v2]) ⟨rfl, none, none, rfl⟩ (fun i σ H' _ h => SqT.of (h.1 ▸ s3 _ _ h4)) (fun i x σ H' T e => by cases e) ?_
    rintro σ H' ⟨rfl, v1, v2, rfl⟩
    refine ⟨_, rfl, b, db, _, rfl, s3 _ _ h1, nm_pr (by decide +kernel), ?_⟩
    refine ⟨_, rfl, _, rfl, b, Cb, db, _, _, rfl, s3 _ _ h1, T.clB, T.nPr, lk_pr, m, Cm, dm, _, _, rfl, s3 _ _ h2, T.clM, T.nSd, lk_sd, ?_⟩
    refine ⟨b, d, t, d', ws, putW ws x r, n, _, rfl, hD0.same s3, hd3, s3 _ _ h4, ?_, fun H4 b4 hD4 => ?_⟩
    · exact (h5.imp fun v r z => z.pres pr).put ⟨z, rfl, hz1.pres pr, hrest⟩
    · exact k H4 d' ((But.of (s1.trans s3)).trans b4) nd0 hD4
theorem ok_setN {f : Addr} {fd : FuncData} (F : Fun K "__setitem__" "Bench.__setitem__" s_Bench_setitem f fd) (T : TxK K mg tG t1 t2 t3 tLo tLe aO aW J C Cb Cm) (TE : TxF mg c) (RZ5 : Rz P w K mg base c 5 "given") (D_is_name : Df P w K mg base 1 "is_name" ["value"] (spNameG K)) (D_check_patternN : DfN P w K mg base 4 "check_pattern" ["value"] (spChkPN K C (c 0))) : FnOk P w K mg base (L2N.CX P w) 5 f fd ["self", "at", "worth"] (spSetN K C Cb Cm (c 0) (c 5)) := by
  refine okN F sc_Bench_setitem (fun vs H Q E h => ?_) (fun cdv A outer s H vs Q E hr h => ?_)
  · obtain ⟨b, d, v, y, e, ws, n, rfl, _⟩ := h
    rfl
  · obtain ⟨b, d, v, y, e, ws, n, rfl, hD, hv, hs, k5, k0⟩ := h
    refine ⟨_, (pss_cons (ps_if (pt_not (pt_val (pe_df D_is_name (hr.mono (by decide)) (by rfl) (pa_cons (pv 1) pa_nil)))) (pss_one (ps_raiseX RZ5.m RZ5.ty RZ5.no (hr.mono (by decide)) (by rfl) TE.m5 (pv 1) rfl (L2N.takes_of rfl rfl rfl rfl))) pss_nil)
      (pss_cons (ps_expr (pe_dfN D_check_patternN (hr.mono (by decide)) (by rfl) (passN (L2N.takes_of rfl rfl rfl rfl) fun _ _ _ _ h => h) (pa_cons (pv 2) pa_nil)))
      pss_never)), ?_⟩
    refine ⟨_, rfl, v, e, rfl, hv, hs, fun H1 s1 => ?_⟩
    cases h : nameG e with
    | false => exact ⟨false, rfl, iteT ⟨_, rfl, fun dd nd => k5 h _ dd (s1.trans (same_upd nd)) upd_same⟩⟩
    | true =>
      obtain ⟨d2, hd2, kk⟩ := k0 h
      exact ⟨true, rfl, iteF ⟨_, rfl, _, rfl, .inl ⟨d2, hd2.same s1, kk.same s1⟩⟩⟩
theorem ok_getN {f : Addr} {fd : FuncData} (F : Fun K "__getitem__" "Bench.__getitem__" s_Bench_getitem f fd) (T : TxK K mg tG t1 t2 t3 tLo tLe aO aW J C Cb Cm) (TE : TxF mg c) (RZ9 : Rz P w K mg base c 9 "given") (OCn : OwF P w K mg base Cb "__contains__" 1 ["self", "x"] (spCon K C Cb Cm) gC fdC) : FnOk P w K mg base (L2N.CX P w) 4 f fd ["self", "at"] (spGetN K C Cb Cm (c 9)) := by
  refine okN F sc_Bench_getitem (fun vs H Q E h => ?_) (fun cdv A outer s H vs Q E hr h => ?_)
  · obtain ⟨b, d, v, e, ws, n, rfl, _⟩ := h
    rfl
  · obtain ⟨b, d, v, e, ws, n, rfl, hD, hv, hn, k⟩ := h
    refine ⟨_, (pss_cons (ps_if (pt_cmpR (op_notInOwn OCn.at_ OCn.fn OCn.ok OCn.b (hr.mono (by decide))) (pv 1) (pv 0) (by rfl)) (pss_one (ps_raiseX RZ9.m RZ9.ty RZ9.no (hr.mono (by decide)) (by rfl) TE.m9 (pv 1) rfl (L2N.takes_of rfl rfl rfl rfl))) pss_nil)
      (pss_one (ps_ret (pe_dget (u1_of hr.units) (pe_fld (pe_fld (pv 0) rfl) rfl) (pv 1) (fun _ _ => rfl))))), ?_⟩
    obtain ⟨db, m, dm, t, bf, kvs, h1, h2, h3, h4, h5⟩ := id hD
    refine ⟨_, rfl, _, rfl, b, db, _, rfl, h1, b, d, v, e, ws, n, rfl, hD, hv, false, by rw [hn], ?_⟩
    exact ⟨true, rfl, iteT ⟨_, rfl, fun dd nd => k _ dd (same_upd nd) upd_same⟩⟩
theorem sc_Bench_drop : FnScope ["self", "name", "index", "claim", "stored"] ["self", "name"] (defScope s_Bench_drop) := ⟨rfl, rfl, rfl, by decide +kernel, rfl, by decide +kernel, by decide +kernel⟩

theorem ok_dropN {f : Addr} {fd : FuncData} (F : Fun K "drop" "Bench.drop" s_Bench_drop f fd) (T : TxK K mg tG t1 t2 t3 tLo tLe aO aW J C Cb Cm) (TE : TxF mg c) (RZ9 : Rz P w K mg base c 9 "given") (OCn : OwF P w K mg base Cb "__contains__" 1 ["self", "x"] (spCon K C Cb Cm) gC fdC) : FnOk P w K mg base (L2N.CX P w) 4 f fd ["self", "name"] (spGetN K C Cb Cm (c 9)) := by
  refine okN F sc_Bench_drop (fun vs H Q E h => ?_) (fun cdv A outer s H vs Q E hr h => ?_)
  · obtain ⟨b, d, v, e, ws, n, rfl, _⟩ := h
    rfl
  · obtain ⟨b, d, v, e, ws, n, rfl, hD, hv, hn, k⟩ := h
    refine ⟨_, (pss_cons (ps_if (pt_cmpR (op_notInOwn OCn.at_ OCn.fn OCn.ok OCn.b (hr.mono (by decide))) (pv 1) (pv 0) (by rfl)) (pss_one (ps_raiseX RZ9.m RZ9.ty RZ9.no (hr.mono (by decide)) (by rfl) TE.m9 (pv 1) rfl (L2N.takes_of rfl rfl rfl rfl))) pss_nil)
      pss_never), ?_⟩
    obtain ⟨db, m, dm, t, bf, kvs, h1, h2, h3, h4, h5⟩ := id hD
    refine ⟨_, rfl, _, rfl, b, db, _, rfl, h1, b, d, v, e, ws, n, rfl, hD, hv, false, by rw [hn], ?_⟩
    exact ⟨true, rfl, iteT ⟨_, rfl, fun dd nd => k _ dd (same_upd nd) upd_same⟩⟩
end
end RL

set_option maxHeartbeats 4000000
namespace RL
open PySem L2 PySem.Spec PyProof.Rows
/-! ### drawn names -/
def ltr (c : Nat) : Str := ⟨#[c]⟩
theorem join_ltrs : ∀ cs : List Nat, Str.join (Str.ofString "") (cs.map ltr) = ⟨cs.toArray⟩
  | [] => rfl
  | [c] => rfl
  | c :: d :: rest => by
    have h := join_ltrs (d :: rest)
    show ltr c ++ Str.ofString "" ++ Str.join (Str.ofString "") ((d :: rest).map ltr) = _
    rw [h]
    show (⟨(#[c] ++ #[]) ++ (d :: rest).toArray⟩ : Str) = _
    simp
theorem name_of {cs : List Nat} (h1 : 1 ≤ cs.length) (h8 : cs.length ≤ 8) (h : ∀ c ∈ cs, c ∈ lettersS.cps.toList) : nameS ⟨cs.toArray⟩ = true := by
  unfold nameS
  rw [decide_eq_true (show 1 ≤ (⟨cs.toArray⟩ : Str).length from h1), decide_eq_true (show (⟨cs.toArray⟩ : Str).length ≤ 8 from h8), Bool.true_and, Bool.true_and, List.all_eq_true]
  intro c hc
  exact decide_eq_true (h c hc)
theorem of_name {x : Str} (h : nameS x = true) : 1 ≤ x.length ∧ x.length ≤ 8 ∧ ∀ c ∈ x.cps.toList, c ∈ lettersS.cps.toList := by
  unfold nameS at h
  simp only [Bool.and_eq_true, decide_eq_true_eq, List.all_eq_true] at h
  exact ⟨h.1, h.2.1, h.2.2⟩
theorem lettersS_len : lettersS.cps.toList.length = 26 := by decide +kernel
theorem lettersS_az : (97 : Nat) ∈ lettersS.cps.toList ∧ (122 : Nat) ∈ lettersS.cps.toList := by decide +kernel
theorem str_a : Str.ofString "a" = ltr 97 := by decide +kernel
theorem str_z : Str.ofString "z" = ltr 122 := by decide +kernel
theorem letters_lt : ∀ c ∈ lettersS.cps.toList, c < 128 := by decide +kernel
theorem name_ok {x : Str} (h : nameS x = true) : PyData.strOk x = true := by
  unfold PyData.strOk
  rw [← Array.all_toList, List.all_eq_true]
  intro c hc
  have := letters_lt c ((of_name h).2.2 c hc)
  exact decide_eq_true (by omega)
theorem cl_names : ∀ {ks : List Str}, (∀ x ∈ ks, nameS x = true) → PyData.canLayAll0 (ks.map PyData.str) = true
  | [], _ => rfl
  | y :: r, h => by
    rw [List.map_cons]
    unfold PyData.canLayAll0
    rw [cl_names fun x hx => h x (List.mem_cons_of_mem _ hx), Bool.and_true]
    unfold PyData.canLay0
    exact name_ok (h y List.mem_cons_self)
theorem dp_names : ∀ ks : List Str, PyData.depthAll (ks.map PyData.str) ≤ 1
  | [] => by simp [PyData.depthAll]
  | y :: r => by
    have := dp_names r
    simp [PyData.depthAll, PyData.depth] at this ⊢
    omega
theorem sh_names {ks : List Str} (h : ∀ x ∈ ks, nameS x = true) : SeqAt.shaped (.list (ks.map PyData.str)) = true := by
  unfold SeqAt.shaped
  have := dp_names ks
  rw [show PyData.canLay0 (.list (ks.map PyData.str)) = true from by unfold PyData.canLay0; exact cl_names h]
  simp [PyData.depth]
  omega
theorem sh_nil : SeqAt.shaped (.list []) = true := by decide +kernel
theorem eqv_nil {ks : List Str} : PyData.eqv (.list (ks.map PyData.str)) (.list []) = decide (ks = []) := by
  cases ks with
  | nil => simp [PyData.eqv, PyData.eqvAll]
  | cons y r => simp [PyData.eqv, PyData.eqvAll]
theorem dpa_strs {K : PySem.W.Frag} {H : Hp} : ∀ ks : List Str, DpAll K H (ks.map V.str) (ks.map PyData.str)
  | [] => .nil
  | y :: r => .cons (.str y) (dpa_strs r)
theorem sum_ltrs : ∀ cs : List Nat, ((cs.map ltr).map (·.length)).sum = cs.length
  | [] => rfl
  | c :: r => by
    rw [List.map_cons, List.map_cons, List.sum_cons, sum_ltrs r, List.length_cons]
    show 1 + r.length = _
    omega
theorem name_cut {x : Str} (h : nameS x = true) (h2 : 2 ≤ x.length) : nameS (cutS x none (some (-1))) = true := by
  obtain ⟨h1, h8, hc⟩ := of_name h
  have e : cutS x none (some (-1)) = ⟨(x.cps.toList.take (x.length - 1)).toArray⟩ := by
    unfold cutS
    have e1 : HT.sIx x.length 0 none = 0 := rfl
    have e2 : HT.sIx x.length x.length (some (-1)) = x.length - 1 := by
      unfold HT.sIx
      show (if (-1 : Int) < 0 then ((-1 : Int) + (x.length : Int)).toNat else _) = _
      rw [if_pos (by decide)]
      omega
    rw [e1, e2, List.drop_zero, Nat.sub_zero]
  rw [e]
  have hz : x.cps.toList.length = x.length := rfl
  refine name_of ?_ ?_ fun c hcc => hc c (List.mem_of_mem_take hcc)
  · rw [List.length_take]; omega
  · rw [List.length_take]; omega
theorem name_app {x : Str} {c : Nat} (h : nameS x = true) (h8 : x.length < 8) (hc : c ∈ lettersS.cps.toList) : nameS (x ++ ltr c) = true := by
  obtain ⟨h1, _, hl⟩ := of_name h
  have e : x ++ ltr c = ⟨(x.cps.toList ++ [c]).toArray⟩ := by
    show (⟨x.cps ++ #[c]⟩ : Str) = _
    exact congrArg Str.mk (Array.toList_inj.mp (by simp))
  rw [e]
  have hz : x.cps.toList.length = x.length := rfl
  refine name_of (by simp) (by rw [List.length_append, hz, List.length_singleton]; omega) fun d hd => ?_
  rcases List.mem_append.mp hd with q | q
  · exact hl d q
  · rw [List.mem_singleton.mp q]; exact hc
def spAnyword : Sp := fun vs H Q _ => ∃ (c p : Addr) (n : Nat) (ks : List Str), vs = [.ref c, .ref p] ∧ TapeAt c n H ∧ n + 20 ≤ 1000000 ∧ H p = some (.lst (ks.map V.str)) ∧ ks.length ≤ 20 ∧ (∀ x ∈ ks, nameS x = true) ∧ ∀ H' x, But c H H' → TapeAt c (n + 20) H' → nameS x = true → Q (.str x) H'
section
variable {P : Program} {w : World} {K : PySem.W.Frag} {mg : Str → Option Value} {base : Heap}
theorem sc_law_anyword : FnScope ["_law_tape", "_law_known", "_law_way", "_law_letters", "_law_turn", "_law_old"] ["_law_tape", "_law_known"] (defScope s_law_anyword) := ⟨rfl, rfl, rfl, by decide +kernel, rfl, by decide +kernel, by decide +kernel⟩

theorem ok_anyword {f : Addr} {fd : FuncData} (F : Fun K "_law_anyword" "_law_anyword" s_law_anyword f fd) (T : Txt K mg) (D_law_pick : Df P w K mg base 1 "_law_pick" ["_law_tape", "_law_many"] spDraw) : FnOk P w K mg base CX0 2 f fd ["_law_tape", "_law_known"] spAnyword := by
  refine F.ok sc_law_anyword (fun vs H Q E h => ?_) (fun cdv A outer s H vs Q E hr h => ?_)
  · obtain ⟨c, p, n, ks, rfl, _⟩ := h
    rfl
  · obtain ⟨c, p, n, ks, rfl, ht, hn, hp, hk, hks, k⟩ := h
    refine ⟨_, (pss_cons (ps_set (i := 2) sc_law_anyword.nd rfl (.inl rfl) (pe_df D_law_pick (hr.mono (by decide)) (by rfl) (pa_cons (pv 0) (pa_cons pe_int pa_nil))))
      (pss_cons (ps_setLc (i := 3) (own := [("_law_turn", 4)]) (g := gName 4) (tt := tYes) rfl sc_law_anyword.nd rfl rfl (sw_true rfl rfl rfl (by decide +kernel)) (pi_range1 rfl T.range (pa_cons (pe_op op_add pe_int (pe_df D_law_pick (hr.mono (by decide)) (by rfl) (pa_cons (pv 0) (pa_cons pe_int pa_nil)))) pa_nil)) (blkOk_by (N := ["_law_tape", "_law_known", "_law_way", "_law_letters", "_law_turn", "_law_old"]) (sc := defScope s_law_anyword) (by decide +kernel)) (fun _ _ _ _ _ => pg_name (i := 4) sc_law_anyword.nd rfl (Or.inl rfl)) (fun _ _ _ _ _ => pts_nil) (fun _ _ _ _ _ => (pe_ix (ix_listK (K := K)) (pe_lst (pa_cons pe_str (pa_cons pe_str (pa_cons (pe_ix ix_str pe_str (pe_df D_law_pick (hr.mono (by decide)) (by rfl) (pa_cons (pv 0) (pa_cons pe_int pa_nil))) (fun _ _ => rfl)) pa_nil)))) (pe_callB (call_min2 rfl) (by rfl) T.min (by decide +kernel) (pa_cons pe_int (pa_cons (pe_df D_law_pick (hr.mono (by decide)) (by rfl) (pa_cons (pv 0) (pa_cons pe_int pa_nil))) pa_nil))) (fun _ _ => rfl))))
      (pss_cons (ps_if (PW.pt (pw_or (pt_cmpR (op_eqD hr.units) (pv 1) (pe_lst pa_nil) (nomark _)) (pw_or1 (pt_cmpR op_eq (pv 2) pe_int (nomark _))))) (pss_one (ps_ret (pe_join pe_str (pv 3)))) pss_nil)
      (pss_cons (ps_set (i := 5) sc_law_anyword.nd rfl (.inl rfl) (pe_ix ix_list (pv 1) (pe_df D_law_pick (hr.mono (by decide)) (by rfl) (pa_cons (pv 0) (pa_cons (pe_callB call_len_seq (by rfl) T.len (by decide +kernel) (pa_cons (pv 1) pa_nil)) pa_nil))) (fun _ _ => rfl)))
      (pss_cons (ps_if (PW.pt (pw_or (pt_cmpR op_eq (pv 2) pe_int (nomark _)) (pw_or1 (pt_cmpR op_eq (pe_callB call_len_str (by rfl) T.len (by decide +kernel) (pa_cons (pv 5) pa_nil)) pe_int (nomark _))))) (pss_one (ps_ret (pv 5))) pss_nil)
      (pss_one (ps_ret (pe_ifExp (PW.pt (pw_or (pt_cmpR op_eq (pv 2) pe_int (nomark _)) (pw_or1 (pt_cmpR op_eq (pe_callB call_len_str (by rfl) T.len (by decide +kernel) (pa_cons (pv 5) pa_nil)) pe_int (nomark _))))) (pe_op op_add_str (pv 5) (pe_ix ix_list (pv 3) pe_int (fun _ _ => rfl))) (pe_slice sl_str (pv 5) po_none (po_some (pe_un un_neg pe_int))))))))))), ?_⟩
    refine ⟨_, rfl, c, n, 4, rfl, ht, by omega, by decide, sm_p (by decide) (by decide), fun H1 x b1 t1 x0 x1 => ?_⟩
    have npc : p ≠ c := by
      intro e
      subst e
      obtain ⟨a, b, z, h, _⟩ := ht
      rw [hp] at h
      have := congrArg (fun o => match o with | some (HO.lst xs) => xs | _ => []) h
      cases ks with
      | nil => cases this
      | cons y r => simp at this
    have hp1 := b1 _ _ npc hp
    refine ⟨_, rfl, c, _, 8, rfl, t1, by omega, by decide, sm_p (by decide) (by decide), fun H2 m b2 t2 m0 m1 => ?_⟩
    refine ⟨_, _, rfl, rfl, ?_⟩
    refine ⟨_, rfl, by omega, by omega, fun D hD => ?_⟩
    have nDc : D ≠ c := (t2.ne hD).symm
    have hp2 := b2 _ _ npc hp1
    have nDp : D ≠ p := (ne_of_none hp2 hD).symm
    refine lc_range (lo := 0) (n := (1 + m).toNat) (fun i H' => But c H2 H' ∧ TapeAt c (n + 2 + 2 * i) H' ∧ ∃ cs : List Nat, H' D = some (.lst ((cs.map ltr).map V.str)) ∧ cs.length = i ∧ ∀ z ∈ cs, z ∈ lettersS.cps.toList) ⟨.of (same_upd hD), t2.same (same_upd hD), [], upd_same, rfl, (fun _ z => by cases z)⟩ ?_ ?_
    · rintro i H' hi ⟨bD, tD, cs, hcs, rfl, hl⟩
      refine ⟨rfl, ?_⟩
      unfold tYes
      refine iteT ?_
      refine ⟨_, rfl, c, _, 26, rfl, tD, by omega, by decide, sm_p (by decide) (by decide), fun H3 y b3 t3 y0 y1 => ?_⟩
      have hy : y.toNat < lettersS.cps.toList.length := by rw [lettersS_len]; omega
      obtain ⟨ch, hch⟩ : ∃ ch, lettersS.cps.toList[y.toNat]? = some ch := ⟨_, List.getElem?_eq_getElem hy⟩
      have hin : ch ∈ lettersS.cps.toList := List.mem_of_getElem? hch
      have ey : y = (y.toNat : Int) := (Int.toNat_of_nonneg y0).symm
      rw [ey]
      refine ⟨lettersS, _, ch, rfl, rfl, by show lettersS.cps.size ≤ sizeLine; decide, atI_nat (j := y.toNat) hch, ?_⟩
      refine ⟨(by show 3 ≤ sizeLine; decide), fun l nl => ?_⟩
      have sl := same_upd (o := .lst [.str (Str.ofString "a"), .str (Str.ofString "z"), .str (ltr ch)]) nl
      refine ⟨_, rfl, c, _, 5, rfl, t3.same sl, by omega, by decide, sm_p (by decide) (by decide), fun H4 q b4 t4 q0 q1 => ?_⟩
      refine ⟨_, _, rfl, ?_⟩
      have nlc : l ≠ c := (t3.ne nl).symm
      have hl4 := b4 _ _ nlc upd_same
      obtain ⟨c2, hc2, hw⟩ : ∃ c2, c2 ∈ lettersS.cps.toList ∧ ([.str (Str.ofString "a"), .str (Str.ofString "z"), .str (ltr ch)] : List V)[(if q < 2 then q else 2).toNat]? = some (.str (ltr c2)) := by
        have : q = 0 ∨ q = 1 ∨ ¬ q < 2 := by omega
        rcases this with rfl | rfl | hq
        · exact ⟨97, lettersS_az.1, by rw [str_a]; rfl⟩
        · exact ⟨122, lettersS_az.2, by rw [str_z]; rfl⟩
        · exact ⟨ch, hin, by rw [if_neg hq]; rfl⟩
      have eq2 : (if q < 2 then q else 2) = (((if q < 2 then q else 2).toNat : Nat) : Int) := by
        rw [Int.toNat_of_nonneg]
        split <;> omega
      rw [eq2]
      refine ⟨l, _, _, _, rfl, rfl, SqL.of hl4, atI_nat hw, ?_⟩
      have bA : But c H' H4 := (b3.trans (.of sl)).trans b4
      have hD4 := bA _ _ nDc hcs
      refine ⟨_, hD4, ?_, ?_, ?_, cs ++ [c2], ?_, by simp, fun z hz => ?_⟩
      · rw [List.length_map, List.length_map]
        exact small1000 (by omega)
      · intro b o nb e
        rw [upd_ne (ne_of_none e hD)]
        exact bA _ _ nb (bD _ _ nb e)
      · obtain ⟨u1, u2, u3, hc, rest⟩ := t4
        refine TapeAt.le (n := n + 2 + 2 * cs.length + 1 + 1) ⟨u1, u2, u3, ?_, rest⟩ (by omega)
        rw [upd_ne nDc.symm]
        exact hc
      · rw [upd_same, List.map_append, List.map_append]
        rfl
      · rcases List.mem_append.mp hz with h | h
        · exact hl z h
        · rw [List.mem_singleton.mp h]
          exact hc2
    · rintro H' ⟨bD, tD, cs, hcs, hlen, hl⟩
      have hp3 := bD _ _ npc hp2
      have t3 : TapeAt c (n + 20) H' := tD.le (by omega)
      have b3 : But c H H' := (b1.trans b2).trans bD
      have hl8 : cs.length ≤ 8 := by omega
      have hl1 : 1 ≤ cs.length := by omega
      refine ⟨_, rfl, Nat.zero_le _, fun e0 ne0 => ?_⟩
      have s4 : Same H' (upd H' e0 (.lst [])) := same_upd ne0
      have hp4 := s4 _ _ hp3
      have hc4 := s4 _ _ hcs
      have b4 := b3.trans (.of s4)
      have t4 := t3.same s4
      have tD4 := tD.same s4
      refine ⟨.list (ks.map PyData.str), .list [], .lst (SqL.of hp4) (dpa_strs ks), .lst (SqL.of upd_same) .nil, sh_names hks, sh_nil, _, rfl, ?_⟩
      rw [eqv_nil]
      generalize upd H' e0 (.lst []) = H4 at *
      have hjoin : Q (.str (Txt.join (Str.ofString "") (cs.map ltr))) H4 := by
        rw [TL.join_eq, join_ltrs]
        exact k _ _ b4 t4 (name_of hl1 hl8 hl)
      have lsum : ((cs.map ltr).map (·.length)).sum + (cs.map ltr).length * (Str.ofString "").length ≤ 16777216 := by
        rw [sum_ltrs]
        have : (Str.ofString "").length = 0 := rfl
        rw [this]
        omega
      have fin1 : ∀ (R : Prop), R → R := fun _ h => h
      refine ite2 (fun e => ?_) (fun e => ⟨_, rfl, rfl, _, rfl, ite2 (fun e0' => ?_) (fun e0' => ?_)⟩)
      · exact iteT ⟨⟨_, rfl⟩, _, rfl, _, _, _, rfl, rfl, .inl (SqL.of hc4), lsum, hjoin⟩
      · exact ⟨⟨_, rfl⟩, _, rfl, _, _, _, rfl, rfl, .inl (SqL.of hc4), lsum, hjoin⟩
      have hne : ks ≠ [] := fun z => e (decide_eq_true z)
      have hks1 : 0 < ks.length := List.length_pos_iff.mpr hne
      refine ⟨_, rfl, _, rfl, _, rfl, p, _, rfl, .inl (SqL.of hp4), c, _, (ks.length : Int), ?_, tD4, by omega, by omega, sm_p (by omega) (by decide), fun H5 q b5 t5 q0 q1 => ?_⟩
      · rw [List.length_map]
        rfl
      have hp5 := b5 _ _ npc hp4
      have hD5 := b5 _ _ nDc hc4
      have bq : But c H H5 := b4.trans b5
      have tq : TapeAt c (n + 20) H5 := t5.le (by omega)
      have hq : q.toNat < ks.length := by omega
      have eq : q = (q.toNat : Int) := (Int.toNat_of_nonneg q0).symm
      rw [eq]
      obtain ⟨old, ho⟩ : ∃ old, ks[q.toNat]? = some old := ⟨_, List.getElem?_eq_getElem hq⟩
      have hn5 : nameS old = true := hks old (List.mem_of_getElem? ho)
      obtain ⟨o1, o8, oc⟩ := of_name hn5
      have osz : old.length ≤ sizeLine := small64 (by omega)
      refine ⟨p, _, _, _, rfl, rfl, SqL.of hp5, atI_nat (j := q.toNat) (by rw [List.getElem?_map, ho]; rfl), ?_⟩
      refine ⟨_, rfl, rfl, _, rfl, ite2 (fun _ => ?_) (fun _ => ⟨_, rfl, _, rfl, osz, rfl, _, rfl, ite2 (fun _ => ?_) (fun e8 => ?_)⟩)⟩
      · exact iteT ⟨_, rfl, k _ _ bq tq hn5⟩
      · exact ⟨_, rfl, k _ _ bq tq hn5⟩
      have hlt : old.length < 8 := by
        have : ¬ (old.length : Int) = 8 := fun z => e8 (decide_eq_true (by rw [z]))
        omega
      obtain ⟨c0, hc0, hm0⟩ : ∃ c0, cs[0]? = some c0 ∧ c0 ∈ lettersS.cps.toList := by
        have h0 : 0 < cs.length := by omega
        exact ⟨cs[0], List.getElem?_eq_getElem h0, hl _ (List.getElem_mem h0)⟩
      have hat : ((cs.map ltr).map V.str)[0]? = some (.str (ltr c0)) := by rw [List.getElem?_map, List.getElem?_map, hc0]; rfl
      have happ : Q (.str (old ++ ltr c0)) H5 := k _ _ bq tq (name_app hn5 hlt hm0)
      have hbd : old.length + (ltr c0).length ≤ sizeLine := by
        have : (ltr c0).length = 1 := rfl
        rw [this]
        exact small64 (by omega)
      refine ⟨_, rfl, rfl, _, rfl, ite2 (fun _ => ?_) (fun _ => ⟨_, rfl, _, rfl, osz, rfl, _, rfl, ite2 (fun _ => ?_) (fun e1 => ?_)⟩)⟩
      · exact iteT ⟨_, rfl, _, rfl, D, _, _, _, rfl, rfl, SqL.of hD5, atI_nat (j := 0) hat, old, ltr c0, rfl, rfl, hbd, happ⟩
      · exact ⟨_, rfl, _, rfl, D, _, _, _, rfl, rfl, SqL.of hD5, atI_nat (j := 0) hat, old, ltr c0, rfl, rfl, hbd, happ⟩
      have h2 : 2 ≤ old.length := by
        have : ¬ (old.length : Int) = 1 := fun z => e1 (decide_eq_true (by rw [z]))
        omega
      have hcut : Q (.str (cutS old none (some (-1)))) H5 := k _ _ bq tq (name_cut hn5 h2)
      exact ⟨_, rfl, _, rfl, _, rfl, old, rfl, osz, hcut⟩
end
end RL

set_option maxHeartbeats 4000000
namespace RL
open PySem L2 PySem.Spec PyProof.Rows
/-! ### odd things -/
def isDictD : PyData → Bool
  | .dict _ => true
  | _ => false
theorem isDictD_of {d : PyData} (h : isDictD d = true) : ∃ ps, d = .dict ps := by cases d <;> first | exact ⟨_, rfl⟩ | exact absurd h (by simp [isDictD])
def shortS : PyData → Bool
  | .str x => decide (x.length ≤ 1000)
  | _ => true
def oddT (d : PyData) : Bool := (!d.hasDict || isDictD d) && (d.showable && (decide (d.depth ≤ 40) && (decide (d.shown.length ≤ 1000) && (PyData.strOk d.shown && shortS d))))
structure OddT (d : PyData) : Prop where
  n : Nd d
  s : d.showable = true
  p : d.depth ≤ 40
  l : d.shown.length ≤ sizeLine
  u : PyData.strOk d.shown = true
  t : ∀ x, d = .str x → x.length ≤ sizeLine
theorem odd_of {d : PyData} (g : oddT d = true) : OddT d := by
  unfold oddT at g
  simp only [Bool.and_eq_true, Bool.or_eq_true, decide_eq_true_eq, Bool.not_eq_true'] at g
  obtain ⟨g1, g2, g3, g4, g5, g6⟩ := g
  refine ⟨g1.imp id isDictD_of, g2, g3, (by rw [sizeLine_eq]; omega), g5, ?_⟩
  rintro x rfl
  have := of_decide_eq_true g6
  rw [sizeLine_eq]
  omega
def spAnything : Sp := fun vs H Q _ => ∃ (c : Addr) (n : Nat), vs = [.ref c] ∧ TapeAt c n H ∧ n + 1 ≤ 1000000 ∧ ∀ H' v d, But c H H' → TapeAt c (n + 1) H' → Dh c H' v d → oddT d = true → Q v H'
section
variable {P : Program} {w : World} {K : PySem.W.Frag} {mg : Str → Option Value} {base : Heap} {tG t1 t3 tC tK : Tok} {aO aW aCh : Addr}
theorem sc_law_anything : FnScope ["_law_tape", "_law_odd"] ["_law_tape"] (defScope s_law_anything) := ⟨rfl, rfl, rfl, by decide +kernel, rfl, by decide +kernel, by decide +kernel⟩

theorem ok_anything {f : Addr} {fd : FuncData} (F : Fun K "_law_anything" "_law_anything" s_law_anything f fd) (D_law_pick : Df P w K mg base 1 "_law_pick" ["_law_tape", "_law_many"] spDraw) : FnOk P w K mg base CX0 2 f fd ["_law_tape"] spAnything := by
  refine F.ok sc_law_anything (fun vs H Q E h => ?_) (fun cdv A outer s H vs Q E hr h => ?_)
  · obtain ⟨c, n, rfl, _⟩ := h
    rfl
  · obtain ⟨c, n, rfl, ht, hn, k⟩ := h
    refine ⟨_, (C8.pss_cut (ps_set (i := 1) sc_law_anything.nd rfl (.inl rfl) (pd_lst (pds_cons pd_non (pds_cons pd_bl (pds_cons pd_bl (pds_cons pd_int (pds_cons (pd_neg pd_int) (pds_cons (pd_pow pd_int pd_int) (pds_cons pd_str (pds_cons pd_str (pds_cons pd_str (pds_cons pd_str (pds_cons pd_str (pds_cons pd_str (pds_cons pd_str (pds_cons pd_str (pds_cons (pd_tup (pds_cons pd_str pds_nil)) (pds_cons (pd_lst pds_nil) pds_nil))))))))))))))))))
      (C8.pss_cut (ps_set (i := 1) sc_law_anything.nd rfl (.inl rfl) (pe_op op_cat (pv 1) (pd_lst (pds_cons pd_dict (pds_cons (pd_lst (pds_cons pd_str pds_nil)) (pds_cons pd_dict1 (pds_cons (pd_tup (pds_cons pd_str (pds_cons (pd_lst (pds_cons pd_str pds_nil)) pds_nil))) (pds_cons pd_str (pds_cons pd_str (pds_cons pd_str (pds_cons pd_str (pds_cons pd_str (pds_cons pd_str pds_nil)))))))))))))
      (pss_one (ps_ret (pe_ix ix_list (pv 1) (pe_df D_law_pick (hr.mono (by decide)) (by rfl) (pa_cons (pv 0) (pa_cons pe_int pa_nil))) (fun _ _ => rfl)))))), ?_⟩
    refine ⟨fun σ' H' => ∃ l vs ds, σ' = [some (.ref c), some (.ref l)] ∧ Same H H' ∧ H l = none ∧ H' l = some (.lst vs) ∧ Dns H H' vs ds ∧ ds.all oddT = true ∧ ds.length = 16, ?_, ?_⟩
    · intro H2 v s2 hv
      obtain ⟨a, vs, rfl, ha, hvs⟩ := Dr.list hv
      exact ⟨a, vs, _, rfl, s2, (fresh_get ha).1, (fresh_get ha).2, hvs, by decide +kernel, rfl⟩
    rintro σ1 H1 ⟨l, vs, ds, rfl, s1, nl0, hl, hd, ok, len⟩
    refine ⟨fun σ' H' => ∃ l vs ds, σ' = [some (.ref c), some (.ref l)] ∧ Same H H' ∧ H l = none ∧ H' l = some (.lst vs) ∧ Dns H H' vs ds ∧ ds.all oddT = true ∧ ds.length = 26, ?_, ?_⟩
    · refine ⟨_, rfl, ?_⟩
      intro H2 v s2 hv
      obtain ⟨a, us, rfl, ha, hvs⟩ := Dr.list hv
      have ha' := (fresh_get ha).2
      refine ⟨l, a, _, _, rfl, rfl, s2 _ _ hl, ha', ?_, fun q nq => ?_⟩
      · rw [hd.1, hvs.1, len]
        show _ ≤ sizeLine
        decide
      have sq := same_upd (o := .lst (vs ++ us)) nq
      refine ⟨q, _, ds ++ _, rfl, (s1.trans s2).trans sq, (s1.trans s2).free nq, upd_same, Drs.app (Drs.mono hd (fresh_up (s2.trans sq))) (Drs.mono (Drs.mono hvs (fresh_dn s1)) (fresh_up sq)), ?_, ?_⟩
      · rw [List.all_append, ok]
        decide +kernel
      · rw [List.length_append, len]
        rfl
    rintro σ1 H1 ⟨l, vs, ds, rfl, s1, nl0, hl, hd, ok, len⟩
    obtain ⟨_, _, _, hc, _⟩ := id ht
    have t1 := ht.same s1
    have hd := Dns.tape hd ht
    refine ⟨_, rfl, _, rfl, c, n, 26, rfl, t1, by omega, by decide, sm_p (by decide) (by decide), fun H2 j b2 t2 j0 j1 => ?_⟩
    obtain ⟨i, hi, rfl⟩ : ∃ i : Nat, i < ds.length ∧ j = (i : Int) := ⟨j.toNat, by omega, (Int.toNat_of_nonneg j0).symm⟩
    obtain ⟨x, hx, hdx⟩ := Drs.at_ hd (List.getElem?_eq_getElem hi)
    have nlc : l ≠ c := by
      rintro rfl
      rw [hc] at nl0
      cases nl0
    refine ⟨l, vs, _, _, rfl, rfl, SqL.of (b2 _ _ nlc hl), atI_nat hx, ?_⟩
    exact k _ x _ ((But.of s1).trans b2) t2 (Dh.but hdx b2) (all_at ok (List.getElem?_eq_getElem hi))
end
end RL

/-! two rising rows of texts with the same members are one -/
namespace RL
open PySem L2 PySem.Spec PyProof.Rows
theorem le_of_cps {a b : List Nat} (h : ltCps b a = false) : a ≤ b := by
  rw [ltCps_eq] at h
  exact List.not_lt.mp (of_decide_eq_false h)
theorem rising_le : ∀ {p : Str} {ys : List Str}, risingS p ys = true → (p :: ys).Pairwise fun x y => x.cps.toList ≤ y.cps.toList
  | p, [], _ => by simp
  | p, x :: r, h => by
    unfold risingS at h
    simp only [Bool.and_eq_true, Bool.not_eq_true'] at h
    have ih := rising_le h.2
    refine List.Pairwise.cons (fun y hy => ?_) ih
    have h1 := le_of_cps h.1
    rcases List.mem_cons.mp hy with e | hy
    · rw [e]; exact h1
    · exact List.le_trans h1 ((List.pairwise_cons.mp ih).1 y hy)
theorem sortedS_le {ys : List Str} (h : sortedS ys = true) : ys.Pairwise fun x y => x.cps.toList ≤ y.cps.toList := by
  cases ys with
  | nil => simp
  | cons p r => exact rising_le h
theorem sortedS_one {xs ys : List Str} (h : sortedS xs = true) (g : sortedS ys = true) (p : xs.Perm ys) : xs = ys :=
  List.Perm.eq_of_pairwise (le := fun x y : Str => x.cps.toList ≤ y.cps.toList) (fun a b _ _ h1 h2 => by
    cases a
    cases b
    exact congrArg Str.mk (Array.toList_inj.mp (List.le_antisymm h1 h2))) (sortedS_le h) (sortedS_le g) p
end RL

namespace RL
open PySem L2
/-! ### data that repr shows, put together -/
structure Tame (w h : Nat) (d : PyData) : Prop where
  s : d.showable = true
  n : d.hasDict = false
  v : d.leavesShort 300 = true
  w_ : d.weight ≤ w
  d_ : d.depth ≤ h
theorem Tame.shows {w h : Nat} {d : PyData} (t : Tame w h d) (hw : w ≤ 10000 := by decide) (hh : h ≤ 40 := by decide) : Shows d := by
  refine ⟨t.s, t.n, Nat.le_trans t.d_ hh, ?_⟩
  have e := PyData.shown_le 300 (by decide) d t.v
  have := Nat.le_trans t.w_ hw
  rw [sizeLine_eq]
  omega
theorem Tame.mono {w h w' h' : Nat} {d : PyData} (t : Tame w h d) (hw : w ≤ w' := by decide) (hh : h ≤ h' := by decide) : Tame w' h' d := ⟨t.s, t.n, t.v, Nat.le_trans t.w_ hw, Nat.le_trans t.d_ hh⟩
theorem tame_int {i : Int} (h : Sm 200 i) : Tame 200 0 (.int i) := by
  obtain ⟨a, b, c⟩ := show_int h
  exact ⟨a, by simp only [PyData.hasDict], b, c, by simp only [PyData.depth]; exact Nat.le_refl _⟩
theorem tame_all {w h : Nat} : ∀ {xs : List PyData}, (∀ d ∈ xs, Tame w h d) → PyData.showableAll xs = true ∧ PyData.hasDictAll xs = false ∧ PyData.leavesShortAll 300 xs = true ∧ PyData.weightAll xs ≤ xs.length * (w + 1) ∧ PyData.depthAll xs ≤ h
  | [], _ => ⟨by simp only [PyData.showableAll], by simp only [PyData.hasDictAll], by simp only [PyData.leavesShortAll], by simp [PyData.weightAll], by simp [PyData.depthAll]⟩
  | x :: xs, H => by
    obtain ⟨a, b, c, d, e⟩ := H x List.mem_cons_self
    obtain ⟨a', b', c', d', e'⟩ := tame_all fun z hz => H z (List.mem_cons_of_mem _ hz)
    refine ⟨by simp only [PyData.showableAll, a, a', Bool.and_self], by simp only [PyData.hasDictAll, b, b', Bool.or_self], by simp only [PyData.leavesShortAll, c, c', Bool.and_self], ?_, ?_⟩
    · simp only [PyData.weightAll, List.length_cons]
      have : (xs.length + 1) * (w + 1) = xs.length * (w + 1) + (w + 1) := Nat.succ_mul _ _
      omega
    · simp only [PyData.depthAll]
      omega
theorem tame_tup {w h : Nat} {xs : List PyData} (H : ∀ d ∈ xs, Tame w h d) : Tame (xs.length * (w + 1)) (h + 1) (.tuple xs) := by
  obtain ⟨a, b, c, d, e⟩ := tame_all H
  exact ⟨by simp only [PyData.showable, a], by simp only [PyData.hasDict, b], by simp only [PyData.leavesShort, c], by simp only [PyData.weight]; exact d, by simp only [PyData.depth]; omega⟩
theorem tame_lst {w h : Nat} {xs : List PyData} (H : ∀ d ∈ xs, Tame w h d) : Tame (xs.length * (w + 1)) (h + 1) (.list xs) := by
  obtain ⟨a, b, c, d, e⟩ := tame_all H
  exact ⟨by simp only [PyData.showable, a], by simp only [PyData.hasDict, b], by simp only [PyData.leavesShort, c], by simp only [PyData.weight]; exact d, by simp only [PyData.depth]; omega⟩
theorem tame_2 {w h : Nat} {x y : PyData} (hx : Tame w h x) (hy : Tame w h y) : Tame (2 * (w + 1)) (h + 1) (.tuple [x, y]) := tame_tup (xs := [x, y]) fun d hd => by
  simp only [List.mem_cons, List.not_mem_nil, or_false] at hd
  rcases hd with rfl | rfl
  · exact hx
  · exact hy
theorem tame_l2 {w h : Nat} {x y : PyData} (hx : Tame w h x) (hy : Tame w h y) : Tame (2 * (w + 1)) (h + 1) (.list [x, y]) := tame_lst (xs := [x, y]) fun d hd => by
  simp only [List.mem_cons, List.not_mem_nil, or_false] at hd
  rcases hd with rfl | rfl
  · exact hx
  · exact hy
end RL

set_option maxHeartbeats 4000000
namespace RL
open PySem L2 PySem.Spec PyProof.Rows
/-! ### setting a name; whether a bench is as it should be -/
structure OwI (P : Program) (w : World) (K : PySem.W.Frag) (mg : Str → Option Value) (base : Heap) (CX : CXT) (C : Addr) (at' : Str) (k : Nat) (ps : List Str) (sp : Sp) (g : Addr) (fd : FuncData) : Prop where
  q : PySem.W.noSeq K C = true
  at_ : PySem.W.findIn K (.ref C) at' = some (some (.ref g))
  fn : PySem.W.fnIn K g = true
  isf : PySem.W.isFn K (.ref g) = true
  ok : FnOk P w K mg base CX k g fd ps sp
  b : Binds K fd ps []
structure OwLen (P : Program) (w : World) (K : PySem.W.Frag) (mg : Str → Option Value) (base : Heap) (C : Addr) (sp : Sp) (g : Addr) (fd : FuncData) : Prop where
  nb : PySem.W.findIn K (.ref C) "__bool__" = some none
  at_ : PySem.W.findIn K (.ref C) "__len__" = some (some (.ref g))
  fn : PySem.W.isFn K (.ref g) = true
  ok : FnOk P w K mg base CX0 1 g fd ["self"] sp
  b : Binds K fd ["self"] []
structure OwPrB (P : Program) (w : World) (K : PySem.W.Frag) (mg : Str → Option Value) (base : Heap) (C : Addr) (at' : Str) (sp : Sp) (p g : Addr) (fd : FuncData) : Prop where
  pr : PropOf K C at' p g
  ok : FnOk P w K mg base CX0 1 g fd ["self"] sp
  b : Binds K fd ["self"] []
structure OwM' (P : Program) (w : World) (K : PySem.W.Frag) (mg : Str → Option Value) (base : Heap) (CX : CXT) (C : Addr) (at' : Str) (k : Nat) (ps : List Str) (sp : Sp) (g : Addr) (fd : FuncData) : Prop where
  m : Meth K C at' g
  ok : FnOk P w K mg base CX k g fd ps sp
  b : Binds K fd ps []
theorem tame_str {n w : Nat} {x : Str} (h : OkT n x) (hn : n ≤ w) : Tame w 0 (.str x) := by
  obtain ⟨a, b⟩ := show_str h
  exact ⟨by simp only [PyData.showable], by simp only [PyData.hasDict], a, Nat.le_trans b hn, by simp only [PyData.depth]; exact Nat.le_refl _⟩
theorem tame_pc {p : Pc} (h : PcOk p) : Tame 402 1 (pcD p) := by
  have h1 : Tame 200 0 (.str (wd p.1)) := tame_str (n := 4) (by
    cases p.1
    · exact OkT.of "rung"
    · exact OkT.of "rail") (by decide)
  exact tame_2 h1 (tame_int ((ohm_sm h).mono (by decide)))
theorem tame_row {r : List Pc} (hok : RowOk r) (l8 : r.length ≤ 8) : Tame 3224 2 (.tuple (r.map pcD)) := by
  have h := tame_tup (w := 402) (h := 1) (xs := r.map pcD) fun d hd => by
    obtain ⟨p, hp, rfl⟩ := List.mem_map.mp hd
    exact tame_pc (hok p hp)
  rw [List.length_map] at h
  exact ⟨h.s, h.n, h.v, Nat.le_trans h.w_ (by have := Nat.mul_le_mul_right 403 l8; omega), h.d_⟩
theorem tame_name {x : Str} (h : nameS x = true) : Tame 200 0 (.str x) := by
  obtain ⟨h1, h8, hc⟩ := of_name h
  refine tame_str (n := 8) ⟨h8, fun c hcc => ?_⟩ (by decide)
  have := letters_lt c (hc c hcc)
  omega
theorem tame_names {ys : List Str} (h : ∀ x ∈ ys, nameS x = true) (l : ys.length ≤ 12) : Tame 2412 1 (.tuple (ys.map PyData.str)) := by
  have h := tame_tup (w := 200) (h := 0) (xs := ys.map PyData.str) fun d hd => by
    obtain ⟨p, hp, rfl⟩ := List.mem_map.mp hd
    exact tame_name (h p hp)
  rw [List.length_map] at h
  exact ⟨h.s, h.n, h.v, Nat.le_trans h.w_ (by have := Nat.mul_le_mul_right 201 l; omega), h.d_⟩
theorem tame_bl {b : Bool} : Tame 200 0 (.bool b) := ⟨by simp only [PyData.showable], by simp only [PyData.hasDict], by simp only [PyData.leavesShort], by cases b <;> decide +kernel, by simp only [PyData.depth]; exact Nat.le_refl _⟩
theorem tame_st {ys : List Str} {n : Nat} (h : ∀ x ∈ ys, nameS x = true) (l : ys.length ≤ 12) (hn : n ≤ 1000) : Shows (.list [.tuple (ys.map PyData.str), .tuple [], .int (n : Int)]) := by
  refine (tame_lst (w := 2412) (h := 1) (xs := [.tuple (ys.map PyData.str), .tuple [], .int (n : Int)]) fun d hd => ?_).shows (by show 3 * 2413 ≤ 10000; decide) (by decide)
  simp only [List.mem_cons, List.not_mem_nil, or_false] at hd
  rcases hd with rfl | rfl | rfl
  · exact tame_names h l
  · exact (tame_tup (w := 2412) (h := 0) (xs := []) fun d hd => by cases hd).mono
  · exact (tame_int (sm_p (by omega) (by decide))).mono
theorem tame_lb {n : Nat} {b : Bool} (hn : n ≤ 1000) : Shows (.list [.int (n : Int), .bool b]) :=
  (tame_l2 (tame_int (sm_p (by omega) (by decide))) tame_bl).shows (by decide) (by decide)
theorem all_true' (n : Nat) : (List.replicate n true).all id = true := by
  rw [List.all_eq_true]
  intro z hz
  rw [List.eq_of_mem_replicate hz]
  rfl
theorem dpa_pieces {K : PySem.W.Frag} {H : Hp} {vs : List V} {r : List Pc} (h : PiecesAt H vs r) : DpAll K H vs (r.map pcD) :=
  dpAll_of (by rw [List.length_map]; exact h.1) fun i v d h1 h2 => by
    rw [List.getElem?_map] at h2
    cases e : r[i]? with
    | none => rw [e] at h2; cases h2
    | some p =>
      rw [e] at h2
      cases h2
      obtain ⟨u, hu, t, e2, hp⟩ := h.2 i p e
      obtain rfl : v = u := Option.some.inj (h1.symm.trans hu)
      subst e2
      exact .tup (SqT.of hp) (.cons (.str _) (.cons (.int _) .nil))
def KeptAt (H : Hp) (kd : Addr) (ws : Wr) : Prop := ∃ kvs, H kd = some (.dK kvs) ∧ Kvs (RowT H) kvs ws
theorem KeptAt.pres {H H' : Hp} {kd : Addr} {ws : Wr} (h : KeptAt H kd ws) (p : Pres H H') (hb : ∀ o, H kd = some o → H' kd = some o) : KeptAt H' kd ws := by
  obtain ⟨kvs, h1, h2⟩ := h
  exact ⟨kvs, hb _ h1, h2.imp fun v r z => z.pres p⟩
def GoodW (ws : Wr) : Prop := ws.length ≤ 12 ∧ (∀ p ∈ ws, nameS p.1 = true) ∧ (ws.map (·.1)).Nodup
def spSt (C Cb Cm : Addr) : Sp := fun vs H Q _ => ∃ (b d kd : Addr) (ws : Wr) (n : Nat), vs = [.ref b, .ref kd, .int (n : Int)] ∧ DeskAt C Cb Cm H b d ws n ∧ KeptAt H kd ws ∧ kd ≠ d ∧ GoodW ws ∧ n ≤ 1000 ∧ ∀ H', Same H H' → Q (.bl true) H'
theorem keys_lc {nm : Str} {σ : L2.St} {H : Hp} {Q : VK} {kd : Addr} {kvs : List (Key × V)} {xs : List Str} {j i : Nat} (hj : σ[j]? = some (some (.ref kd))) (hi : i < σ.length) (hk : H kd = some (.dK kvs)) (hx : kvs.map (fun kv => kV kv.1) = xs.map V.str) (hl : xs.length ≤ 100)
    (h : ∀ H' D, Same H H' → H D = none → H' D = some (.lst (xs.map V.str)) → Q (.ref D) H') : tLockE (tLc (iKeys (tVar j)) (gName i) tYes (tCB (fun xs H Q => ∃ a, xs = [V.str a] ∧ Q (V.str a) H) (tCons (tVar i) tNil)) (List.map (fun x => x.snd) [(nm, i)])) σ H Q := by
  refine ⟨kd, .dK kvs, hk, trivial, fun od => ?_⟩
  refine ⟨_, hj, kd, od, rfl, .inl ⟨kvs, upd_same, fun D hD => ?_⟩⟩
  have hDk : D ≠ kd := (ne_of_none upd_same hD).symm
  have hD0 : H D = none := by
    rw [upd_ne hDk] at hD
    exact hD
  have hlen : kvs.length = xs.length := by
    have := congrArg List.length hx
    rw [List.length_map, List.length_map] at this
    exact this
  refine lc_it walk_keys (fun n H' => Same (upd H kd (.frz od (.dK kvs))) H' ∧ H' D = some (.lst ((xs.take n).map V.str))) ⟨same_upd hD, upd_same⟩ (fun n H' _ z => z.1 _ _ upd_same) ?_ ?_
  · rintro n y H1 H2 hn ⟨s1, hDi⟩ ⟨rfl, k, v, hkv, rfl⟩
    obtain ⟨x, hxn, ex⟩ : ∃ x, xs[n]? = some x ∧ kV k = V.str x := by
      have e := congrArg (fun l => l[n]?) hx
      simp only [List.getElem?_map, hkv, Option.map_some] at e
      cases e2 : xs[n]? with
      | none => rw [e2] at e; cases e
      | some x => rw [e2] at e; exact ⟨x, rfl, Option.some.inj e⟩
    refine ⟨by show ((σ.set i none).set i (some _)).set i none = σ.set i none; rw [List.set_set, List.set_set], ?_⟩
    unfold tYes
    refine iteT ?_
    have hi2 : ((σ.set i none).set i (some (kV k)))[i]? = some (some (kV k)) := List.getElem?_set_self (by rw [List.length_set]; exact hi)
    refine ⟨_, hi2, x, by rw [ex], _, hDi, ?_, ?_, ?_⟩
    · rw [List.length_map, List.length_take]
      exact small1000 (by omega)
    · intro b o eb
      rw [upd_ne (ne_of_none eb hD)]
      exact s1 _ _ eb
    · rw [upd_same, List.take_add_one, hxn, List.map_append]
      rfl
  · rintro H1 ⟨s1, hDn⟩
    rw [hlen, List.take_length] at hDn
    refine ⟨s1 _ _ upd_same, h _ D (fun b o e => ?_) hD0 ?_⟩
    · by_cases ek : b = kd
      · subst ek
        rw [hk] at e
        cases e
        exact upd_same
      · rw [upd_ne ek]
        refine s1 _ _ ?_
        rw [upd_ne ek]
        exact e
    · rw [upd_ne hDk]
      exact hDn
section
variable {P : Program} {w : World} {K : PySem.W.Frag} {mg : Str → Option Value} {base : Heap} {tG t1 t2 t3 tLo tLe : Tok} {aO aW J C Cb Cm gS gN gC gG gL pP gP pN gNm pC gCl pH gH : Addr} {fdS fdN fdC fdG fdL fdP fdNm fdCl fdH : FuncData} {c : Nat → Addr}
theorem sc_law_put : FnScope ["_law_desk", "_law_word", "_law_made"] ["_law_desk", "_law_word", "_law_made"] (defScope s_law_put) := ⟨rfl, rfl, rfl, by decide +kernel, rfl, by decide +kernel, by decide +kernel⟩

theorem ok_put {f : Addr} {fd : FuncData} (F : Fun K "_law_put" "_law_put" s_law_put f fd) (OSt : OwI P w K mg base CX0 Cb "__setitem__" 4 ["self", "at", "worth"] (spSet C Cb Cm) gS fdS) : FnOk P w K mg base CX0 6 f fd ["_law_desk", "_law_word", "_law_made"] (spSet C Cb Cm) := by
  refine F.ok sc_law_put (fun vs H Q E h => ?_) (fun cdv A outer s H vs Q E hr h => ?_)
  · obtain ⟨b, d, x, y, r, ws, n, rfl, _⟩ := h
    rfl
  · obtain ⟨b, d, x, y, r, ws, n, rfl, hD, h⟩ := h
    refine ⟨_, (pss_one (ps_stOwn OSt.q OSt.at_ OSt.isf OSt.ok OSt.b (hr.mono (by decide)) pass0 (pv 0) (pv 1) (pv 2))), ?_⟩
    obtain ⟨db, m, dm, t, bf, kvs, h1, hr⟩ := id hD
    exact ⟨_, rfl, _, rfl, _, rfl, b, db, _, rfl, h1, b, d, x, y, r, ws, n, rfl, hD, h⟩
theorem ok_putN {f : Addr} {fd : FuncData} (F : Fun K "_law_put" "_law_put" s_law_put f fd) (OStN : OwI P w K mg base (L2N.CX P w) Cb "__setitem__" 5 ["self", "at", "worth"] (spSetN K C Cb Cm (c 0) (c 5)) gN fdN) : FnOk P w K mg base (L2N.CX P w) 7 f fd ["_law_desk", "_law_word", "_law_made"] (spSetN K C Cb Cm (c 0) (c 5)) := by
  refine okN F sc_law_put (fun vs H Q E h => ?_) (fun cdv A outer s H vs Q E hr h => ?_)
  · obtain ⟨b, d, v, y, e, ws, n, rfl, _⟩ := h
    rfl
  · obtain ⟨b, d, v, y, e, ws, n, rfl, hD, h⟩ := h
    refine ⟨_, (pss_one (ps_stOwn OStN.q OStN.at_ OStN.isf OStN.ok OStN.b (hr.mono (by decide)) (passN (L2N.takes_of rfl rfl rfl rfl) fun _ _ _ _ h => h) (pv 0) (pv 1) (pv 2))), ?_⟩
    obtain ⟨db, m, dm, t, bf, kvs, h1, hr⟩ := id hD
    exact ⟨_, rfl, _, rfl, _, rfl, b, db, _, rfl, h1, b, d, v, y, e, ws, n, rfl, hD, h⟩
theorem sc_law_state_right : FnScope ["_law_desk", "_law_kept", "_law_many", "_law_words", "_law_word"] ["_law_desk", "_law_kept", "_law_many"] (defScope s_law_state_right) := ⟨rfl, rfl, rfl, by decide +kernel, rfl, by decide +kernel, by decide +kernel⟩

theorem ok_state {f : Addr} {fd : FuncData} (F : Fun K "_law_state_right" "_law_state_right" s_law_state_right f fd) (T : TxK K mg tG t1 t2 t3 tLo tLe aO aW J C Cb Cm) (ONm : OwPrB P w K mg base Cb "names" (spNms C Cb Cm) pN gNm fdNm) (OCl : OwPrB P w K mg base Cb "claims" (spCls C Cb Cm) pC gCl fdCl) (OCh : OwPrB P w K mg base Cb "changes" (spChs C Cb Cm) pH gH fdH) (OPi : OwPi P w K mg base C pP gP fdP) (OLn : OwLen P w K mg base Cb (spLen C Cb Cm) gL fdL) (OCn : OwF P w K mg base Cb "__contains__" 1 ["self", "x"] (spCon K C Cb Cm) gC fdC) (OG : OwI P w K mg base CX0 Cb "__getitem__" 2 ["self", "at"] (spGet C Cb Cm) gG fdG) : FnG P w K mg base 5 f fd ["_law_desk", "_law_kept", "_law_many"] (spSt C Cb Cm) := by
  refine okG F sc_law_state_right (fun vs H Q E h => ?_) (fun cdv A outer s H vs Q E hg hr h => ?_)
  · obtain ⟨b, d, kd, ws, n, rfl, _⟩ := h
    rfl
  · obtain ⟨b, d, kd, ws, n, rfl, hD, hK, nkd, hW, hn, k⟩ := h
    refine ⟨_, (C8.pss_cut (ps_set (i := 3) sc_law_state_right.nd rfl (.inl rfl) (pe_callB cr_sortedS (by rfl) T.sorted (by decide +kernel) (pa_cons (pe_lock (pe_lc (own := [("_law_word", 4)]) (g := gName 4) (tt := tYes) rfl sc_law_state_right.nd (pi_keys (pv 1)) (blkOk_by (N := ["_law_desk", "_law_kept", "_law_many", "_law_words", "_law_word"]) (sc := defScope s_law_state_right) (by decide +kernel)) (fun _ _ _ _ _ => pg_name (i := 4) sc_law_state_right.nd rfl (Or.inl rfl)) (fun _ _ _ _ _ => pts_nil) (fun _ _ _ _ _ => (pe_callTy SkE.call_str_str (by rfl) T.str_ (by decide +kernel) (pa_cons (pv 4) pa_nil))))) pa_nil)))
      (pss_cons (ps_if (pt_cmpR op_ne (pe_callB (cr_rpK (K := K) hg hr.units) (by rfl) T.repr (by decide +kernel) (pa_cons (pe_lst (pa_cons (pe_prop (pv 0) T.clB ONm.pr ONm.ok (hr.mono (by decide)) ONm.b .nil pass0 rfl) (pa_cons (pe_prop (pv 0) T.clB OCl.pr OCl.ok (hr.mono (by decide)) OCl.b .nil pass0 rfl) (pa_cons (pe_prop (pv 0) T.clB OCh.pr OCh.ok (hr.mono (by decide)) OCh.b .nil pass0 rfl) pa_nil)))) pa_nil)) (pe_callB (cr_rpK (K := K) hg hr.units) (by rfl) T.repr (by decide +kernel) (pa_cons (pe_lst (pa_cons (pe_callTy call_tuple_of (by rfl) T.tuple_ (by decide +kernel) (pa_cons (pv 3) pa_nil)) (pa_cons (pe_tup pa_nil) (pa_cons (pv 2) pa_nil)))) pa_nil)) (nomark _)) (pss_one (ps_ret pe_bl)) pss_nil)
      (pss_cons (ps_if (pt_cmpR op_ne (pe_callB (cr_rpK (K := K) hg hr.units) (by rfl) T.repr (by decide +kernel) (pa_cons (pe_lst (pa_cons (pe_callB (call_lenOwn OLn.at_ OLn.fn OLn.ok OLn.b (hr.mono (by decide))) (by rfl) T.len (by decide +kernel) (pa_cons (pv 0) pa_nil)) (pa_cons (pe_callTy (cr_boolLen OLn.nb OLn.at_ OLn.fn OLn.ok OLn.b (hr.mono (by decide))) (by rfl) T.bool_ (by decide +kernel) (pa_cons (pv 0) pa_nil)) pa_nil))) pa_nil)) (pe_callB (cr_rpK (K := K) hg hr.units) (by rfl) T.repr (by decide +kernel) (pa_cons (pe_lst (pa_cons (pe_callB call_len_seq (by rfl) T.len (by decide +kernel) (pa_cons (pv 3) pa_nil)) (pa_cons (pe_cmpR (op_neD hr.units) (pv 3) (pe_lst pa_nil) (nomark _)) pa_nil))) pa_nil)) (nomark _)) (pss_one (ps_ret pe_bl)) pss_nil)
      (pss_one (ps_ret (pe_callB (cr_all rfl) (by rfl) T.all (by decide +kernel) (pa_cons (pe_lc (own := [("_law_word", 4)]) (g := gName 4) (tt := tYes) rfl sc_law_state_right.nd (pi_list (pv 3)) (blkOk_by (N := ["_law_desk", "_law_kept", "_law_many", "_law_words", "_law_word"]) (sc := defScope s_law_state_right) (by decide +kernel)) (fun _ _ _ _ _ => pg_name (i := 4) sc_law_state_right.nd rfl (Or.inl rfl)) (fun _ _ _ _ _ => pts_nil) (fun _ _ _ _ _ => (pe_and (pe_cmpR (op_inOwn OCn.at_ OCn.fn OCn.ok OCn.b (hr.mono (by decide))) (pv 4) (pv 0) (by rfl)) (pe_one (pe_cmpR op_eq (pe_callB (cr_rpK (K := K) hg hr.units) (by rfl) T.repr (by decide +kernel) (pa_cons (pe_prop (pe_itOwn OG.at_ OG.fn OG.isf OG.ok OG.b (hr.mono (by decide)) pass0 (pv 0) (pv 4)) T.cl OPi.pr OPi.ok (hr.mono (by decide)) OPi.b .nil pass0 rfl) pa_nil)) (pe_callB (cr_rpK (K := K) hg hr.units) (by rfl) T.repr (by decide +kernel) (pa_cons (pe_dget (u1_of hr.units) (pv 1) (pv 4) (fun _ _ => rfl)) pa_nil)) (nomark _)))))) pa_nil))))))), ?_⟩
    obtain ⟨hw20, hnm, hnd⟩ := hW
    obtain ⟨kk, hkd, hkk⟩ := id hK
    have xl : (ws.map (·.1)).length = ws.length := List.length_map ..
    refine ⟨fun σ' H' => ∃ q ys, σ' = [some (.ref b), some (.ref kd), some (.int (n : Int)), some (.ref q), none] ∧ Same H H' ∧ H' q = some (.lst (ys.map V.str)) ∧ ys.Perm (ws.map (·.1)) ∧ sortedS ys = true, ?_, ?_⟩
    · refine keys_lc (j := 1) (i := 4) (kd := kd) (xs := ws.map (·.1)) rfl (by show 4 < 5; decide) hkd hkk.keys (by omega) fun H1 D s1 nD hD1 => ?_
      refine ⟨D, _, rfl, SqL.of hD1, by omega, fun ys p py sy hp => ?_⟩
      exact ⟨p, ys, rfl, s1.trans (same_upd hp), upd_same, py, sy⟩
    rintro σ1 H1 ⟨q, ys, rfl, s1, hq, py, sy⟩
    have hD1 := hD.same s1
    have hK1 := hK.pres (.of s1) fun o e => s1 _ _ e
    have yl : ys.length = ws.length := by rw [py.length_eq, xl]
    have yn : ∀ x ∈ ys, nameS x = true := fun x hx => by
      obtain ⟨p, hp, rfl⟩ := List.mem_map.mp (py.mem_iff.mp hx)
      exact hnm p hp
    obtain ⟨db, m, dm, t, bf, kvs, h1, h2, h3, h4, h5⟩ := id hD1
    refine ⟨_, rfl, b, db, _, rfl, h1, b, d, ws, n, rfl, hD1, by omega, fun H2 p zs s2 pz sz hp => ?_⟩
    obtain rfl : zs = ys := sortedS_one sz sy (pz.trans py.symm)
    refine ⟨_, rfl, b, db, _, rfl, s2 _ _ h1, b, d, ws, n, rfl, hD1.same s2, fun t2 ht2 => ?_⟩
    refine ⟨_, rfl, b, db, _, rfl, s2 _ _ h1, b, d, ws, n, rfl, hD1.same s2, ?_⟩
    refine ⟨by show 3 ≤ sizeLine; decide, fun l nl => ?_⟩
    have s3 := same_upd (o := .lst [.ref p, .ref t2, .int (n : Int)]) nl
    have Sh := tame_st (n := n) yn (by omega) hn
    refine ⟨_, .list [.tuple (zs.map PyData.str), .tuple [], .int (n : Int)], rfl, .dp (.lst (SqL.of upd_same) (.cons (.tup (SqT.of (s3 _ _ hp)) (dpa_strs zs)) (.cons (.tup (SqT.of (s3 _ _ ht2)) .nil) (.cons (.int _) .nil)))) Sh.n, Sh.s, Sh.p, Sh.l, ?_⟩
    have s13 := s2.trans s3
    generalize upd H2 l (.lst [.ref p, .ref t2, .int (n : Int)]) = H3 at *
    refine ⟨_, rfl, q, _, rfl, .inl ⟨SqL.of (s13 _ _ hq), fun p2 np2 => ?_⟩⟩
    have s4 := same_upd (o := .tup (zs.map V.str)) np2
    have hp2 : (upd H3 p2 (.tup (zs.map V.str))) p2 = some (.tup (zs.map V.str)) := upd_same
    generalize upd H3 p2 (.tup (zs.map V.str)) = H4 at *
    refine ⟨Nat.zero_le _, fun p3 np3 => ?_⟩
    have s5 := same_upd (o := .tup []) np3
    have hp3 : (upd H4 p3 (.tup [])) p3 = some (.tup []) := upd_same
    generalize upd H4 p3 (.tup []) = H5 at *
    refine ⟨_, rfl, by show 3 ≤ sizeLine; decide, fun l2 nl2 => ?_⟩
    have s6 := same_upd (o := .lst [.ref p2, .ref p3, .int (n : Int)]) nl2
    refine ⟨_, .list [.tuple (zs.map PyData.str), .tuple [], .int (n : Int)], rfl, .dp (.lst (SqL.of upd_same) (.cons (.tup (SqT.of (s6 _ _ (s5 _ _ hp2))) (dpa_strs zs)) (.cons (.tup (SqT.of (s6 _ _ hp3)) .nil) (.cons (.int _) .nil)))) Sh.n, Sh.s, Sh.p, Sh.l, ?_⟩
    have s16 := s13.trans ((s4.trans s5).trans s6)
    generalize upd H5 l2 (.lst [.ref p2, .ref p3, .int (n : Int)]) = H6 at *
    refine ⟨rfl, _, rfl, ite2 (fun e => ?_) (fun _ => ?_)⟩
    · rw [decide_eq_true rfl] at e
      exact absurd e (by decide)
    have hD6 := hD1.same s16
    obtain ⟨db', m', dm', t', bf', kvs', g1, _⟩ := id hD6
    refine ⟨_, rfl, b, db', _, rfl, g1, b, d, ws, n, rfl, hD6, ?_⟩
    refine ⟨ws.length, rfl, by omega, ?_⟩
    refine ⟨_, rfl, b, db', _, rfl, g1, b, d, ws, n, rfl, hD6, ws.length, rfl, by omega, ?_⟩
    refine ⟨by show 2 ≤ sizeLine; decide, fun l3 nl3 => ?_⟩
    have s7 := same_upd (o := .lst [.int (ws.length : Int), .bl ((ws.length : Int) != 0)]) nl3
    have Sb : Shows (.list [.int ((ws.length : Nat) : Int), .bool ((ws.length : Int) != 0)]) := tame_lb (by omega)
    refine ⟨_, .list [.int ((ws.length : Nat) : Int), .bool ((ws.length : Int) != 0)], rfl, .dp (.lst (SqL.of upd_same) (.cons (.int _) (.cons (.bl _) .nil))) Sb.n, Sb.s, Sb.p, Sb.l, ?_⟩
    have s17 := s16.trans s7
    generalize upd H6 l3 (.lst [.int (ws.length : Int), .bl ((ws.length : Int) != 0)]) = H7 at *
    refine ⟨_, rfl, q, _, rfl, .inl (SqL.of (s17 _ _ hq)), ?_⟩
    refine ⟨_, rfl, Nat.zero_le _, fun e0 ne0 => ?_⟩
    have s8 := same_upd (o := .lst []) ne0
    refine ⟨.list (zs.map PyData.str), .list [], .lst (SqL.of (s8 _ _ (s17 _ _ hq))) (dpa_strs zs), .lst (SqL.of upd_same) .nil, sh_names yn, sh_nil, ?_⟩
    rw [eqv_nil]
    have e1 : (!decide (zs = [])) = ((ws.length : Int) != 0) := by
      rw [← yl]
      cases zs with
      | nil => rfl
      | cons a r =>
        have h1 : decide (a :: r = []) = false := by simp
        have h2 : (((a :: r).length : Int) != 0) = true := by
          rw [bne_iff_ne, List.length_cons]
          omega
        rw [h1, h2]
        rfl
    have e2 : (zs.map V.str).length = ws.length := by rw [List.length_map, yl]
    rw [e1, e2]
    have s18 := s17.trans s8
    generalize upd H7 e0 (.lst []) = H8 at *
    refine ⟨by show 2 ≤ sizeLine; decide, fun l4 nl4 => ?_⟩
    have s9 := same_upd (o := .lst [.int (ws.length : Int), .bl ((ws.length : Int) != 0)]) nl4
    refine ⟨_, .list [.int ((ws.length : Nat) : Int), .bool ((ws.length : Int) != 0)], rfl, .dp (.lst (SqL.of upd_same) (.cons (.int _) (.cons (.bl _) .nil))) Sb.n, Sb.s, Sb.p, Sb.l, ?_⟩
    have s19 := s18.trans s9
    generalize upd H8 l4 (.lst [.int (ws.length : Int), .bl ((ws.length : Int) != 0)]) = H9 at *
    refine ⟨rfl, _, rfl, ite2 (fun e => ?_) (fun _ => ?_)⟩
    · rw [decide_eq_true rfl] at e
      exact absurd e (by decide)
    have hD9 := hD1.same s19
    have hK9 := hK1.pres (.of s19) fun o e => s19 _ _ e
    have hq9 := s19 _ _ hq
    refine ⟨_, rfl, q, rfl, ⟨_, SqL.of hq9⟩, fun D hD => ?_⟩
    refine lc_it (walk_list (xs := zs.map V.str)) (fun i H' => Same H9 H' ∧ H' D = some (.lst (List.replicate i (.bl true)))) ⟨same_upd hD, upd_same⟩ (fun i H' _ z => SqL.of (z.1 _ _ hq9)) ?_ ?_
    · rintro i y H1 H2 hi ⟨t1', hDi⟩ ⟨rfl, hyi⟩
      have hiz : i < zs.length := by rw [List.length_map] at hi; exact hi
      obtain ⟨x, hx, rfl⟩ : ∃ x, zs[i]? = some x ∧ y = .str x := by
        rw [List.getElem?_map, List.getElem?_eq_getElem hiz] at hyi
        exact ⟨_, List.getElem?_eq_getElem hiz, (Option.some.inj hyi).symm⟩
      have hin : hasW ws x = true := by
        obtain ⟨p, hp, e⟩ := List.mem_map.mp (py.mem_iff.mp (List.mem_of_getElem? hx))
        exact List.any_eq_true.mpr ⟨p, hp, decide_eq_true e⟩
      have hDx := hD9.same t1'
      have hKx := hK9.pres (.of t1') fun o e => t1' _ _ e
      obtain ⟨db2, m2, dm2, t2', bf2, kvs2, g1', _⟩ := id hDx
      refine ⟨rfl, ?_⟩
      unfold tYes
      refine iteT ?_
      refine ⟨_, rfl, _, rfl, b, db2, _, rfl, g1', b, d, .str x, .str x, ws, n, rfl, hDx, .dp (.str x) rfl, true, by (show V.bl (hasW ws x) = _); rw [hin], true, rfl, iteT ?_⟩
      refine ⟨_, rfl, _, rfl, b, db2, _, rfl, g1', b, d, x, ws, n, rfl, hDx, hin, fun v r hv hp => ?_⟩
      obtain ⟨pa, rfl, hpa, rok, r1, r8⟩ := hp
      obtain ⟨pd, pf, hpi⟩ : ∃ pd pf, H2 pa = some (.ins C pd pf) := by
        obtain ⟨dx, q, m, f, ws, f1, f2, f3, f4, h1, _⟩ := hpa
        exact ⟨_, _, h1⟩
      refine ⟨pa, pd, pf, rfl, hpi, pa, r, rfl, hpa, fun q2 vs hq2 hvs => ?_⟩
      have Sr := (tame_row rok r8).shows (by decide) (by decide)
      refine ⟨_, .tuple (r.map pcD), rfl, .dp (.tup (SqT.of hq2) (dpa_pieces hvs)) Sr.n, Sr.s, Sr.p, Sr.l, ?_⟩
      obtain ⟨kvs3, hk3, hkv3⟩ := hKx
      obtain ⟨v3, r3, e3, e4, hr3⟩ := hkv3.val hin
      obtain rfl : r3 = r := Option.some.inj (e4.symm.trans hv)
      obtain ⟨q3, ws3, rfl, hq3, hvs3, _⟩ := hr3
      refine ⟨_, rfl, _, rfl, kd, _, rfl, by rw [← e3]; exact DGet.k (k := .inr x) hk3, ?_⟩
      refine ⟨_, .tuple (r3.map pcD), rfl, .dp (.tup (SqT.of hq3) (dpa_pieces hvs3)) Sr.n, Sr.s, Sr.p, Sr.l, ?_⟩
      refine ⟨rfl, _, hDi, ?_, ?_, ?_⟩
      · rw [List.length_replicate]
        exact small1000 (by omega)
      · intro z o e
        rw [upd_ne (ne_of_none e hD)]
        exact t1' _ _ e
      · rw [decide_eq_true rfl, upd_same, List.replicate_succ']
    · rintro H1 ⟨t1', hDn⟩
      refine ⟨D, List.replicate _ true, rfl, SqL.of (by rw [List.map_replicate]; exact hDn), ?_⟩
      rw [all_true']
      exact k _ (s1.trans (s19.trans t1'))
end
end RL

set_option maxHeartbeats 4000000
namespace RL
open PySem L2 PySem.Spec PyProof.Rows
/-! ### what is refused -/
def erD (w x : Str) : PyData := .tuple [.str w, .str x]
theorem er_eqv (w x : Str) : PyData.eqv (erD w x) (erD w x) = true := by simp [erD, PyData.eqv, PyData.eqvAll]
theorem er_not (w x : Str) : ¬ (!PyData.eqv (erD w x) (erD w x)) = true := by
  rw [er_eqv]
  decide
theorem er_sh {w x : Str} (h : PyData.strOk w = true) (k : PyData.strOk x = true) : SeqAt.shaped (erD w x) = true := by
  unfold SeqAt.shaped
  simp [erD, PyData.canLay0, PyData.canLayAll0, PyData.depth, PyData.depthAll, h, k]
theorem er_dp {K : PySem.W.Frag} {H : Hp} {a : Addr} {w x : Str} (h : H a = some (.tup [.str w, .str x])) : Dp K H (.ref a) (erD w x) := .tup (SqT.of h) (.cons (.str _) (.cons (.str _) .nil))
theorem ok_w0 : PyData.strOk (wordF 0) = true := by decide +kernel
theorem ok_w5 : PyData.strOk (wordF 5) = true := by decide +kernel
theorem ok_w9 : PyData.strOk (wordF 9) = true := by decide +kernel
theorem wd0 : wordF 0 = Str.ofString "NotAPattern" := by decide +kernel
theorem wd5 : wordF 5 = Str.ofString "InvalidName" := by decide +kernel
theorem wd9 : wordF 9 = Str.ofString "UnknownName" := by decide +kernel
theorem fld0 : fldF 0 = Str.ofString "given" := by decide +kernel
theorem fld5 : fldF 5 = Str.ofString "given" := by decide +kernel
theorem fld9 : fldF 9 = Str.ofString "given" := by decide +kernel
def oddY : List PyData := [.none, .str (Str.ofString "rail 1"), .tuple [.tuple [.str (Str.ofString "rail"), .int 1]], .tuple [.str (Str.ofString "rail"), .int 1], .int 7, .bool true, .list [], .dict []]
theorem oddY_all : oddY.all oddT = true := by decide +kernel
theorem tape_ext {c : Addr} {n : Nat} {H H' : Hp} (t : TapeAt c n H) (x : LamX.ExtN H H') : TapeAt c n H' := by
  obtain ⟨a, b, d, h, r⟩ := t
  exact ⟨a, b, d, x _ _ h (by intro ps z; cases z), r⟩
theorem Pres.butT {c : Addr} {n : Nat} {H H' : Hp} (t : TapeAt c n H) (b : ButT c H H') : Pres H H' := by
  obtain ⟨x, y, z, hc, _⟩ := t
  exact ⟨fun a xs h => b _ _ (ne_of h hc (by intro z; cases z)) (by intro ps z; cases z) h, fun a C dx fs _ h => b _ _ (ne_of h hc (by intro z; cases z)) (by intro ps z; cases z) h⟩
theorem DeskAt.butT {C Cb Cm c : Addr} {k : Nat} {H H' : Hp} {b d : Addr} {ws : Wr} {n : Nat} (h : DeskAt C Cb Cm H b d ws n) (t : TapeAt c k H) (s : ButT c H H') : DeskAt C Cb Cm H' b d ws n := by
  have p := Pres.butT t s
  obtain ⟨x, y, z, hc, _⟩ := t
  obtain ⟨db, m, dm, u, bf, kvs, h1, h2, h3, h4, h5⟩ := h
  exact ⟨db, m, dm, u, bf, kvs, s _ _ (ne_of h1 hc (by intro z; cases z)) (by intro ps z; cases z) h1, p.i _ _ _ _ (by show 2 ≤ 4; decide) h2, s _ _ (ne_of h3 hc (by intro z; cases z)) (by intro ps z; cases z) h3, p.t _ _ h4, h5.imp fun v r z => z.pres p⟩
theorem KeptAt.butT {c : Addr} {k : Nat} {H H' : Hp} {kd : Addr} {ws : Wr} (h : KeptAt H kd ws) (t : TapeAt c k H) (s : ButT c H H') : KeptAt H' kd ws := by
  have p := Pres.butT t s
  obtain ⟨x, y, z, hc, _⟩ := t
  obtain ⟨kvs, h1, h2⟩ := h
  exact ⟨kvs, s _ _ (ne_of h1 hc (by intro z; cases z)) (by intro ps z; cases z) h1, h2.imp fun v r z => z.pres p⟩
theorem DeskAt.ext {C Cb Cm : Addr} {H H' : Hp} {b d : Addr} {ws : Wr} {n : Nat} (h : DeskAt C Cb Cm H b d ws n) (x : LamX.ExtN H H') : DeskAt C Cb Cm H' b d ws n := by
  have p := Pres.ext x
  obtain ⟨db, m, dm, u, bf, kvs, h1, h2, h3, h4, h5⟩ := h
  exact ⟨db, m, dm, u, bf, kvs, ext_ins x h1, ext_ins x h2, x _ _ h3 (by intro ps z; cases z), p.t _ _ h4, h5.imp fun v r z => z.pres p⟩
theorem KeptAt.ext {H H' : Hp} {kd : Addr} {ws : Wr} (h : KeptAt H kd ws) (x : LamX.ExtN H H') : KeptAt H' kd ws := by
  obtain ⟨kvs, h1, h2⟩ := h
  exact ⟨kvs, x _ _ h1 (by intro ps z; cases z), h2.imp fun v r z => z.pres (Pres.ext x)⟩
def spRefB (C Cb Cm : Addr) (TT : List (Addr × Str)) : Sp := fun vs H Q _ => ∃ (b d kd c : Addr) (ws : Wr) (m n : Nat), vs = [.ref b, .ref kd, .ref c] ∧ DeskAt C Cb Cm H b d ws m ∧ KeptAt H kd ws ∧ GoodW ws ∧ TapeAt c n H ∧ n + 20 ≤ 1000000 ∧ LamX.Tabs TT H ∧ ∀ H', ButT c H H' → TapeAt c (n + 20) H' → LamX.Tabs TT H' → Q (.bl true) H'
section
variable {P : Program} {w : World} {K : PySem.W.Frag} {mg : Str → Option Value} {base : Heap} {tG t1 t2 t3 tLo tLe : Tok} {aO aW J C Cb Cm gGN gDN gC gG pP gP : Addr} {fdGN fdDN fdC fdG fdP : FuncData} {c : Nat → Addr}
theorem sc_law_refused_right : FnScope ["_law_desk", "_law_kept", "_law_tape", "_law_thing", "_law_made", "_law_odd", "_law_due", "_law_is_known"] ["_law_desk", "_law_kept", "_law_tape"] (defScope s_law_refused_right) := ⟨rfl, rfl, rfl, by decide +kernel, rfl, by decide +kernel, by decide +kernel⟩

theorem ok_refB {f cA PA : Addr} {fd : FuncData} {TT : List (Addr × Str)} (F : FunC K "_law_refused_right" "_law_refused_right" s_law_refused_right f fd cA) (T : TxK K mg tG t1 t2 t3 tLo tLe aO aW J C Cb Cm) (CG : ToldD P w K mg base c 1 (rRp K)) (EF0 : EF K c (c 0) 0) (EF5 : EF K c (c 5) 5) (EF9 : EF K c (c 9) 9)
    (TBR : LamX.TabB base mg cA PA) (TMR : (PA, ("_law_refused_right" : Str) ++ ".<locals>.<lambda>") ∈ TT) (TUR : ∀ p ∈ TT, p.1 = PA → p.2 = ("_law_refused_right" : Str) ++ ".<locals>.<lambda>")
    (D_law_pick : Df P w K mg base 1 "_law_pick" ["_law_tape", "_law_many"] spDraw) (D_law_anyrow : Df P w K mg base 2 "_law_anyrow" ["_law_tape", "_law_longest"] spAnyRowL) (D_law_pat : Df P w K mg base 8 "_law_pat" ["_law_row"] (spPat C)) (D_law_anything : Df P w K mg base 2 "_law_anything" ["_law_tape"] spAnything) (D_law_is_name : Df P w K mg base 1 "_law_is_name" ["_law_thing"] (spNameG K))
    (D_law_putN : DfN P w K mg base 7 "_law_put" ["_law_desk", "_law_word", "_law_made"] (spSetN K C Cb Cm (c 0) (c 5))) (OGN : OwI P w K mg base (L2N.CX P w) Cb "__getitem__" 4 ["self", "at"] (spGetN K C Cb Cm (c 9)) gGN fdGN) (ODN : OwM' P w K mg base (L2N.CX P w) Cb "drop" 4 ["self", "name"] (spGetN K C Cb Cm (c 9)) gDN fdDN)
    (OPi : OwPi P w K mg base C pP gP fdP) (OCn : OwF P w K mg base Cb "__contains__" 1 ["self", "x"] (spCon K C Cb Cm) gC fdC) (OG : OwI P w K mg base CX0 Cb "__getitem__" 2 ["self", "at"] (spGet C Cb Cm) gG fdG) : FnG P w K mg base 12 f fd ["_law_desk", "_law_kept", "_law_tape"] (spRefB C Cb Cm TT) := by
  refine okGC F sc_law_refused_right (fun vs H Q E h => ?_) (fun A outer s H vs Q E hg hr h => ?_)
  · obtain ⟨b, d, kd, c, ws, m, n, rfl, _⟩ := h
    rfl
  · obtain ⟨b, d, kd, cu, ws, m, n, rfl, hD, hK, hW, ht, hn, hT, k⟩ := h
    refine ⟨_, (C8.pss_cut (ps_asg (pe_tup (pa_cons (pe_df D_law_anything (hr.mono (by decide)) (by rfl) (pa_cons (pv 2) pa_nil)) (pa_cons (pe_df D_law_pat (hr.mono (by decide)) (by rfl) (pa_cons (pe_df D_law_anyrow (hr.mono (by decide)) (by rfl) (pa_cons (pv 2) (pa_cons pe_int pa_nil))) pa_nil)) pa_nil))) (pg_tup rfl (pgs_cons (pg_name (i := 3) sc_law_refused_right.nd rfl (.inr rfl)) (pgs_cons (pg_name (i := 4) sc_law_refused_right.nd rfl (.inr rfl)) pgs_nil))))
      (C8.pss_cut (ps_set (i := 5) sc_law_refused_right.nd rfl (.inr rfl) (pe_ix ix_list (pd_lst (pds_cons pd_non (pds_cons pd_str (pds_cons (pd_tup (pds_cons (pd_tup (pds_cons pd_str (pds_cons pd_int pds_nil))) pds_nil)) (pds_cons (pd_tup (pds_cons pd_str (pds_cons pd_int pds_nil))) (pds_cons pd_int (pds_cons pd_bl (pds_cons (pd_lst pds_nil) (pds_cons pd_dict pds_nil))))))))) (pe_df D_law_pick (hr.mono (by decide)) (by rfl) (pa_cons (pv 2) (pa_cons pe_int pa_nil))) (fun _ _ => rfl)))
      (C8.pss_cut (ps_if (pt_not (pt_val (pe_df D_law_is_name (hr.mono (by decide)) (by rfl) (pa_cons (pv 3) pa_nil)))) (pss_cons (ps_set (i := 6) sc_law_refused_right.nd rfl (.inl rfl) (pe_tup (pa_cons pe_str (pa_cons (pe_callB (cr_rpK (K := K) hg hr.units) (by rfl) T.repr (by decide +kernel) (pa_cons (pv 3) pa_nil)) pa_nil))))
      (pss_cons (ps_if (pt_cmpR (op_neD hr.units) (pe_told (k := 9) CG hg (by decide) (by decide) TBR rfl TMR TUR (hr.mono (by decide)) rfl (fun A2 outer2 s2 H2 E2 f2 c2 hg2 hr2 => (pe_dfN D_law_putN (hr2.mono (by decide)) (by rfl) (passN lamN_takes fun _ _ _ _ h => h) (pa_cons (pv 0) (pa_cons (pv 3) (pa_cons (pv 4) pa_nil)))))) (pv 6) (nomark _)) (pss_one (ps_ret pe_bl)) pss_nil)
      (pss_one (ps_if (pt_cmpR (op_neD hr.units) (pe_told (k := 9) CG hg (by decide) (by decide) TBR rfl TMR TUR (hr.mono (by decide)) rfl (fun A2 outer2 s2 H2 E2 f2 c2 hg2 hr2 => (pe_dfN D_law_putN (hr2.mono (by decide)) (by rfl) (passN lamN_takes fun _ _ _ _ h => h) (pa_cons (pv 0) (pa_cons (pv 3) (pa_cons (pv 5) pa_nil)))))) (pv 6) (nomark _)) (pss_one (ps_ret pe_bl)) pss_nil)))) (pss_one (ps_if (pt_cmpR (op_neD hr.units) (pe_told (k := 9) CG hg (by decide) (by decide) TBR rfl TMR TUR (hr.mono (by decide)) rfl (fun A2 outer2 s2 H2 E2 f2 c2 hg2 hr2 => (pe_dfN D_law_putN (hr2.mono (by decide)) (by rfl) (passN lamN_takes fun _ _ _ _ h => h) (pa_cons (pv 0) (pa_cons (pv 3) (pa_cons (pv 5) pa_nil)))))) (pe_tup (pa_cons pe_str (pa_cons (pe_callB (cr_rpK (K := K) hg hr.units) (by rfl) T.repr (by decide +kernel) (pa_cons (pv 5) pa_nil)) pa_nil))) (nomark _)) (pss_one (ps_ret pe_bl)) pss_nil)))
      (C8.pss_cut (ps_set (i := 7) sc_law_refused_right.nd rfl (.inl rfl) (pe_and (pe_callB call_isi (by rfl) T.isinstance (by decide +kernel) (pa_cons (pv 3) (pa_cons (pe_bltn (v := .ty "str") (by rfl) T.str_ (by decide +kernel) rfl) pa_nil))) (pe_one (pe_cmp (pc_din (u1_of hr.units) (pv 3) (pv 1))))))
      (C8.pss_cut (ps_if (pt_cmpR op_ne (pe_callB (cr_rpK (K := K) hg hr.units) (by rfl) T.repr (by decide +kernel) (pa_cons (pe_cmpR (op_inOwn OCn.at_ OCn.fn OCn.ok OCn.b (hr.mono (by decide))) (pv 3) (pv 0) (by rfl)) pa_nil)) (pe_callB (cr_rpK (K := K) hg hr.units) (by rfl) T.repr (by decide +kernel) (pa_cons (pv 7) pa_nil)) (nomark _)) (pss_one (ps_ret pe_bl)) pss_nil)
      (C8.pss_cut (ps_if (pt_val (pv 7)) (pss_one (ps_ret (pe_cmpR op_eq (pe_callB (cr_rpK (K := K) hg hr.units) (by rfl) T.repr (by decide +kernel) (pa_cons (pe_prop (pe_itOwn OG.at_ OG.fn OG.isf OG.ok OG.b (hr.mono (by decide)) pass0 (pv 0) (pv 3)) T.cl OPi.pr OPi.ok (hr.mono (by decide)) OPi.b .nil pass0 rfl) pa_nil)) (pe_callB (cr_rpK (K := K) hg hr.units) (by rfl) T.repr (by decide +kernel) (pa_cons (pe_dget (u1_of hr.units) (pv 1) (pv 3) (fun _ _ => rfl)) pa_nil)) (nomark _)))) pss_nil)
      (C8.pss_cut (ps_set (i := 6) sc_law_refused_right.nd rfl (.inl rfl) (pe_tup (pa_cons pe_str (pa_cons (pe_callB (cr_rpK (K := K) hg hr.units) (by rfl) T.repr (by decide +kernel) (pa_cons (pv 3) pa_nil)) pa_nil))))
      (C8.pss_cut (ps_if (pt_cmpR (op_neD hr.units) (pe_told (k := 9) CG hg (by decide) (by decide) TBR rfl TMR TUR (hr.mono (by decide)) rfl (fun A2 outer2 s2 H2 E2 f2 c2 hg2 hr2 => (pe_itOwn OGN.at_ OGN.fn OGN.isf OGN.ok OGN.b (hr2.mono (by decide)) (passN lamN_takes fun _ _ _ _ h => h) (pv 0) (pv 3)))) (pv 6) (nomark _)) (pss_one (ps_ret pe_bl)) pss_nil)
      (pss_one (ps_ret (pe_cmpR (op_eqD hr.units) (pe_told (k := 9) CG hg (by decide) (by decide) TBR rfl TMR TUR (hr.mono (by decide)) rfl (fun A2 outer2 s2 H2 E2 f2 c2 hg2 hr2 => (pe_meth (pv 0) T.clB ODN.m ODN.ok (hr2.mono (by decide)) ODN.b .nil (passN lamN_takes fun _ _ _ _ h => h) (pa_cons (pv 3) pa_nil)))) (pv 6) (nomark _)))))))))))), ?_⟩
    refine ⟨fun σ' H' => ∃ tv te mx r, σ' = [some (.ref b), some (.ref kd), some (.ref cu), some tv, some (.ref mx), none, none, none] ∧ But cu H H' ∧ TapeAt cu (n + 18) H' ∧ Dh cu H' tv te ∧ oddT te = true ∧ PatAt C H' mx r ∧ RowOk r ∧ 1 ≤ r.length ∧ r.length ≤ 8, ?_, ?_⟩
    · refine ⟨_, rfl, cu, n, rfl, ht, by omega, fun H1 tv te b1 t1 htv ote => ?_⟩
      refine ⟨_, rfl, cu, _, 4, rfl, t1, by omega, by decide, by decide, fun H2 rv rd b2 t2 hrd hrg _ => ?_⟩
      have hrow := row_at hrd.dr hrg
      obtain ⟨_, _, _, _, _, ok, l1, l8⟩ := id hrow
      refine ⟨rv, rowOf rd, rfl, hrow, fun H3 x s3 nx hx => ⟨(by show 2 ≤ sizeLine; decide), fun p np => ?_⟩⟩
      have sp := same_upd (o := .tup [tv, .ref x]) np
      have b13 := b2.trans (.of (s3.trans sp))
      refine ⟨p, _, rfl, SqT.of upd_same, rfl, _, _, rfl, _, _, rfl, rfl, ?_⟩
      exact ⟨tv, te, x, rowOf rd, rfl, b1.trans b13, ((t2.same s3).same sp).le (by omega), htv.but b13, ote, hx.same sp, ok, l1, l8⟩
    rintro σ1 H1 ⟨tv, te, mx, r, rfl, b1, t1, htv, ote, hmx, rok, l1, l8⟩
    refine ⟨fun σ' H' => ∃ ov oe, σ' = [some (.ref b), some (.ref kd), some (.ref cu), some tv, some (.ref mx), some ov, none, none] ∧ But cu H1 H' ∧ TapeAt cu (n + 20) H' ∧ Dh cu H' ov oe ∧ oddT oe = true, ?_, ?_⟩
    · intro Ha v s2 hv
      obtain ⟨a, vs, rfl, ha, hvs⟩ := Dr.list hv
      have hvs : Drs (fresh H1 Ha) vs oddY := hvs
      obtain ⟨na, ha'⟩ := fresh_get ha
      have nac : a ≠ cu := (t1.ne na).symm
      have ta := t1.same s2
      refine ⟨_, rfl, cu, _, 8, rfl, ta, by omega, by decide, sm_p (by decide) (by decide), fun H3 j b3 t3 j0 j1 => ?_⟩
      obtain ⟨i, hi, rfl⟩ : ∃ i : Nat, i < oddY.length ∧ j = (i : Int) := ⟨j.toNat, by show j.toNat < 8; omega, (Int.toNat_of_nonneg j0).symm⟩
      have hds := Dns.tape hvs t1
      obtain ⟨x, hx, hdx⟩ := Drs.at_ hds (List.getElem?_eq_getElem hi)
      refine ⟨a, vs, _, _, rfl, rfl, SqL.of (b3 _ _ nac ha'), atI_nat hx, ?_⟩
      exact ⟨x, _, rfl, (But.of s2).trans b3, t3.le (by omega), Dh.but hdx b3, all_at oddY_all (List.getElem?_eq_getElem hi)⟩
    rintro σ2 H2 ⟨ov, oe, rfl, b2, t2, hov, ooe⟩
    have htv2 := (htv.but b2).dr
    have hov2 := hov.dr
    have hmx2 := hmx.pres (Pres.tape t1 b2)
    have b12 := b1.trans b2
    have hD2 := hD.butT ht (.but b12)
    have hK2 := hK.butT ht (.but b12)
    have T2 := tabs_tape hT ht b12
    have gt := odd_of ote
    have go := odd_of ooe
    replace k : ∀ H', LamX.ExtN H2 H' → LamX.Tabs TT H' → Q (.bl true) H' := fun H' x z => k H' ((ButT.but b12).trans (.ext x)) (tape_ext t2 x) z
    clear hD hK hT ht b1 b2 b12 t1 htv hmx
    refine ⟨fun σ' H' => ∃ due, σ' = [some (.ref b), some (.ref kd), some (.ref cu), some tv, some (.ref mx), some ov, due, none] ∧ LamX.ExtN H2 H' ∧ LamX.Tabs TT H', ?_, ?_⟩
    · refine ⟨_, rfl, tv, te, rfl, htv2.dq gt.n, gt.t, fun H3 s3 => ?_⟩
      cases hn : nameG te with
      | false =>
        refine ⟨false, rfl, iteT ?_⟩
        refine ⟨_, rfl, tv, te, rfl, (htv2.mono s3).dq gt.n, gt.s, gt.p, gt.l, (by show 2 ≤ sizeLine; decide), fun q nq => ?_⟩
        have sq := same_upd (o := .tup [.str (Str.ofString "InvalidName"), .str te.shown]) nq
        have hq : (upd H3 q (.tup [.str (Str.ofString "InvalidName"), .str te.shown])) q = some (.tup [.str (Str.ofString "InvalidName"), .str te.shown]) := upd_same
        generalize upd H3 q (.tup [.str (Str.ofString "InvalidName"), .str te.shown]) = H4 at *
        have x4 : LamX.ExtN H2 H4 := ext_same (s3.trans sq)
        refine ⟨tabs_same T2 (s3.trans sq), fun H5 x5 T5 => ?_⟩
        have x25 := x4.trans x5
        refine ⟨_, rfl, _, rfl, _, rfl, b, d, tv, .ref mx, te, ws, m, rfl, hD2.ext x25, (htv2.ext x25).dq gt.n, gt.t, fun _ H6 dx s6 hdx => ?_, fun z => absurd (hn.symm.trans z) (by decide)⟩
        refine ⟨c 5, 5, dx, tv, te, rfl, EF5, rfl, (by rw [fld5]; exact hdx), ((htv2.ext x25).mono s6).dq gt.n, gt.s, gt.p, gt.l, fun H7 t s7 ht7 => ?_⟩
        have s57 := s6.trans s7
        refine ⟨_, rfl, erD (wordF 5) te.shown, erD (wordF 5) te.shown, er_dp ht7, er_dp (by rw [wd5]; exact s57 _ _ (ext_tup x5 hq)), er_sh ok_w5 gt.u, er_sh ok_w5 gt.u, _, rfl, ite2 (fun z => absurd z (er_not _ _)) (fun _ => ?_)⟩
        have x45 : LamX.ExtN H4 H7 := x5.trans (ext_same s57)
        replace T5 := tabs_same T5 s57
        refine ⟨T5, fun H8 x6 T6 => ?_⟩
        have x46 := x45.trans x6
        have x26 := x4.trans x46
        refine ⟨_, rfl, _, rfl, _, rfl, b, d, tv, ov, te, ws, m, rfl, hD2.ext x26, (htv2.ext x26).dq gt.n, gt.t, fun _ H9 dx s7 hdx => ?_, fun z => absurd (hn.symm.trans z) (by decide)⟩
        refine ⟨c 5, 5, dx, tv, te, rfl, EF5, rfl, (by rw [fld5]; exact hdx), ((htv2.ext x26).mono s7).dq gt.n, gt.s, gt.p, gt.l, fun Ha t s8 ht8 => ?_⟩
        have s68 := s7.trans s8
        exact ⟨_, rfl, erD (wordF 5) te.shown, erD (wordF 5) te.shown, er_dp ht8, er_dp (by rw [wd5]; exact s68 _ _ (ext_tup x46 hq)), er_sh ok_w5 gt.u, er_sh ok_w5 gt.u, _, rfl, ite2 (fun z => absurd z (er_not _ _)) (fun _ => ⟨_, rfl, x26.trans (ext_same s68), tabs_same T6 s68⟩)⟩
      | true =>
        refine ⟨true, rfl, iteF ?_⟩
        refine ⟨tabs_same T2 s3, fun H5 x5 T5 => ?_⟩
        have x25 := (ext_same s3).trans x5
        refine ⟨_, rfl, _, rfl, _, rfl, b, d, tv, ov, te, ws, m, rfl, hD2.ext x25, (htv2.ext x25).dq gt.n, gt.t, fun z => absurd (hn.symm.trans z) (by decide), fun _ => ⟨oe, (hov2.ext x25).dq go.n, fun H6 dx s6 hdx => ?_⟩⟩
        refine ⟨c 0, 0, dx, ov, oe, rfl, EF0, rfl, (by rw [fld0]; exact hdx), ((hov2.ext x25).mono s6).dq go.n, go.s, go.p, go.l, fun H7 t s7 ht7 => ?_⟩
        have s57 := s6.trans s7
        refine ⟨_, rfl, ov, oe, rfl, ((hov2.ext x25).mono s57).dq go.n, go.s, go.p, go.l, (by show 2 ≤ sizeLine; decide), fun q nq => ?_⟩
        have sq := same_upd (o := .tup [.str (Str.ofString "NotAPattern"), .str oe.shown]) nq
        have hq : (upd H7 q (.tup [.str (Str.ofString "NotAPattern"), .str oe.shown])) q = some (.tup [.str (Str.ofString "NotAPattern"), .str oe.shown]) := upd_same
        generalize upd H7 q (.tup [.str (Str.ofString "NotAPattern"), .str oe.shown]) = H8 at *
        exact ⟨erD (wordF 0) oe.shown, erD (wordF 0) oe.shown, er_dp (sq _ _ ht7), er_dp (by rw [wd0]; exact hq), er_sh ok_w0 go.u, er_sh ok_w0 go.u, _, rfl, ite2 (fun z => absurd z (er_not _ _)) (fun _ => ⟨_, rfl, x25.trans (ext_same (s57.trans sq)), tabs_same T5 (s57.trans sq)⟩)⟩
    rintro σ3 H3 ⟨due, rfl, x3, T3⟩
    -- whether it is known
    have htv3 := htv2.ext x3
    have hD3 := hD2.ext x3
    have hK3 := hK2.ext x3
    refine ⟨fun σ' H' => σ' = [some (.ref b), some (.ref kd), some (.ref cu), some tv, some (.ref mx), some ov, due, some (.bl (hasG ws te))] ∧ H' = H3, ?_, ?_⟩
    · refine ⟨_, rfl, _, _, _, _, isStrD te, rfl, .ty _, ty_dq (htv3.dq gt.n), kit_str te, _, rfl, ?_⟩
      cases h : isStrD te with
      | false =>
        have e1 : hasG ws te = false := by cases te <;> first | rfl | exact absurd h (by simp [isStrD])
        rw [e1]
        exact iteF ⟨rfl, rfl⟩
      | true =>
        obtain ⟨x, rfl⟩ : ∃ x, te = .str x := by cases te <;> first | exact ⟨_, rfl⟩ | exact absurd h (by simp [isStrD])
        cases str_of_q (K := K) (htv3.dq gt.n)
        obtain ⟨kvs, hk1, hk2⟩ := hK3
        refine iteT ⟨_, rfl, _, rfl, kd, _, rfl, DGet.k (k := .inr x) hk1, ?_⟩
        rw [hk2.has]
        exact ⟨rfl, rfl⟩
    rintro σ4 H4 ⟨rfl, rfl⟩
    obtain ⟨db, mm, dm, tt, bf, kvs, g1, g2, g3, g4, g5⟩ := id hD3
    have Sb : Shows (.bool (hasG ws te)) := (tame_bl (b := hasG ws te)).shows (by decide) (by decide)
    refine ⟨fun σ' H' => σ' = [some (.ref b), some (.ref kd), some (.ref cu), some tv, some (.ref mx), some ov, due, some (.bl (hasG ws te))] ∧ H' = H4, ?_, ?_⟩
    · refine ⟨_, rfl, _, rfl, b, db, _, rfl, g1, b, d, tv, te, ws, m, rfl, hD3, htv3.dq gt.n, _, rfl, ?_⟩
      refine ⟨_, .bool (hasG ws te), rfl, .dp (.bl _) rfl, Sb.s, Sb.p, Sb.l, ?_⟩
      refine ⟨_, rfl, _, .bool (hasG ws te), rfl, .dp (.bl _) rfl, Sb.s, Sb.p, Sb.l, ?_⟩
      refine ⟨rfl, _, rfl, ite2 (fun e => ?_) (fun _ => ⟨rfl, rfl⟩)⟩
      rw [decide_eq_true rfl] at e
      exact absurd e (by decide)
    rintro σ5 H5 ⟨rfl, rfl⟩
    -- a known name
    refine ⟨fun σ' H' => σ' = [some (.ref b), some (.ref kd), some (.ref cu), some tv, some (.ref mx), some ov, due, some (.bl (hasG ws te))] ∧ H' = H5 ∧ hasG ws te = false, ?_, ?_⟩
    · refine ⟨_, rfl, hasG ws te, rfl, ?_⟩
      cases hh : hasG ws te with
      | false => exact iteF ⟨rfl, rfl, rfl⟩
      | true =>
        refine iteT ?_
        obtain ⟨x, rfl⟩ : ∃ x, te = .str x := by cases te <;> first | exact ⟨_, rfl⟩ | exact absurd hh (by simp [hasG])
        cases str_of_q (K := K) (htv3.dq gt.n)
        have hin : hasW ws x = true := hh
        refine ⟨_, rfl, _, rfl, b, db, _, rfl, g1, b, d, x, ws, m, rfl, hD3, hin, fun v r2 hv hp => ?_⟩
        obtain ⟨pa, rfl, hpa, rok2, r1, r8⟩ := hp
        obtain ⟨pd, pf, hpi⟩ : ∃ pd pf, H5 pa = some (.ins C pd pf) := by
          obtain ⟨dx, q, m, f, ws, f1, f2, f3, f4, h1, _⟩ := hpa
          exact ⟨_, _, h1⟩
        refine ⟨pa, pd, pf, rfl, hpi, pa, r2, rfl, hpa, fun q2 vs hq2 hvs => ?_⟩
        have Sr := (tame_row rok2 r8).shows (by decide) (by decide)
        refine ⟨_, .tuple (r2.map pcD), rfl, .dp (.tup (SqT.of hq2) (dpa_pieces hvs)) Sr.n, Sr.s, Sr.p, Sr.l, ?_⟩
        obtain ⟨kvs3, hk3, hkv3⟩ := hK3
        obtain ⟨v3, r3, e3, e4, hr3⟩ := hkv3.val hin
        obtain rfl : r3 = r2 := Option.some.inj (e4.symm.trans hv)
        obtain ⟨q3, ws3, rfl, hq3, hvs3, _⟩ := hr3
        refine ⟨_, rfl, _, rfl, kd, _, rfl, by rw [← e3]; exact DGet.k (k := .inr x) hk3, ?_⟩
        refine ⟨_, .tuple (r3.map pcD), rfl, .dp (.tup (SqT.of hq3) (dpa_pieces hvs3)) Sr.n, Sr.s, Sr.p, Sr.l, ?_⟩
        refine ⟨rfl, ?_⟩
        rw [decide_eq_true rfl]
        exact k _ x3 T3
    rintro σ6 H6 ⟨rfl, rfl, hno⟩
    -- an unknown one
    refine ⟨fun σ' H' => ∃ q, σ' = [some (.ref b), some (.ref kd), some (.ref cu), some tv, some (.ref mx), some ov, some (.ref q), some (.bl (hasG ws te))] ∧ Same H6 H' ∧ H' q = some (.tup [.str (Str.ofString "UnknownName"), .str te.shown]), ?_, ?_⟩
    · refine ⟨_, rfl, tv, te, rfl, htv3.dq gt.n, gt.s, gt.p, gt.l, (by show 2 ≤ sizeLine; decide), fun q nq => ?_⟩
      exact ⟨q, rfl, same_upd nq, upd_same⟩
    rintro σ7 H7 ⟨q, rfl, s7, hq⟩
    have T7 := tabs_same T3 s7
    have x27 := x3.trans (ext_same s7)
    refine ⟨fun σ' H' => σ' = [some (.ref b), some (.ref kd), some (.ref cu), some tv, some (.ref mx), some ov, some (.ref q), some (.bl (hasG ws te))] ∧ LamX.ExtN H7 H' ∧ LamX.Tabs TT H', ?_, ?_⟩
    · refine ⟨T7, fun H8 x8 T8 => ?_⟩
      have x28 := x27.trans x8
      obtain ⟨db', m', dm', t', bf', kvs', g1', _⟩ := id (hD2.ext x28)
      refine ⟨_, rfl, _, rfl, b, db', _, rfl, g1', b, d, tv, te, ws, m, rfl, hD2.ext x28, (htv2.ext x28).dq gt.n, hno, fun H9 dx s9 hdx => ?_⟩
      refine ⟨c 9, 9, dx, tv, te, rfl, EF9, rfl, (by rw [fld9]; exact hdx), ((htv2.ext x28).mono s9).dq gt.n, gt.s, gt.p, gt.l, fun Ha t sa hta => ?_⟩
      have s8a := s9.trans sa
      exact ⟨_, rfl, erD (wordF 9) te.shown, erD (wordF 9) te.shown, er_dp hta, er_dp (by rw [wd9]; exact s8a _ _ (ext_tup x8 hq)), er_sh ok_w9 gt.u, er_sh ok_w9 gt.u, _, rfl, ite2 (fun z => absurd z (er_not _ _)) (fun _ => ⟨rfl, x8.trans (ext_same s8a), tabs_same T8 s8a⟩)⟩
    rintro σ8 H8 ⟨rfl, x78, T8⟩
    refine ⟨T8, fun H9 x9 T9 => ?_⟩
    have x79 := x78.trans x9
    have x29 := x27.trans x79
    obtain ⟨db', m', dm', t', bf', kvs', g1', _⟩ := id (hD2.ext x29)
    refine ⟨_, rfl, b, db', _, rfl, g1', nm_pr (by decide +kernel), _, rfl, b, d, tv, te, ws, m, rfl, hD2.ext x29, (htv2.ext x29).dq gt.n, hno, fun Ha dx sa hdx => ?_⟩
    refine ⟨c 9, 9, dx, tv, te, rfl, EF9, rfl, (by rw [fld9]; exact hdx), ((htv2.ext x29).mono sa).dq gt.n, gt.s, gt.p, gt.l, fun Hb t sb htb => ?_⟩
    have s9b := sa.trans sb
    refine ⟨_, rfl, erD (wordF 9) te.shown, erD (wordF 9) te.shown, er_dp htb, er_dp (by rw [wd9]; exact s9b _ _ (ext_tup x79 hq)), er_sh ok_w9 gt.u, er_sh ok_w9 gt.u, ?_⟩
    rw [er_eqv]
    exact k _ (x29.trans (ext_same s9b)) (tabs_same T9 s9b)
end
end RL

set_option maxHeartbeats 4000000
namespace RL
open PySem L2 PySem.Spec PyProof.Rows
structure BenD (P : Program) (w : World) (K : PySem.W.Frag) (mg : Str → Option Value) (base : Heap) (C Cb Cm f : Addr) : Prop where
  m : Mk K Cb f
  fn : FnR P w K mg base CX0 3 f (spBen C Cb Cm)
theorem strG_ok {x v : Str} {K : PySem.W.Frag} (h : strG x v K = true) : ∃ t, PySem.W.nsIn K mainGlobals x = some (some (.str v t)) := by
  unfold strG at h
  split at h
  · rename_i s t e
    exact ⟨t, by rw [e, of_decide_eq_true h]⟩
  · cases h
def spLaw (K : PySem.W.Frag) (TT : List (Addr × Str)) : Sp := fun vs H Q _ => ∃ (a : Addr) (ns : List Int), vs = [.ref a] ∧ SqL K H a (ns.map V.int) ∧ ns.length ≤ 63 ∧ LamX.Tabs TT H ∧ ∀ H', Q (.bl true) H'
theorem seq_butT {K : PySem.W.Frag} {H H' : Hp} {D a : Addr} {xs : List V} (h : SqL K H a xs) (n : H D = none) (b : ButT D H H') : SqL K H' a xs := by
  rcases h with (h | ⟨o, h⟩) | h
  · exact .inl (.inl (b _ _ (ne_of_none h n) (by intro ps z; cases z) h))
  · exact .inl (.inr ⟨o, b _ _ (ne_of_none h n) (by intro ps z; cases z) h⟩)
  · exact .inr h
def spRight (TT : List (Addr × Str)) : Sp := fun vs H Q _ => ∃ c, vs = [.ref c] ∧ TapeAt c 0 H ∧ LamX.Tabs TT H ∧ ∀ H', ButT c H H' → LamX.Tabs TT H' → Q (.bl true) H'
theorem put_names {ws : Wr} {x : Str} {r : List Pc} : (putW ws x r).map (·.1) = if hasW ws x = true then ws.map (·.1) else ws.map (·.1) ++ [x] := by
  unfold putW
  split
  · rw [List.map_map]
    refine List.map_congr_left fun p _ => ?_
    show (if p.1 = x then (p.1, r) else p).1 = p.1
    split <;> rfl
  · rw [List.map_append]
    rfl
theorem has_mem {ws : Wr} {x : Str} : hasW ws x = true ↔ x ∈ ws.map (·.1) := by
  unfold hasW
  rw [List.any_eq_true, List.mem_map]
  exact ⟨fun ⟨p, h, e⟩ => ⟨p, h, of_decide_eq_true e⟩, fun ⟨p, h, e⟩ => ⟨p, h, decide_eq_true e⟩⟩
theorem put_len {ws : Wr} {x : Str} {r : List Pc} : (putW ws x r).length ≤ ws.length + 1 := by
  unfold putW
  split
  · rw [List.length_map]; omega
  · rw [List.length_append]; exact Nat.le_refl _
def GoodN (ws : Wr) : Prop := (∀ p ∈ ws, nameS p.1 = true) ∧ (ws.map (·.1)).Nodup
theorem GoodN.put {ws : Wr} {x : Str} {r : List Pc} (h : GoodN ws) (hx : nameS x = true) : GoodN (putW ws x r) := by
  have e := put_names (ws := ws) (x := x) (r := r)
  refine ⟨fun p hp => ?_, ?_⟩
  · have : p.1 ∈ (putW ws x r).map (·.1) := List.mem_map_of_mem hp
    rw [e] at this
    split at this
    · obtain ⟨q, hq, e⟩ := List.mem_map.mp this
      rw [← e]
      exact h.1 q hq
    · rcases List.mem_append.mp this with this | this
      · obtain ⟨q, hq, e⟩ := List.mem_map.mp this
        rw [← e]
        exact h.1 q hq
      · rw [List.mem_singleton.mp this]
        exact hx
  · rw [e]
    split
    · exact h.2
    · rename_i hn
      refine List.nodup_append.mpr ⟨h.2, by simp, fun a ha b hb => ?_⟩
      rw [List.mem_singleton.mp hb]
      rintro rfl
      exact hn (has_mem.mpr ha)
theorem KeptAt.but {H H' : Hp} {kd b C db : Addr} {ws : Wr} {fs : List (Str × V)} (h : KeptAt H kd ws) (hb : H b = some (.ins C db fs)) (l : fs.length ≤ 1) (s : But b H H') : KeptAt H' kd ws := by
  obtain ⟨kvs, h1, h2⟩ := h
  exact ⟨kvs, s _ _ (ne_of h1 hb (by intro z; cases z)) h1, h2.imp fun v r z => z.pres (Pres.b hb l s)⟩
theorem DeskAt.but {C Cb Cm : Addr} {H H' : Hp} {b d b2 db : Addr} {m : Addr} {ws : Wr} {n : Nat} (h : DeskAt C Cb Cm H b2 d ws n) (hb : H b = some (.ins Cb db (BF m))) (nb : b2 ≠ b) (s : But b H H') : DeskAt C Cb Cm H' b2 d ws n := by
  have p := Pres.b hb (Nat.le_refl _) s
  obtain ⟨db, m, dm, u, bf, kvs, h1, h2, h3, h4, h5⟩ := h
  exact ⟨db, m, dm, u, bf, kvs, s _ _ nb h1, p.i _ _ _ _ (by show 2 ≤ 4; decide) h2, s _ _ (ne_of h3 hb (by intro z; cases z)) h3, p.t _ _ h4, h5.imp fun v r z => z.pres p⟩
theorem DeskAt.butK {C Cb Cm : Addr} {H H' : Hp} {b d kd : Addr} {kvs0 : List (Key × V)} {ws : Wr} {n : Nat} (h : DeskAt C Cb Cm H b d ws n) (hk : H kd = some (.dK kvs0)) (nd : d ≠ kd) (s : But kd H H') : DeskAt C Cb Cm H' b d ws n := by
  have p : Pres H H' := Pres.but s fun o e => by
    rw [hk] at e
    cases e
    exact .inr (.inl ⟨_, rfl⟩)
  obtain ⟨db, m, dm, u, bf, kvs, h1, h2, h3, h4, h5⟩ := h
  exact ⟨db, m, dm, u, bf, kvs, s _ _ (ne_of h1 hk (by intro z; cases z)) h1, p.i _ _ _ _ (by show 2 ≤ 4; decide) h2, s _ _ nd h3, p.t _ _ h4, h5.imp fun v r z => z.pres p⟩
theorem TapeAt.butI {c n : Nat} {H H' : Hp} {b C db : Addr} {fs : List (Str × V)} (t : TapeAt c n H) (hb : H b = some (.ins C db fs)) (s : But b H H') : TapeAt c n H' := by
  obtain ⟨x, y, z, h, r⟩ := t
  exact ⟨x, y, z, s _ _ (ne_of h hb (by intro z; cases z)) h, r⟩
theorem TapeAt.butK {c n : Nat} {H H' : Hp} {b : Addr} {kvs : List (Key × V)} (t : TapeAt c n H) (hb : H b = some (.dK kvs)) (s : But b H H') : TapeAt c n H' := by
  obtain ⟨x, y, z, h, r⟩ := t
  exact ⟨x, y, z, s _ _ (ne_of h hb (by intro z; cases z)) h, r⟩
theorem tabs_butI {T : List (Addr × Str)} {H H' : Hp} {b : Addr} {C db : Addr} {fs : List (Str × V)} (t : LamX.Tabs T H) (hb : H b = some (.ins C db fs)) (s : But b H H') : LamX.Tabs T H' := fun p hp => by
  obtain ⟨ps, h1, h2, h3⟩ := t p hp
  refine ⟨ps, s _ _ (ne_of h1 hb (by intro z; cases z)) h1, h2, fun pos cv hcv => ?_⟩
  obtain ⟨c', e1, e2⟩ := h3 pos cv hcv
  exact ⟨c', e1, s _ _ (ne_of e2 hb (by intro z; unfold LamX.CodeO at z; cases z)) e2⟩
theorem tabs_butK {T : List (Addr × Str)} {H H' : Hp} {b : Addr} {kvs : List (Key × V)} (t : LamX.Tabs T H) (hb : H b = some (.dK kvs)) (s : But b H H') : LamX.Tabs T H' := fun p hp => by
  obtain ⟨ps, h1, h2, h3⟩ := t p hp
  refine ⟨ps, s _ _ (ne_of h1 hb (by intro z; cases z)) h1, h2, fun pos cv hcv => ?_⟩
  obtain ⟨c', e1, e2⟩ := h3 pos cv hcv
  exact ⟨c', e1, s _ _ (ne_of e2 hb (by intro z; unfold LamX.CodeO at z; cases z)) e2⟩
theorem ButT.new {c b : Addr} {H H1 H2 : Hp} (h : ButT c H H1) (nb : H b = none) (s : But b H1 H2) : ButT c H H2 := fun x o n t e => s _ _ (ne_of_none e nb) (h _ _ n t e)
section
variable {P : Program} {w : World} {K : PySem.W.Frag} {mg : Str → Option Value} {base : Heap} {tG t1 t2 t3 tLo tLe : Tok} {aO aW J C Cb Cm fB : Addr} {c : Nat → Addr}
theorem sc_law_right : FnScope ["_law_tape", "_law_desk", "_law_kept", "_law_second", "_law_many", "_law_word", "_law_row", "_law_each"] ["_law_tape"] (defScope s_law_right) := ⟨rfl, rfl, rfl, by decide +kernel, rfl, by decide +kernel, by decide +kernel⟩

theorem ok_right {f cA PA : Addr} {fd : FuncData} {TT : List (Addr × Str)} (F : FunC K "_law_right" "_law_right" s_law_right f fd cA) (T : TxK K mg tG t1 t2 t3 tLo tLe aO aW J C Cb Cm) (CG : ToldD P w K mg base c 1 (rRp K)) (X_ben : BenD P w K mg base C Cb Cm fB)
    (TBS : LamX.TabB base mg cA PA) (TMS : (PA, ("_law_right" : Str) ++ ".<locals>.<lambda>") ∈ TT) (TUS : ∀ p ∈ TT, p.1 = PA → p.2 = ("_law_right" : Str) ++ ".<locals>.<lambda>")
    (D_law_pick : Df P w K mg base 1 "_law_pick" ["_law_tape", "_law_many"] spDraw) (D_law_anyrow : Df P w K mg base 2 "_law_anyrow" ["_law_tape", "_law_longest"] spAnyRowL) (D_law_anyword : Df P w K mg base 2 "_law_anyword" ["_law_tape", "_law_known"] spAnyword) (D_law_pat : Df P w K mg base 8 "_law_pat" ["_law_row"] (spPat C)) (D_law_put : Df P w K mg base 6 "_law_put" ["_law_desk", "_law_word", "_law_made"] (spSet C Cb Cm))
    (D_law_state_right : DfG P w K mg base 5 "_law_state_right" ["_law_desk", "_law_kept", "_law_many"] (spSt C Cb Cm)) (D_law_refused_right : DfG P w K mg base 12 "_law_refused_right" ["_law_desk", "_law_kept", "_law_tape"] (spRefB C Cb Cm TT)) : FnG P w K mg base 14 f fd ["_law_tape"] (spRight TT) := by
  refine okGC F sc_law_right (fun vs H Q E h => ?_) (fun A outer s H vs Q E hg hr h => ?_)
  · obtain ⟨c, rfl, _⟩ := h
    rfl
  · obtain ⟨cu, rfl, ht, hT, k⟩ := h
    refine ⟨_, (C8.pss_cut (ps_asg (pe_tup (pa_cons (pe_makeR0 X_ben.m X_ben.fn (hr.mono (by decide)) rfl T.mgB pass0) (pa_cons pe_dnewK (pa_cons (pe_makeR0 X_ben.m X_ben.fn (hr.mono (by decide)) rfl T.mgB pass0) pa_nil)))) (pg_tup rfl (pgs_cons (pg_name (i := 1) sc_law_right.nd rfl (.inr rfl)) (pgs_cons (pg_name (i := 2) sc_law_right.nd rfl (.inl rfl)) (pgs_cons (pg_name (i := 3) sc_law_right.nd rfl (.inl rfl)) pgs_nil)))))
      (pss_cons (ps_for PassesOwn.never rfl (pi_range1 rfl T.range (pa_cons (pe_op op_add pe_int (pe_df D_law_pick (hr.mono (by decide)) (by rfl) (pa_cons (pv 0) (pa_cons pe_int pa_nil)))) pa_nil)) (pg_name (i := 4) sc_law_right.nd rfl (.inl rfl)) (C8.pss_cut (ps_asg (pe_tup (pa_cons (pe_df D_law_anyword (hr.mono (by decide)) (by rfl) (pa_cons (pv 0) (pa_cons (pe_lock (pe_lc (own := [("_law_each", 7)]) (g := gName 7) (tt := tYes) rfl sc_law_right.nd (pi_keys (pv 2)) (blkOk_by (N := ["_law_tape", "_law_desk", "_law_kept", "_law_second", "_law_many", "_law_word", "_law_row", "_law_each"]) (sc := defScope s_law_right) (by decide +kernel)) (fun _ _ _ _ _ => pg_name (i := 7) sc_law_right.nd rfl (Or.inl rfl)) (fun _ _ _ _ _ => pts_nil) (fun _ _ _ _ _ => (pe_callTy SkE.call_str_str (by rfl) T.str_ (by decide +kernel) (pa_cons (pv 7) pa_nil))))) pa_nil))) (pa_cons (pe_df D_law_anyrow (hr.mono (by decide)) (by rfl) (pa_cons (pv 0) (pa_cons pe_int pa_nil))) pa_nil))) (pg_tup rfl (pgs_cons (pg_name (i := 5) sc_law_right.nd rfl (.inr rfl)) (pgs_cons (pg_name (i := 6) sc_law_right.nd rfl (.inr rfl)) pgs_nil))))
      (C8.pss_cut (ps_if (PW.pt (pw_or (pt_not (pt_val (pe_dfG D_law_refused_right hg (hr.mono (by decide)) (by rfl) (pa_cons (pv 1) (pa_cons (pv 2) (pa_cons (pv 0) pa_nil)))))) (pw_or1 (pt_not (pt_val (pe_dfG D_law_state_right hg (hr.mono (by decide)) (by rfl) (pa_cons (pv 1) (pa_cons (pv 2) (pa_cons (pv 4) pa_nil))))))))) (pss_one (ps_ret pe_bl)) pss_nil)
      (C8.pss_cut (ps_if (pt_cmpR (op_neD hr.units) (pe_told (k := 11) CG hg (by decide) (by decide) TBS rfl TMS TUS (hr.mono (by decide)) rfl (fun A2 outer2 s2 H2 E2 f2 c2 hg2 hr2 => (pe_df D_law_put (hr2.mono (by decide)) (by rfl) (pa_cons (pv 1) (pa_cons (pv 5) (pa_cons (pe_df D_law_pat (hr2.mono (by decide)) (by rfl) (pa_cons (pv 6) pa_nil)) pa_nil)))))) (pe_tup (pa_cons pe_str (pa_cons pe_str pa_nil))) (nomark _)) (pss_one (ps_ret pe_bl)) pss_nil)
      (C8.pss_cut (ps_dput (u1_of hr.units) (pv 2) (pv 5) (pv 6) (by rfl))
      (pss_one (ps_if (pt_not (pt_val (pe_dfG D_law_state_right hg (hr.mono (by decide)) (by rfl) (pa_cons (pv 1) (pa_cons (pv 2) (pa_cons (pe_op op_add (pv 4) pe_int) pa_nil)))))) (pss_one (ps_ret pe_bl)) pss_nil)))))))
      (pss_one (ps_ret (pe_and (pe_dfG D_law_refused_right hg (hr.mono (by decide)) (by rfl) (pa_cons (pv 1) (pa_cons (pv 2) (pa_cons (pv 0) pa_nil)))) (pe_one (pe_dfG D_law_state_right hg (hr.mono (by decide)) (by rfl) (pa_cons (pv 3) (pa_cons pe_dnewK (pa_cons pe_int pa_nil)))))))))), ?_⟩
    refine ⟨fun σ' H' => ∃ b d kd b2 d2 db m, σ' = [some (.ref cu), some (.ref b), some (.ref kd), some (.ref b2), none, none, none, none] ∧ Same H H' ∧ DeskAt C Cb Cm H' b d [] 0 ∧ H' b = some (.ins Cb db (BF m)) ∧ H b = none ∧ KeptAt H' kd [] ∧ H kd = none ∧ kd ≠ d ∧ DeskAt C Cb Cm H' b2 d2 [] 0 ∧ b2 ≠ b ∧ d2 ≠ kd, ?_, ?_⟩
    · intro b db nb ndb nbd
      have sb : Same H (upd (upd H db (.own b)) b (.ins Cb db [])) := fun a o e => by
        rw [upd_ne (ne_of_none e nb), upd_ne (ne_of_none e ndb)]
        exact e
      refine ⟨b, db, rfl, upd_same, fun H1 d b1 nd hD => ⟨rfl, ?_⟩⟩
      have s1 : Same H H1 := fun a o e => b1 _ _ (ne_of_none e nb) (sb _ _ e)
      intro kd nkd
      have s2 := same_upd (o := .dK []) nkd
      have hk2 : (upd H1 kd (.dK [])) kd = some (.dK []) := upd_same
      generalize upd H1 kd (.dK []) = H2 at *
      intro b2 db2 nb2 ndb2 nbd2
      have sb2 : Same H2 (upd (upd H2 db2 (.own b2)) b2 (.ins Cb db2 [])) := fun a o e => by
        rw [upd_ne (ne_of_none e nb2), upd_ne (ne_of_none e ndb2)]
        exact e
      refine ⟨b2, db2, rfl, upd_same, fun H3 d2 b3 nd2 hD2 => ⟨rfl, ?_⟩⟩
      have s3 : Same H2 H3 := fun a o e => b3 _ _ (ne_of_none e nb2) (sb2 _ _ e)
      obtain ⟨db1, m, dm, tt, bf, kvs, g1, g2, g3, g4, g5⟩ := id hD
      have hb2 := s2 _ _ g1
      have nb12 : b2 ≠ b := (ne_of_none hb2 nb2).symm
      have s23 := s2.trans s3
      refine ⟨by show 3 ≤ sizeLine; decide, fun p np => ?_⟩
      have sp := same_upd (o := .tup [.ref b, .ref kd, .ref b2]) np
      refine ⟨p, _, rfl, SqT.of upd_same, rfl, _, _, rfl, _, _, rfl, _, _, rfl, rfl, ?_⟩
      have nk : H kd = none := by
        cases e : H kd with
        | none => rfl
        | some o => rw [s1 _ _ e] at nkd; cases nkd
      refine ⟨b, d, kd, b2, d2, db1, m, rfl, ((s1.trans s23).trans sp), (hD.same s23).same sp, sp _ _ (s23 _ _ g1), nb, ⟨[], sp _ _ (s3 _ _ hk2), trivial⟩, nk, (ne_of_none g3 nkd).symm, hD2.same sp, nb12, (ne_of_none (sb2 _ _ hk2) nd2).symm⟩
    rintro σ1 H1 ⟨b, d, kd, b2, d2, db, m, rfl, s1, hD, hb, nb, hK, nk, nkd, hD2, nb2, nd2⟩
    have t1 := ht.same s1
    refine ⟨_, rfl, cu, _, 7, rfl, t1, by decide, by decide, sm_p (by decide) (by decide), fun H2 mny b2' t2 m0 m1 => ?_⟩
    refine ⟨_, _, rfl, rfl, ?_⟩
    refine ⟨_, rfl, by omega, by omega, ?_⟩
    have hm : (1 + mny).toNat ≤ 7 := by omega
    have bT2 : ButT cu H H2 := (ButT.of s1).trans (.but b2')
    refine for_range (lo := 0) (fun i σ H' => ∃ d ws v4 v5 v6, σ = [some (.ref cu), some (.ref b), some (.ref kd), some (.ref b2), v4, v5, v6, none] ∧ ButT cu H H' ∧ TapeAt cu (1 + 57 * i) H' ∧ LamX.Tabs TT H' ∧ DeskAt C Cb Cm H' b d ws i ∧ KeptAt H' kd ws ∧ kd ≠ d ∧ DeskAt C Cb Cm H' b2 d2 [] 0 ∧ GoodN ws ∧ ws.length ≤ i) ?_ ?_ ?_
    · exact ⟨d, [], none, none, none, rfl, bT2, t2, tabs_tape (tabs_same hT s1) t1 b2', hD.butT t1 (.but b2'), hK.butT t1 (.but b2'), nkd, hD2.butT t1 (.but b2'), ⟨(fun p hp => by cases hp), List.nodup_nil⟩, Nat.le_refl _⟩
    · rintro i σ H3 hi ⟨d, ws, v4, v5, v6, rfl, bT3, t3, T3, hD3, hK3, nkd, hDs3, gn, hl⟩
      have hi7 : i < 7 := by omega
      have ei : (0 : Int) + (i : Int) = (i : Int) := Int.zero_add _
      rw [ei]
      obtain ⟨kvs, hk1, hk2⟩ := id hK3
      have xl : (ws.map (·.1)).length = ws.length := List.length_map ..
      have hW : GoodW ws := ⟨by omega, gn.1, gn.2⟩
      -- a name and a row
      refine ⟨fun σ' H' => ∃ x rv r, σ' = [some (.ref cu), some (.ref b), some (.ref kd), some (.ref b2), some (.int (i : Int)), some (.str x), some rv, none] ∧ But cu H3 H' ∧ TapeAt cu (1 + 57 * i + 37) H' ∧ nameS x = true ∧ RowT H' rv r, ?_, ?_⟩
      · refine ⟨_, rfl, ?_⟩
        refine keys_lc (j := 2) (i := 7) (kd := kd) (xs := ws.map (·.1)) rfl (by show 7 < 8; decide) hk1 hk2.keys (by omega) fun H4 D s4 nD hD4 => ?_
        refine ⟨cu, D, _, ws.map (·.1), rfl, t3.same s4, by omega, hD4, by omega, (fun y hy => by
          obtain ⟨p, hp, rfl⟩ := List.mem_map.mp hy
          exact gn.1 p hp), fun H5 x b5 t5 hx => ?_⟩
        refine ⟨_, rfl, cu, _, 8, rfl, t5, by omega, by decide, by decide, fun H6 rv rd b6 t6 hrd hrg _ => ?_⟩
        have hrow := row_at hrd.dr hrg
        refine ⟨(by show 2 ≤ sizeLine; decide), fun p np => ?_⟩
        have sp := same_upd (o := .tup [.str x, rv]) np
        refine ⟨p, _, rfl, SqT.of upd_same, rfl, _, _, rfl, _, _, rfl, rfl, ?_⟩
        exact ⟨x, rv, rowOf rd, rfl, ((But.of s4).trans (b5.trans b6)).trans (.of sp), (t6.same sp).le (by omega), hx, hrow.same sp⟩
      rintro σ4 H4 ⟨x, rv, r, rfl, b4, t4, hx, hrow⟩
      have bT4 := bT3.trans (.but b4)
      have T4 := tabs_tape T3 t3 b4
      have hD4 := hD3.butT t3 (.but b4)
      have hK4 := hK3.butT t3 (.but b4)
      have hDs4 := hDs3.butT t3 (.but b4)
      clear hD3 hK3 hDs3 bT3 T3 hk1 hk2
      -- refused, and as it should be
      refine ⟨fun σ' H' => σ' = [some (.ref cu), some (.ref b), some (.ref kd), some (.ref b2), some (.int (i : Int)), some (.str x), some rv, none] ∧ ButT cu H4 H' ∧ TapeAt cu (1 + 57 * i + 57) H' ∧ LamX.Tabs TT H', ?_, ?_⟩
      · refine ⟨_, rfl, _, rfl, _, rfl, b, d, kd, cu, ws, i, _, rfl, hD4, hK4, hW, t4, by omega, T4, fun H5 b5 t5 T5 => ?_⟩
        refine ⟨true, rfl, iteF ?_⟩
        refine ⟨_, rfl, _, rfl, _, rfl, b, d, kd, ws, i, rfl, hD4.butT t4 b5, hK4.butT t4 b5, nkd, hW, by omega, fun H6 s6 => ?_⟩
        exact ⟨true, rfl, iteF ⟨rfl, b5.trans (.of s6), (t5.same s6).le (by omega), tabs_same T5 s6⟩⟩
      rintro σ5 H5 ⟨rfl, b5, t5, T5⟩
      have bT5 := bT4.trans b5
      have hD5 := hD4.butT t4 b5
      have hK5 := hK4.butT t4 b5
      have hDs5 := hDs4.butT t4 b5
      have hrow5 := hrow.pres (Pres.butT t4 b5)
      clear hD4 hK4 hDs4 bT4 T4 b4 b5 hrow
      -- set
      refine ⟨fun σ' H' => ∃ d', σ' = [some (.ref cu), some (.ref b), some (.ref kd), some (.ref b2), some (.int (i : Int)), some (.str x), some rv, none] ∧ ButT cu H H' ∧ TapeAt cu (1 + 57 * i + 57) H' ∧ LamX.Tabs TT H' ∧ DeskAt C Cb Cm H' b d' (putW ws x r) (i + 1) ∧ KeptAt H' kd ws ∧ kd ≠ d' ∧ DeskAt C Cb Cm H' b2 d2 [] 0 ∧ RowT H' rv r, ?_, ?_⟩
      · refine ⟨T5, fun H6 x6 T6 => ?_⟩
        refine ⟨_, rfl, _, rfl, _, rfl, rv, r, rfl, hrow5.pres (Pres.ext x6), fun H7 z s7 nz hz => ?_⟩
        obtain ⟨_, _, _, _, _, rok, r1, r8⟩ := id hrow5
        have hD7 := (hD5.ext x6).same s7
        have hK7 := (hK5.ext x6).pres (.of s7) fun o e => s7 _ _ e
        have hDs7 := (hDs5.ext x6).same s7
        obtain ⟨db7, m7, dm7, tt7, bf7, kvs7, g1, g2, g3, g4, g5⟩ := id hD7
        obtain ⟨kvk, hk1, hk2⟩ := id hK7
        refine ⟨b, d, x, .ref z, r, ws, i, rfl, hD7, by omega, hx, ⟨z, rfl, hz, rok, r1, r8⟩, fun H8 d' b8 nd' hD8 => ?_⟩
        have nk' : kd ≠ d' := ne_of_none hk1 nd'
        have bT7 := bT5.trans ((ButT.ext x6).trans (.of s7))
        have bT8 := bT7.new nb b8
        have t8 := ((tape_ext t5 x6).same s7).butI g1 b8
        have T8 := tabs_butI (tabs_same T6 s7) g1 b8
        have hK8 := hK7.but g1 (Nat.le_refl _) b8
        have hDs8 := hDs7.but g1 nb2 b8
        have hrow8 := ((hrow5.pres (Pres.ext x6)).same s7).pres (Pres.b g1 (Nat.le_refl _) b8)
        refine ⟨.non, .none, rfl, .dp .non rfl, rfl, by decide, by decide +kernel, (by show 2 ≤ sizeLine; decide), fun l nl => ?_⟩
        have sl := same_upd (o := .tup [.str (Str.ofString "told"), .str (PyData.none).shown]) nl
        have hl9 : (upd H8 l (.tup [.str (Str.ofString "told"), .str (PyData.none).shown])) l = some (.tup [.str (Str.ofString "told"), .str (PyData.none).shown]) := upd_same
        generalize upd H8 l (.tup [.str (Str.ofString "told"), .str (PyData.none).shown]) = H9 at *
        refine ⟨(by show 2 ≤ sizeLine; decide), fun q nq => ?_⟩
        have sq := same_upd (o := .tup [.str (Str.ofString "told"), .str (Str.ofString "None")]) nq
        have hq : (upd H9 q (.tup [.str (Str.ofString "told"), .str (Str.ofString "None")])) q = some (.tup [.str (Str.ofString "told"), .str (Str.ofString "None")]) := upd_same
        generalize upd H9 q (.tup [.str (Str.ofString "told"), .str (Str.ofString "None")]) = Ha at *
        have s8a := sl.trans sq
        have eN : (PyData.none).shown = Str.ofString "None" := by decide +kernel
        rw [eN] at hl9
        refine ⟨erD "told" "None", erD "told" "None", er_dp (sq _ _ hl9), er_dp hq, er_sh (by decide +kernel) (by decide +kernel), er_sh (by decide +kernel) (by decide +kernel), _, rfl, ite2 (fun z => absurd z (er_not _ _)) (fun _ => ?_)⟩
        exact ⟨d', rfl, bT8.trans (.of s8a), t8.same s8a, tabs_same T8 s8a, hD8.same s8a, hK8.pres (.of s8a) (fun o e => s8a _ _ e), nk', hDs8.same s8a, hrow8.same s8a⟩
      clear hD5 hK5 hDs5 bT5 T5 hrow5 t5
      rintro σ6 H6 ⟨d', rfl, bT6, t6, T6, hD6, hK6, nkd', hDs6, hrow6⟩
      -- kept
      obtain ⟨kvk, hk1, hk2⟩ := id hK6
      refine ⟨fun σ' H' => σ' = [some (.ref cu), some (.ref b), some (.ref kd), some (.ref b2), some (.int (i : Int)), some (.str x), some rv, none] ∧ ButT cu H H' ∧ TapeAt cu (1 + 57 * i + 57) H' ∧ LamX.Tabs TT H' ∧ DeskAt C Cb Cm H' b d' (putW ws x r) (i + 1) ∧ KeptAt H' kd (putW ws x r) ∧ DeskAt C Cb Cm H' b2 d2 [] 0, ?_, ?_⟩
      · refine ⟨_, rfl, _, rfl, _, rfl, kd, _, rfl, DPut.k (k := .inr x) hk1 ?_, ?_⟩
        · rw [hk2.len]
          exact small64 (by show ws.length + 1 < 64; omega)
        have bk : But kd H6 (upd H6 kd (.dK (putK kvk (.inr x) rv))) := But.upd
        have pr : Pres H6 (upd H6 kd (.dK (putK kvk (.inr x) rv))) := Pres.but bk fun o e => by
          rw [hk1] at e
          cases e
          exact .inr (.inl ⟨_, rfl⟩)
        exact ⟨rfl, bT6.new nk bk, t6.butK hk1 bk, tabs_butK T6 hk1 bk, hD6.butK hk1 nkd'.symm bk, ⟨_, upd_same, (hk2.imp fun v r z => z.pres pr).put (hrow6.pres pr)⟩, hDs6.butK hk1 nd2 bk⟩
      clear hD6 hK6 hDs6 bT6 T6 hrow6 t6 hk1 hk2
      rintro σ7 H7 ⟨rfl, bT7, t7, T7, hD7, hK7, hDs7⟩
      have pl := put_len (ws := ws) (x := x) (r := r)
      have gn' := gn.put (r := r) hx
      refine ⟨_, rfl, _, rfl, _, rfl, _, _, rfl, rfl, ?_⟩
      refine ⟨b, d', kd, putW ws x r, i + 1, rfl, hD7, hK7, nkd', ⟨by omega, gn'.1, gn'.2⟩, by omega, fun H8 s8 => ?_⟩
      refine ⟨true, rfl, iteF ?_⟩
      exact ⟨d', _, _, _, _, rfl, bT7.trans (.of s8), (t7.same s8).le (by omega), tabs_same T7 s8, hD7.same s8, hK7.pres (.of s8) (fun o e => s8 _ _ e), nkd', hDs7.same s8, gn', by omega⟩
    · rintro σ H3 ⟨d, ws, v4, v5, v6, rfl, bT3, t3, T3, hD3, hK3, nkd, hDs3, gn, hl⟩
      have hW : GoodW ws := ⟨by omega, gn.1, gn.2⟩
      refine ⟨_, rfl, _, rfl, _, rfl, b, d, kd, cu, ws, _, _, rfl, hD3, hK3, hW, t3, by omega, T3, fun H5 b5 t5 T5 => ?_⟩
      refine ⟨true, rfl, iteT ?_⟩
      refine ⟨_, rfl, fun q nq => ?_⟩
      have sq := same_upd (o := .dK []) nq
      have hDs5 := (hDs3.butT t3 b5).same sq
      obtain ⟨_, _, _, _, _, _, _, _, g3, _⟩ := id (hDs3.butT t3 b5)
      exact ⟨b2, d2, q, [], 0, rfl, hDs5, ⟨[], upd_same, trivial⟩, (ne_of_none g3 nq).symm, ⟨Nat.zero_le _, (fun p hp => by cases hp), List.nodup_nil⟩, Nat.zero_le _, fun H6 s6 => k _ (bT3.trans (b5.trans (.of (sq.trans s6)))) (tabs_same T5 (sq.trans s6))⟩
theorem sc_law : FnScope ["_law_script", "_law_place"] ["_law_script"] (defScope s_law) := ⟨rfl, rfl, rfl, by decide +kernel, rfl, by decide +kernel, by decide +kernel⟩

theorem ok_law {f cL : Addr} {fd : FuncData} {TT : List (Addr × Str)} (F : FunC K "law" "law" s_law f fd cL) (T : TxK K mg tG t1 t2 t3 tLo tLe aO aW J C Cb Cm) (D_law_cell : Df P w K mg base 1 "_law_cell" ["_law_script", "_law_place"] (spCell K)) (D_law_src : Df P w K mg base 1 "_law_src" ["_law_number"] spSrc) (D_law_right : DfG P w K mg base 14 "_law_right" ["_law_tape"] (spRight TT)) : FnG P w K mg base 15 f fd ["_law_script"] (spLaw K TT) := by
  refine okGC F sc_law (fun vs H Q E h => ?_) (fun A outer s H vs Q E hg hr h => ?_)
  · obtain ⟨a, ns, rfl, _⟩ := h
    rfl
  · obtain ⟨a, ns, rfl, hSg, hlen, hT, k⟩ := h
    refine ⟨_, (pss_one (ps_ret (pe_callB (cr_all rfl) (by rfl) T.all (by decide +kernel) (pa_cons (pe_lc (own := [("_law_place", 1)]) (g := gName 1) (tt := tYes) rfl sc_law.nd (pi_range1 rfl T.range (pa_cons (pe_callB (call_max2 rfl) (by rfl) T.max (by decide +kernel) (pa_cons pe_int (pa_cons (pe_callB (call_min2 rfl) (by rfl) T.min (by decide +kernel) (pa_cons (pe_callB call_len_seq (by rfl) T.len (by decide +kernel) (pa_cons (pv 0) pa_nil)) (pa_cons pe_int pa_nil))) pa_nil))) pa_nil)) (blkOk_by (N := ["_law_script", "_law_place"]) (sc := defScope s_law) (by decide +kernel)) (fun _ _ _ _ _ => pg_name (i := 1) sc_law.nd rfl (Or.inl rfl)) (fun _ _ _ _ _ => pts_nil) (fun _ _ _ _ _ => (pe_dfG D_law_right hg (hr.mono (by decide)) (by rfl) (pa_cons (pe_df D_law_src (hr.mono (by decide)) (by rfl) (pa_cons (pe_df D_law_cell (hr.mono (by decide)) (by rfl) (pa_cons (pv 0) (pa_cons (pv 1) pa_nil))) pa_nil)) pa_nil)))) pa_nil)))), ?_⟩
    refine ⟨_, rfl, a, _, rfl, .inl hSg, _, _, rfl, _, _, rfl, _, rfl, ?_, ?_, fun D hD => ?_⟩
    · split <;> split <;> omega
    · have : (List.map V.int ns).length = ns.length := List.length_map ..
      split <;> split <;> omega
    · refine lc_range (lo := 0) (fun i H' => ButT D H H' ∧ LamX.Tabs TT H' ∧ H' D = some (.lst (List.replicate i (.bl true)))) ⟨.but But.upd, tabs_same hT (same_upd hD), upd_same⟩ ?_ ?_
      · rintro i H1' hi ⟨bD, tD, hDi⟩
        have hi63 : i ≤ 100 := by
          have : (List.map V.int ns).length = ns.length := List.length_map ..
          split at hi <;> split at hi <;> omega
        refine ⟨rfl, ?_⟩
        unfold tYes
        refine iteT ?_
        refine ⟨_, rfl, _, rfl, a, ns, i, ?_, seq_butT hSg hD bD, hi63, hlen, fun H2' j s2 => ?_⟩
        · show [V.ref a, V.int (0 + (i : Int))] = _
          rw [Int.zero_add]
        refine ⟨j, rfl, fun H3' c s3 nc hc => ?_⟩
        have s23 := s2.trans s3
        have hD3 := s23 _ _ hDi
        have nDc : D ≠ c := ne_of_none (s2 _ _ hDi) nc
        refine ⟨c, rfl, hc, tabs_same tD s23, fun H4' b4 t4 => ?_⟩
        have hD4 := b4 D _ nDc (by intro ps z; cases z) hD3
        refine ⟨_, hD4, ?_, ?_, tabs_upd t4 hD4, ?_⟩
        · rw [List.length_replicate]
          exact small1000 (by omega)
        · intro y o ny nt e
          rw [upd_ne ny]
          have hy1 := s2 _ _ (bD _ _ ny nt e)
          exact b4 _ _ (ne_of_none hy1 nc) nt (s3 _ _ hy1)
        · rw [upd_same, List.replicate_succ']
      · rintro H1' ⟨bD, _, hDn⟩
        refine ⟨D, List.replicate _ true, rfl, SqL.of (by rw [List.map_replicate]; exact hDn), ?_⟩
        rw [all_true']
        exact k _
end
end RL


namespace RL
open PySem L2
set_option maxHeartbeats 4000000 in
theorem all_mk {l : PySem.W.OpenLaw} {w : World} {K : PySem.W.Frag} {h : Heap} {mg : Str → Option Value} (X : K.In h) (G : h.Ns mainGlobals mg) {fa aO aW Cm Cb f_is_integer f_is_integer_within f_is_piece f_pair_of f_common_divisor f_lowest_terms f_matrix_and_scale J C f_checked_row f_lowest_pair f_piece_text f_piece_with_text f_JoinedRow_init f_Pattern_init f_Pattern_read pr_Pattern_read f_Pattern_pieces pr_Pattern_pieces f_check_pattern f_is_name X0 X1 X2 X3 X4 X5 X6 X7 X8 X9 X10 X11 X12 X13 X14 X15 X16 X17 f_WrongValue_init f_WrongName_init f_NotAPattern_init f_InvalidName_init f_UnknownName_init f_law_error f_law_told f_Moment_init f_Bench_init f_Bench_contains f_Bench_len f_Bench_names pr_Bench_names f_Bench_claims pr_Bench_claims f_Bench_changes pr_Bench_changes f_Bench_change f_Bench_setitem f_Bench_getitem f_Bench_drop f_law_cell f_law_src f_law_pick f_law_anyrow f_law_text f_law_pat f_law_is_name f_law_anyword f_law_anything f_law_put f_law_state_right f_law_refused_right cA_law_refused_right PA_law_refused_right f_law_right cA_law_right PA_law_right f_law cA_law PA_law : Addr}
    {od_is_integer an_is_integer od_is_integer_within an_is_integer_within od_is_piece an_is_piece od_pair_of an_pair_of od_common_divisor an_common_divisor od_lowest_terms an_lowest_terms od_matrix_and_scale an_matrix_and_scale od_checked_row an_checked_row od_lowest_pair an_lowest_pair od_piece_text an_piece_text od_piece_with_text an_piece_with_text od_JoinedRow_init an_JoinedRow_init od_Pattern_init an_Pattern_init od_Pattern_read an_Pattern_read od_Pattern_pieces an_Pattern_pieces od_check_pattern an_check_pattern od_is_name an_is_name od_WrongValue_init an_WrongValue_init od_WrongName_init an_WrongName_init od_NotAPattern_init an_NotAPattern_init od_InvalidName_init an_InvalidName_init od_UnknownName_init an_UnknownName_init od_law_error an_law_error od_law_told an_law_told od_Moment_init an_Moment_init od_Bench_init an_Bench_init od_Bench_contains an_Bench_contains od_Bench_len an_Bench_len od_Bench_names an_Bench_names od_Bench_claims an_Bench_claims od_Bench_changes an_Bench_changes od_Bench_change an_Bench_change od_Bench_setitem an_Bench_setitem od_Bench_getitem an_Bench_getitem od_Bench_drop an_Bench_drop od_law_cell an_law_cell od_law_src an_law_src od_law_pick an_law_pick od_law_anyrow an_law_anyrow od_law_text an_law_text od_law_pat an_law_pat od_law_is_name an_law_is_name od_law_anyword an_law_anyword od_law_anything an_law_anything od_law_put an_law_put od_law_state_right an_law_state_right od_law_refused_right an_law_refused_right od_law_right an_law_right od_law an_law : Option Addr} {sl_is_integer sl_is_integer_within sl_is_piece sl_pair_of sl_common_divisor sl_lowest_terms sl_matrix_and_scale sl_checked_row sl_lowest_pair sl_piece_text sl_piece_with_text sl_JoinedRow_init sl_Pattern_init sl_Pattern_read sl_Pattern_pieces sl_check_pattern sl_is_name sl_WrongValue_init sl_WrongName_init sl_NotAPattern_init sl_InvalidName_init sl_UnknownName_init sl_law_error sl_law_told sl_Moment_init sl_Bench_init sl_Bench_contains sl_Bench_len sl_Bench_names sl_Bench_claims sl_Bench_changes sl_Bench_change sl_Bench_setitem sl_Bench_getitem sl_Bench_drop sl_law_cell sl_law_src sl_law_pick sl_law_anyrow sl_law_text sl_law_pat sl_law_is_name sl_law_anyword sl_law_anything sl_law_put sl_law_state_right sl_law_refused_right sl_law_right sl_law : Array (Option Value)}
    {oc_is_integer kV_is_integer dc_is_integer pm_is_integer cd_is_integer ct_is_integer oc_is_integer_within kV_is_integer_within dc_is_integer_within pm_is_integer_within cd_is_integer_within ct_is_integer_within oc_is_piece kV_is_piece dc_is_piece pm_is_piece cd_is_piece ct_is_piece oc_pair_of kV_pair_of dc_pair_of pm_pair_of cd_pair_of ct_pair_of oc_common_divisor kV_common_divisor dc_common_divisor pm_common_divisor cd_common_divisor ct_common_divisor oc_lowest_terms kV_lowest_terms dc_lowest_terms pm_lowest_terms cd_lowest_terms ct_lowest_terms oc_matrix_and_scale kV_matrix_and_scale dc_matrix_and_scale pm_matrix_and_scale cd_matrix_and_scale ct_matrix_and_scale oc_checked_row kV_checked_row dc_checked_row pm_checked_row cd_checked_row ct_checked_row oc_lowest_pair kV_lowest_pair dc_lowest_pair pm_lowest_pair cd_lowest_pair ct_lowest_pair oc_piece_text kV_piece_text dc_piece_text pm_piece_text cd_piece_text ct_piece_text oc_piece_with_text kV_piece_with_text dc_piece_with_text pm_piece_with_text cd_piece_with_text ct_piece_with_text oc_JoinedRow_init kV_JoinedRow_init dc_JoinedRow_init pm_JoinedRow_init cd_JoinedRow_init ct_JoinedRow_init oc_Pattern_init kV_Pattern_init dc_Pattern_init pm_Pattern_init cd_Pattern_init ct_Pattern_init oc_Pattern_read kV_Pattern_read dc_Pattern_read pm_Pattern_read cd_Pattern_read ct_Pattern_read oc_Pattern_pieces kV_Pattern_pieces dc_Pattern_pieces pm_Pattern_pieces cd_Pattern_pieces ct_Pattern_pieces oc_check_pattern kV_check_pattern dc_check_pattern pm_check_pattern cd_check_pattern ct_check_pattern oc_is_name kV_is_name dc_is_name pm_is_name cd_is_name ct_is_name oc_WrongValue_init kV_WrongValue_init dc_WrongValue_init pm_WrongValue_init cd_WrongValue_init ct_WrongValue_init oc_WrongName_init kV_WrongName_init dc_WrongName_init pm_WrongName_init cd_WrongName_init ct_WrongName_init oc_NotAPattern_init kV_NotAPattern_init dc_NotAPattern_init pm_NotAPattern_init cd_NotAPattern_init ct_NotAPattern_init oc_InvalidName_init kV_InvalidName_init dc_InvalidName_init pm_InvalidName_init cd_InvalidName_init ct_InvalidName_init oc_UnknownName_init kV_UnknownName_init dc_UnknownName_init pm_UnknownName_init cd_UnknownName_init ct_UnknownName_init oc_law_error kV_law_error dc_law_error pm_law_error cd_law_error ct_law_error oc_law_told kV_law_told dc_law_told pm_law_told cd_law_told ct_law_told oc_Moment_init kV_Moment_init dc_Moment_init pm_Moment_init cd_Moment_init ct_Moment_init oc_Bench_init kV_Bench_init dc_Bench_init pm_Bench_init cd_Bench_init ct_Bench_init oc_Bench_contains kV_Bench_contains dc_Bench_contains pm_Bench_contains cd_Bench_contains ct_Bench_contains oc_Bench_len kV_Bench_len dc_Bench_len pm_Bench_len cd_Bench_len ct_Bench_len oc_Bench_names kV_Bench_names dc_Bench_names pm_Bench_names cd_Bench_names ct_Bench_names oc_Bench_claims kV_Bench_claims dc_Bench_claims pm_Bench_claims cd_Bench_claims ct_Bench_claims oc_Bench_changes kV_Bench_changes dc_Bench_changes pm_Bench_changes cd_Bench_changes ct_Bench_changes oc_Bench_change kV_Bench_change dc_Bench_change pm_Bench_change cd_Bench_change ct_Bench_change oc_Bench_setitem kV_Bench_setitem dc_Bench_setitem pm_Bench_setitem cd_Bench_setitem ct_Bench_setitem oc_Bench_getitem kV_Bench_getitem dc_Bench_getitem pm_Bench_getitem cd_Bench_getitem ct_Bench_getitem oc_Bench_drop kV_Bench_drop dc_Bench_drop pm_Bench_drop cd_Bench_drop ct_Bench_drop oc_law_cell kV_law_cell dc_law_cell pm_law_cell cd_law_cell ct_law_cell oc_law_src kV_law_src dc_law_src pm_law_src cd_law_src ct_law_src oc_law_pick kV_law_pick dc_law_pick pm_law_pick cd_law_pick ct_law_pick oc_law_anyrow kV_law_anyrow dc_law_anyrow pm_law_anyrow cd_law_anyrow ct_law_anyrow oc_law_text kV_law_text dc_law_text pm_law_text cd_law_text ct_law_text oc_law_pat kV_law_pat dc_law_pat pm_law_pat cd_law_pat ct_law_pat oc_law_is_name kV_law_is_name dc_law_is_name pm_law_is_name cd_law_is_name ct_law_is_name oc_law_anyword kV_law_anyword dc_law_anyword pm_law_anyword cd_law_anyword ct_law_anyword oc_law_anything kV_law_anything dc_law_anything pm_law_anything cd_law_anything ct_law_anything oc_law_put kV_law_put dc_law_put pm_law_put cd_law_put ct_law_put oc_law_state_right kV_law_state_right dc_law_state_right pm_law_state_right cd_law_state_right ct_law_state_right oc_law_refused_right kV_law_refused_right dc_law_refused_right pm_law_refused_right cd_law_refused_right ct_law_refused_right oc_law_right kV_law_right dc_law_right pm_law_right cd_law_right ct_law_right oc_law kV_law dc_law pm_law cd_law ct_law : Value} {tG : Tok} {t1 : Tok} {t3 : Tok} {aO_k0 aO_k1 : Tok} {od_aO : Option Addr} {nn_aO : Nat} {sl_aO : Array (Option Value)} {aW_k0 aW_k1 : Tok} {od_aW : Option Addr} {nn_aW : Nat} {sl_aW : Array (Option Value)} {tLo : Tok} {tLe : Tok} {t2 : Tok} {rest_Pattern_read : List Value} {rest_Pattern_pieces : List Value} {rest_Bench_names : List Value} {rest_Bench_claims : List Value} {rest_Bench_changes : List Value} {dC_law_refused_right : Option Addr} {vC_law_refused_right : Array Value} {sC_law_refused_right : Array (Option Value)} {dC_law_right : Option Addr} {vC_law_right : Array Value} {sC_law_right : Array (Option Value)} {dC_law : Option Addr} {vC_law : Array Value} {sC_law : Array (Option Value)} (hfa : mg "law" = some (.ref fa))
    (aG : PySem.W.nsIn K mainGlobals "GREATEST" = some (some (.int 1000000000000 tG)))
    (aOh : PySem.W.nsIn K mainGlobals "MOST_OHMS" = some (some (.int 12 t1)))
    (aJo : PySem.W.nsIn K mainGlobals "MOST_JOINED" = some (some (.int 8 t3)))
    (aOp : PySem.W.nsIn K mainGlobals "OPEN" = some (some (.ref aO)))
    (laOp : K.lookup aO = some ⟨.type "tuple", od_aO, .seq #[.int 1 aO_k0, .int 0 aO_k1] nn_aO, sl_aO⟩)
    (aWo : PySem.W.nsIn K mainGlobals "WORDS" = some (some (.ref aW)))
    (laWo : K.lookup aW = some ⟨.type "tuple", od_aW, .seq #[.str (Str.ofString "rail") aW_k0, .str (Str.ofString "rung") aW_k1] nn_aW, sl_aW⟩)
    (aLo : PySem.W.nsIn K mainGlobals "LONGEST_NAME" = some (some (.int 8 tLo)))
    (aLe : PySem.W.nsIn K mainGlobals "LETTERS" = some (some (.str lettersS tLe)))
    (z_len : PySem.W.nsIn K mainGlobals "len" = some none)
    (z_abs : PySem.W.nsIn K mainGlobals "abs" = some none)
    (z_int : PySem.W.nsIn K mainGlobals "int" = some none)
    (z_bool : PySem.W.nsIn K mainGlobals "bool" = some none)
    (z_tuple : PySem.W.nsIn K mainGlobals "tuple" = some none)
    (z_isinstance : PySem.W.nsIn K mainGlobals "isinstance" = some none)
    (z_divmod : PySem.W.nsIn K mainGlobals "divmod" = some none)
    (z_max : PySem.W.nsIn K mainGlobals "max" = some none)
    (z_min : PySem.W.nsIn K mainGlobals "min" = some none)
    (z_range : PySem.W.nsIn K mainGlobals "range" = some none)
    (z_all : PySem.W.nsIn K mainGlobals "all" = some none)
    (z_repr : PySem.W.nsIn K mainGlobals "repr" = some none)
    (z_str : PySem.W.nsIn K mainGlobals "str" = some none)
    (z_enumerate : PySem.W.nsIn K mainGlobals "enumerate" = some none)
    (z_list : PySem.W.nsIn K mainGlobals "list" = some none)
    (z_sorted : PySem.W.nsIn K mainGlobals "sorted" = some none)
    (z_dict : PySem.W.nsIn K mainGlobals "dict" = some none)
    (aCm : PySem.W.nsIn K mainGlobals "Moment" = some (some (.ref Cm)))
    (pgCm : PySem.W.plainGet K Cm Str.empty = true)
    (hdCm : PySem.W.hasDictIn K Cm = true)
    (poCm : PySem.W.plainOver K Cm = true)
    (saCm : PySem.W.findIn K (.ref Cm) "__setattr__" = some (some (.builtin "object.__setattr__")))
    (mkCm : PySem.W.makesIn K Cm = true)
    (kcCm : PySem.W.keepIn K (.ref Cm) = true)
    (nCm_stored : PySem.W.findIn K (.ref Cm) "stored" = some none)
    (nCm_stated : PySem.W.findIn K (.ref Cm) "stated" = some none)
    (nCm_before : PySem.W.findIn K (.ref Cm) "before" = some none)
    (nCm_depth : PySem.W.findIn K (.ref Cm) "depth" = some none)
    (aCb : PySem.W.nsIn K mainGlobals "Bench" = some (some (.ref Cb)))
    (pgCb : PySem.W.plainGet K Cb Str.empty = true)
    (hdCb : PySem.W.hasDictIn K Cb = true)
    (poCb : PySem.W.plainOver K Cb = true)
    (saCb : PySem.W.findIn K (.ref Cb) "__setattr__" = some (some (.builtin "object.__setattr__")))
    (mkCb : PySem.W.makesIn K Cb = true)
    (kcCb : PySem.W.keepIn K (.ref Cb) = true)
    (nCb_present : PySem.W.findIn K (.ref Cb) "present" = some none)
    (ns_Cb : PySem.W.noSeq K Cb = true)
    (nb_Cb : PySem.W.findIn K (.ref Cb) "__bool__" = some none)
    (a_is_integer : PySem.W.nsIn K mainGlobals "is_integer" = some (some (.ref f_is_integer)))
    (l_is_integer : K.lookup f_is_integer = some ⟨oc_is_integer, od_is_integer, .func (PySem.W.fnOf "is_integer" "is_integer" (defArgs s_is_integer) (defBody s_is_integer) (defScope s_is_integer) .none kV_is_integer dc_is_integer pm_is_integer an_is_integer cd_is_integer ct_is_integer), sl_is_integer⟩)
    (c_is_integer : PySem.W.codeIn K cd_is_integer "is_integer" = true)
    (k_is_integer : PySem.W.keepIn K (.ref f_is_integer) = true)
    (a_is_integer_within : PySem.W.nsIn K mainGlobals "is_integer_within" = some (some (.ref f_is_integer_within)))
    (l_is_integer_within : K.lookup f_is_integer_within = some ⟨oc_is_integer_within, od_is_integer_within, .func (PySem.W.fnOf "is_integer_within" "is_integer_within" (defArgs s_is_integer_within) (defBody s_is_integer_within) (defScope s_is_integer_within) .none kV_is_integer_within dc_is_integer_within pm_is_integer_within an_is_integer_within cd_is_integer_within ct_is_integer_within), sl_is_integer_within⟩)
    (c_is_integer_within : PySem.W.codeIn K cd_is_integer_within "is_integer_within" = true)
    (k_is_integer_within : PySem.W.keepIn K (.ref f_is_integer_within) = true)
    (a_is_piece : PySem.W.nsIn K mainGlobals "is_piece" = some (some (.ref f_is_piece)))
    (l_is_piece : K.lookup f_is_piece = some ⟨oc_is_piece, od_is_piece, .func (PySem.W.fnOf "is_piece" "is_piece" (defArgs s_is_piece) (defBody s_is_piece) (defScope s_is_piece) .none kV_is_piece dc_is_piece pm_is_piece an_is_piece cd_is_piece ct_is_piece), sl_is_piece⟩)
    (c_is_piece : PySem.W.codeIn K cd_is_piece "is_piece" = true)
    (k_is_piece : PySem.W.keepIn K (.ref f_is_piece) = true)
    (a_pair_of : PySem.W.nsIn K mainGlobals "pair_of" = some (some (.ref f_pair_of)))
    (l_pair_of : K.lookup f_pair_of = some ⟨oc_pair_of, od_pair_of, .func (PySem.W.fnOf "pair_of" "pair_of" (defArgs s_pair_of) (defBody s_pair_of) (defScope s_pair_of) .none kV_pair_of dc_pair_of pm_pair_of an_pair_of cd_pair_of ct_pair_of), sl_pair_of⟩)
    (c_pair_of : PySem.W.codeIn K cd_pair_of "pair_of" = true)
    (k_pair_of : PySem.W.keepIn K (.ref f_pair_of) = true)
    (a_common_divisor : PySem.W.nsIn K mainGlobals "common_divisor" = some (some (.ref f_common_divisor)))
    (l_common_divisor : K.lookup f_common_divisor = some ⟨oc_common_divisor, od_common_divisor, .func (PySem.W.fnOf "common_divisor" "common_divisor" (defArgs s_common_divisor) (defBody s_common_divisor) (defScope s_common_divisor) .none kV_common_divisor dc_common_divisor pm_common_divisor an_common_divisor cd_common_divisor ct_common_divisor), sl_common_divisor⟩)
    (c_common_divisor : PySem.W.codeIn K cd_common_divisor "common_divisor" = true)
    (k_common_divisor : PySem.W.keepIn K (.ref f_common_divisor) = true)
    (a_lowest_terms : PySem.W.nsIn K mainGlobals "lowest_terms" = some (some (.ref f_lowest_terms)))
    (l_lowest_terms : K.lookup f_lowest_terms = some ⟨oc_lowest_terms, od_lowest_terms, .func (PySem.W.fnOf "lowest_terms" "lowest_terms" (defArgs s_lowest_terms) (defBody s_lowest_terms) (defScope s_lowest_terms) .none kV_lowest_terms dc_lowest_terms pm_lowest_terms an_lowest_terms cd_lowest_terms ct_lowest_terms), sl_lowest_terms⟩)
    (c_lowest_terms : PySem.W.codeIn K cd_lowest_terms "lowest_terms" = true)
    (k_lowest_terms : PySem.W.keepIn K (.ref f_lowest_terms) = true)
    (a_matrix_and_scale : PySem.W.nsIn K mainGlobals "matrix_and_scale" = some (some (.ref f_matrix_and_scale)))
    (l_matrix_and_scale : K.lookup f_matrix_and_scale = some ⟨oc_matrix_and_scale, od_matrix_and_scale, .func (PySem.W.fnOf "matrix_and_scale" "matrix_and_scale" (defArgs s_matrix_and_scale) (defBody s_matrix_and_scale) (defScope s_matrix_and_scale) .none kV_matrix_and_scale dc_matrix_and_scale pm_matrix_and_scale an_matrix_and_scale cd_matrix_and_scale ct_matrix_and_scale), sl_matrix_and_scale⟩)
    (c_matrix_and_scale : PySem.W.codeIn K cd_matrix_and_scale "matrix_and_scale" = true)
    (k_matrix_and_scale : PySem.W.keepIn K (.ref f_matrix_and_scale) = true)
    (aPi : PySem.W.nsIn K mainGlobals "MOST_PIECES" = some (some (.int 4 t2)))
    (aJ : PySem.W.nsIn K mainGlobals "JoinedRow" = some (some (.ref J)))
    (pgJ : PySem.W.plainGet K J Str.empty = true)
    (hdJ : PySem.W.hasDictIn K J = true)
    (poJ : PySem.W.plainOver K J = true)
    (saJ : PySem.W.findIn K (.ref J) "__setattr__" = some (some (.builtin "object.__setattr__")))
    (mkJ : PySem.W.makesIn K J = true)
    (kcJ : PySem.W.keepIn K (.ref J) = true)
    (nJ_row : PySem.W.findIn K (.ref J) "row" = some none)
    (caJ : PySem.W.findIn K (.ref J) "__class__" = some (some (.builtin "object.__class__")))
    (cmJ : PySem.W.mroIn K J (.type "object") = some true)
    (cn : PySem.W.specialIn K (.builtin "object.__class__") "__get__" = some (some (.builtin "getset_descriptor.__get__")))
    (ct : PySem.W.takesIn K (.builtin "object.__class__") = some true)
    (aC : PySem.W.nsIn K mainGlobals "Pattern" = some (some (.ref C)))
    (pgC : PySem.W.plainGet K C Str.empty = true)
    (hdC : PySem.W.hasDictIn K C = true)
    (poC : PySem.W.plainOver K C = true)
    (saC : PySem.W.findIn K (.ref C) "__setattr__" = some (some (.builtin "object.__setattr__")))
    (mkC : PySem.W.makesIn K C = true)
    (kcC : PySem.W.keepIn K (.ref C) = true)
    (nC_row : PySem.W.findIn K (.ref C) "row" = some none)
    (nC_matrix : PySem.W.findIn K (.ref C) "matrix" = some none)
    (nC_scale : PySem.W.findIn K (.ref C) "scale" = some none)
    (nC_four : PySem.W.findIn K (.ref C) "four" = some none)
    (caC : PySem.W.findIn K (.ref C) "__class__" = some (some (.builtin "object.__class__")))
    (cmC : PySem.W.mroIn K C (.type "object") = some true)
    (kt_J : PySem.W.kitOne K (.type "tuple") (.ref J) = some false)
    (rdC : PySem.W.readsIn K C (.type "type") = true)
    (gaC : PySem.W.specialIn K (.ref C) "__getattribute__" = some (some (.builtin "type.__getattribute__")))
    (a_checked_row : PySem.W.nsIn K mainGlobals "checked_row" = some (some (.ref f_checked_row)))
    (l_checked_row : K.lookup f_checked_row = some ⟨oc_checked_row, od_checked_row, .func (PySem.W.fnOf "checked_row" "checked_row" (defArgs s_checked_row) (defBody s_checked_row) (defScope s_checked_row) .none kV_checked_row dc_checked_row pm_checked_row an_checked_row cd_checked_row ct_checked_row), sl_checked_row⟩)
    (c_checked_row : PySem.W.codeIn K cd_checked_row "checked_row" = true)
    (k_checked_row : PySem.W.keepIn K (.ref f_checked_row) = true)
    (a_lowest_pair : PySem.W.nsIn K mainGlobals "lowest_pair" = some (some (.ref f_lowest_pair)))
    (l_lowest_pair : K.lookup f_lowest_pair = some ⟨oc_lowest_pair, od_lowest_pair, .func (PySem.W.fnOf "lowest_pair" "lowest_pair" (defArgs s_lowest_pair) (defBody s_lowest_pair) (defScope s_lowest_pair) .none kV_lowest_pair dc_lowest_pair pm_lowest_pair an_lowest_pair cd_lowest_pair ct_lowest_pair), sl_lowest_pair⟩)
    (c_lowest_pair : PySem.W.codeIn K cd_lowest_pair "lowest_pair" = true)
    (k_lowest_pair : PySem.W.keepIn K (.ref f_lowest_pair) = true)
    (a_piece_text : PySem.W.nsIn K mainGlobals "piece_text" = some (some (.ref f_piece_text)))
    (l_piece_text : K.lookup f_piece_text = some ⟨oc_piece_text, od_piece_text, .func (PySem.W.fnOf "piece_text" "piece_text" (defArgs s_piece_text) (defBody s_piece_text) (defScope s_piece_text) .none kV_piece_text dc_piece_text pm_piece_text an_piece_text cd_piece_text ct_piece_text), sl_piece_text⟩)
    (c_piece_text : PySem.W.codeIn K cd_piece_text "piece_text" = true)
    (k_piece_text : PySem.W.keepIn K (.ref f_piece_text) = true)
    (a_piece_with_text : PySem.W.nsIn K mainGlobals "piece_with_text" = some (some (.ref f_piece_with_text)))
    (l_piece_with_text : K.lookup f_piece_with_text = some ⟨oc_piece_with_text, od_piece_with_text, .func (PySem.W.fnOf "piece_with_text" "piece_with_text" (defArgs s_piece_with_text) (defBody s_piece_with_text) (defScope s_piece_with_text) .none kV_piece_with_text dc_piece_with_text pm_piece_with_text an_piece_with_text cd_piece_with_text ct_piece_with_text), sl_piece_with_text⟩)
    (c_piece_with_text : PySem.W.codeIn K cd_piece_with_text "piece_with_text" = true)
    (k_piece_with_text : PySem.W.keepIn K (.ref f_piece_with_text) = true)
    (a_JoinedRow_init : PySem.W.findIn K (.ref J) "__init__" = some (some (.ref f_JoinedRow_init)))
    (i_JoinedRow_init : PySem.W.isFn K (.ref f_JoinedRow_init) = true)
    (l_JoinedRow_init : K.lookup f_JoinedRow_init = some ⟨oc_JoinedRow_init, od_JoinedRow_init, .func (PySem.W.fnOf "__init__" "JoinedRow.__init__" (defArgs s_JoinedRow_init) (defBody s_JoinedRow_init) (defScope s_JoinedRow_init) .none kV_JoinedRow_init dc_JoinedRow_init pm_JoinedRow_init an_JoinedRow_init cd_JoinedRow_init ct_JoinedRow_init), sl_JoinedRow_init⟩)
    (c_JoinedRow_init : PySem.W.codeIn K cd_JoinedRow_init "JoinedRow.__init__" = true)
    (k_JoinedRow_init : PySem.W.keepIn K (.ref f_JoinedRow_init) = true)
    (a_Pattern_init : PySem.W.findIn K (.ref C) "__init__" = some (some (.ref f_Pattern_init)))
    (i_Pattern_init : PySem.W.isFn K (.ref f_Pattern_init) = true)
    (l_Pattern_init : K.lookup f_Pattern_init = some ⟨oc_Pattern_init, od_Pattern_init, .func (PySem.W.fnOf "__init__" "Pattern.__init__" (defArgs s_Pattern_init) (defBody s_Pattern_init) (defScope s_Pattern_init) .none kV_Pattern_init dc_Pattern_init pm_Pattern_init an_Pattern_init cd_Pattern_init ct_Pattern_init), sl_Pattern_init⟩)
    (c_Pattern_init : PySem.W.codeIn K cd_Pattern_init "Pattern.__init__" = true)
    (k_Pattern_init : PySem.W.keepIn K (.ref f_Pattern_init) = true)
    (sa_Pattern_read : PySem.W.findCls K (.ref C) (.type "type") "read" = some (.get (.builtin "staticmethod.__get__") (.ref pr_Pattern_read) .none (.ref C)))
    (sc_Pattern_read : PySem.W.recIn K pr_Pattern_read "staticmethod" = some (.ref f_Pattern_read :: rest_Pattern_read))
    (l_Pattern_read : K.lookup f_Pattern_read = some ⟨oc_Pattern_read, od_Pattern_read, .func (PySem.W.fnOf "read" "Pattern.read" (defArgs s_Pattern_read) (defBody s_Pattern_read) (defScope s_Pattern_read) .none kV_Pattern_read dc_Pattern_read pm_Pattern_read an_Pattern_read cd_Pattern_read ct_Pattern_read), sl_Pattern_read⟩)
    (c_Pattern_read : PySem.W.codeIn K cd_Pattern_read "Pattern.read" = true)
    (k_Pattern_read : PySem.W.keepIn K (.ref f_Pattern_read) = true)
    (pa_Pattern_pieces : PySem.W.findIn K (.ref C) "pieces" = some (some (.ref pr_Pattern_pieces)))
    (pg_Pattern_pieces : PySem.W.specialIn K (.ref pr_Pattern_pieces) "__get__" = some (some (.builtin "property.__get__")))
    (pt_Pattern_pieces : PySem.W.takesIn K (.ref pr_Pattern_pieces) = some true)
    (pc_Pattern_pieces : PySem.W.recIn K pr_Pattern_pieces "property" = some (.ref f_Pattern_pieces :: rest_Pattern_pieces))
    (l_Pattern_pieces : K.lookup f_Pattern_pieces = some ⟨oc_Pattern_pieces, od_Pattern_pieces, .func (PySem.W.fnOf "pieces" "Pattern.pieces" (defArgs s_Pattern_pieces) (defBody s_Pattern_pieces) (defScope s_Pattern_pieces) .none kV_Pattern_pieces dc_Pattern_pieces pm_Pattern_pieces an_Pattern_pieces cd_Pattern_pieces ct_Pattern_pieces), sl_Pattern_pieces⟩)
    (c_Pattern_pieces : PySem.W.codeIn K cd_Pattern_pieces "Pattern.pieces" = true)
    (k_Pattern_pieces : PySem.W.keepIn K (.ref f_Pattern_pieces) = true)
    (kt_CNoneType : PySem.W.kitOne K (.type "NoneType") (.ref C) = some false)
    (kt_Cbool : PySem.W.kitOne K (.type "bool") (.ref C) = some false)
    (kt_Cint : PySem.W.kitOne K (.type "int") (.ref C) = some false)
    (kt_Cstr : PySem.W.kitOne K (.type "str") (.ref C) = some false)
    (kt_Clist : PySem.W.kitOne K (.type "list") (.ref C) = some false)
    (kt_Cdict : PySem.W.kitOne K (.type "dict") (.ref C) = some false)
    (kt_Ctuple : PySem.W.kitOne K (.type "tuple") (.ref C) = some false)
    (a_check_pattern : PySem.W.nsIn K mainGlobals "check_pattern" = some (some (.ref f_check_pattern)))
    (l_check_pattern : K.lookup f_check_pattern = some ⟨oc_check_pattern, od_check_pattern, .func (PySem.W.fnOf "check_pattern" "check_pattern" (defArgs s_check_pattern) (defBody s_check_pattern) (defScope s_check_pattern) .none kV_check_pattern dc_check_pattern pm_check_pattern an_check_pattern cd_check_pattern ct_check_pattern), sl_check_pattern⟩)
    (c_check_pattern : PySem.W.codeIn K cd_check_pattern "check_pattern" = true)
    (k_check_pattern : PySem.W.keepIn K (.ref f_check_pattern) = true)
    (a_is_name : PySem.W.nsIn K mainGlobals "is_name" = some (some (.ref f_is_name)))
    (l_is_name : K.lookup f_is_name = some ⟨oc_is_name, od_is_name, .func (PySem.W.fnOf "is_name" "is_name" (defArgs s_is_name) (defBody s_is_name) (defScope s_is_name) .none kV_is_name dc_is_name pm_is_name an_is_name cd_is_name ct_is_name), sl_is_name⟩)
    (c_is_name : PySem.W.codeIn K cd_is_name "is_name" = true)
    (k_is_name : PySem.W.keepIn K (.ref f_is_name) = true)
    (aX0 : PySem.W.nsIn K mainGlobals "NotAPattern" = some (some (.ref X0)))
    (aX1 : PySem.W.nsIn K mainGlobals "NotARun" = some (some (.ref X1)))
    (aX2 : PySem.W.nsIn K mainGlobals "InvalidResistance" = some (some (.ref X2)))
    (aX3 : PySem.W.nsIn K mainGlobals "InvalidCount" = some (some (.ref X3)))
    (aX4 : PySem.W.nsIn K mainGlobals "InvalidText" = some (some (.ref X4)))
    (aX5 : PySem.W.nsIn K mainGlobals "InvalidName" = some (some (.ref X5)))
    (aX6 : PySem.W.nsIn K mainGlobals "InvalidClaim" = some (some (.ref X6)))
    (aX7 : PySem.W.nsIn K mainGlobals "InvalidIndex" = some (some (.ref X7)))
    (aX8 : PySem.W.nsIn K mainGlobals "InvalidDeeds" = some (some (.ref X8)))
    (aX9 : PySem.W.nsIn K mainGlobals "UnknownName" = some (some (.ref X9)))
    (aX10 : PySem.W.nsIn K mainGlobals "InUse" = some (some (.ref X10)))
    (aX11 : PySem.W.nsIn K mainGlobals "TooMany" = some (some (.ref X11)))
    (aX12 : PySem.W.nsIn K mainGlobals "Broken" = some (some (.ref X12)))
    (aX13 : PySem.W.nsIn K mainGlobals "NoLimit" = some (some (.ref X13)))
    (aX14 : PySem.W.nsIn K mainGlobals "NothingToUndo" = some (some (.ref X14)))
    (aX15 : PySem.W.nsIn K mainGlobals "WrongValue" = some (some (.ref X15)))
    (aX16 : PySem.W.nsIn K mainGlobals "WrongName" = some (some (.ref X16)))
    (aX17 : PySem.W.nsIn K mainGlobals "NoAnswer" = some (some (.ref X17)))
    (a_WrongValue_init : PySem.W.findIn K (.ref X15) "__init__" = some (some (.ref f_WrongValue_init)))
    (i_WrongValue_init : PySem.W.isFn K (.ref f_WrongValue_init) = true)
    (l_WrongValue_init : K.lookup f_WrongValue_init = some ⟨oc_WrongValue_init, od_WrongValue_init, .func (PySem.W.fnOf "__init__" "WrongValue.__init__" (defArgs s_WrongValue_init) (defBody s_WrongValue_init) (defScope s_WrongValue_init) .none kV_WrongValue_init dc_WrongValue_init pm_WrongValue_init an_WrongValue_init cd_WrongValue_init ct_WrongValue_init), sl_WrongValue_init⟩)
    (c_WrongValue_init : PySem.W.codeIn K cd_WrongValue_init "WrongValue.__init__" = true)
    (k_WrongValue_init : PySem.W.keepIn K (.ref f_WrongValue_init) = true)
    (rd_15 : PySem.W.readsIn K X15 (.type "type") = true)
    (ga_15 : PySem.W.specialIn K (.ref X15) "__getattribute__" = some (some (.builtin "type.__getattribute__")))
    (fc_15 : PySem.W.findCls K (.ref X15) (.type "type") "__init__" = some (.val (.ref f_WrongValue_init)))
    (a_WrongName_init : PySem.W.findIn K (.ref X16) "__init__" = some (some (.ref f_WrongName_init)))
    (i_WrongName_init : PySem.W.isFn K (.ref f_WrongName_init) = true)
    (l_WrongName_init : K.lookup f_WrongName_init = some ⟨oc_WrongName_init, od_WrongName_init, .func (PySem.W.fnOf "__init__" "WrongName.__init__" (defArgs s_WrongName_init) (defBody s_WrongName_init) (defScope s_WrongName_init) .none kV_WrongName_init dc_WrongName_init pm_WrongName_init an_WrongName_init cd_WrongName_init ct_WrongName_init), sl_WrongName_init⟩)
    (c_WrongName_init : PySem.W.codeIn K cd_WrongName_init "WrongName.__init__" = true)
    (k_WrongName_init : PySem.W.keepIn K (.ref f_WrongName_init) = true)
    (rd_16 : PySem.W.readsIn K X16 (.type "type") = true)
    (ga_16 : PySem.W.specialIn K (.ref X16) "__getattribute__" = some (some (.builtin "type.__getattribute__")))
    (fc_16 : PySem.W.findCls K (.ref X16) (.type "type") "__init__" = some (.val (.ref f_WrongName_init)))
    (a_NotAPattern_init : PySem.W.findIn K (.ref X0) "__init__" = some (some (.ref f_NotAPattern_init)))
    (i_NotAPattern_init : PySem.W.isFn K (.ref f_NotAPattern_init) = true)
    (l_NotAPattern_init : K.lookup f_NotAPattern_init = some ⟨oc_NotAPattern_init, od_NotAPattern_init, .func (PySem.W.fnOf "__init__" "NotAPattern.__init__" (defArgs s_NotAPattern_init) (defBody s_NotAPattern_init) (defScope s_NotAPattern_init) .none kV_NotAPattern_init dc_NotAPattern_init pm_NotAPattern_init an_NotAPattern_init cd_NotAPattern_init ct_NotAPattern_init), sl_NotAPattern_init⟩)
    (c_NotAPattern_init : PySem.W.codeIn K cd_NotAPattern_init "NotAPattern.__init__" = true)
    (k_NotAPattern_init : PySem.W.keepIn K (.ref f_NotAPattern_init) = true)
    (xb_0 : xcB K X0 [.type "ValueError", .type "Exception", .type "BaseException", .type "object"] "ValueError.__new__" = true)
    (ro_0 : rowBF K [X0, X1, X2, X3, X4, X5, X6, X7, X8, X9, X10, X11, X12, X13, X14, X15, X16, X17] 0 = true)
    (any_0 : PySem.W.exmAny K (.ref X0) [.ref X15, .ref X16, .ref X17] = some true)
    (ty_0 : PySem.W.typeIn K (.ref X0) = some (.type "type"))
    (no_0 : PySem.W.findIn K (.ref X0) "given" = some none)
    (a_InvalidName_init : PySem.W.findIn K (.ref X5) "__init__" = some (some (.ref f_InvalidName_init)))
    (i_InvalidName_init : PySem.W.isFn K (.ref f_InvalidName_init) = true)
    (l_InvalidName_init : K.lookup f_InvalidName_init = some ⟨oc_InvalidName_init, od_InvalidName_init, .func (PySem.W.fnOf "__init__" "InvalidName.__init__" (defArgs s_InvalidName_init) (defBody s_InvalidName_init) (defScope s_InvalidName_init) .none kV_InvalidName_init dc_InvalidName_init pm_InvalidName_init an_InvalidName_init cd_InvalidName_init ct_InvalidName_init), sl_InvalidName_init⟩)
    (c_InvalidName_init : PySem.W.codeIn K cd_InvalidName_init "InvalidName.__init__" = true)
    (k_InvalidName_init : PySem.W.keepIn K (.ref f_InvalidName_init) = true)
    (xb_5 : xcB K X5 [.type "ValueError", .type "Exception", .type "BaseException", .type "object"] "ValueError.__new__" = true)
    (ro_5 : rowBF K [X0, X1, X2, X3, X4, X5, X6, X7, X8, X9, X10, X11, X12, X13, X14, X15, X16, X17] 5 = true)
    (any_5 : PySem.W.exmAny K (.ref X5) [.ref X15, .ref X16, .ref X17] = some true)
    (ty_5 : PySem.W.typeIn K (.ref X5) = some (.type "type"))
    (no_5 : PySem.W.findIn K (.ref X5) "given" = some none)
    (a_UnknownName_init : PySem.W.findIn K (.ref X9) "__init__" = some (some (.ref f_UnknownName_init)))
    (i_UnknownName_init : PySem.W.isFn K (.ref f_UnknownName_init) = true)
    (l_UnknownName_init : K.lookup f_UnknownName_init = some ⟨oc_UnknownName_init, od_UnknownName_init, .func (PySem.W.fnOf "__init__" "UnknownName.__init__" (defArgs s_UnknownName_init) (defBody s_UnknownName_init) (defScope s_UnknownName_init) .none kV_UnknownName_init dc_UnknownName_init pm_UnknownName_init an_UnknownName_init cd_UnknownName_init ct_UnknownName_init), sl_UnknownName_init⟩)
    (c_UnknownName_init : PySem.W.codeIn K cd_UnknownName_init "UnknownName.__init__" = true)
    (k_UnknownName_init : PySem.W.keepIn K (.ref f_UnknownName_init) = true)
    (xb_9 : xcB K X9 [.type "LookupError", .type "Exception", .type "BaseException", .type "object"] "LookupError.__new__" = true)
    (ro_9 : rowBF K [X0, X1, X2, X3, X4, X5, X6, X7, X8, X9, X10, X11, X12, X13, X14, X15, X16, X17] 9 = true)
    (any_9 : PySem.W.exmAny K (.ref X9) [.ref X15, .ref X16, .ref X17] = some true)
    (ty_9 : PySem.W.typeIn K (.ref X9) = some (.type "type"))
    (no_9 : PySem.W.findIn K (.ref X9) "given" = some none)
    (a_law_error : PySem.W.nsIn K mainGlobals "_law_error" = some (some (.ref f_law_error)))
    (l_law_error : K.lookup f_law_error = some ⟨oc_law_error, od_law_error, .func (PySem.W.fnOf "_law_error" "_law_error" (defArgs s_law_error) (defBody s_law_error) (defScope s_law_error) .none kV_law_error dc_law_error pm_law_error an_law_error cd_law_error ct_law_error), sl_law_error⟩)
    (c_law_error : PySem.W.codeIn K cd_law_error "_law_error" = true)
    (k_law_error : PySem.W.keepIn K (.ref f_law_error) = true)
    (a_law_told : PySem.W.nsIn K mainGlobals "_law_told" = some (some (.ref f_law_told)))
    (l_law_told : K.lookup f_law_told = some ⟨oc_law_told, od_law_told, .func (PySem.W.fnOf "_law_told" "_law_told" (defArgs s_law_told) (defBody s_law_told) (defScope s_law_told) .none kV_law_told dc_law_told pm_law_told an_law_told cd_law_told ct_law_told), sl_law_told⟩)
    (c_law_told : PySem.W.codeIn K cd_law_told "_law_told" = true)
    (k_law_told : PySem.W.keepIn K (.ref f_law_told) = true)
    (a_Moment_init : PySem.W.findIn K (.ref Cm) "__init__" = some (some (.ref f_Moment_init)))
    (i_Moment_init : PySem.W.isFn K (.ref f_Moment_init) = true)
    (l_Moment_init : K.lookup f_Moment_init = some ⟨oc_Moment_init, od_Moment_init, .func (PySem.W.fnOf "__init__" "Moment.__init__" (defArgs s_Moment_init) (defBody s_Moment_init) (defScope s_Moment_init) .none kV_Moment_init dc_Moment_init pm_Moment_init an_Moment_init cd_Moment_init ct_Moment_init), sl_Moment_init⟩)
    (c_Moment_init : PySem.W.codeIn K cd_Moment_init "Moment.__init__" = true)
    (k_Moment_init : PySem.W.keepIn K (.ref f_Moment_init) = true)
    (a_Bench_init : PySem.W.findIn K (.ref Cb) "__init__" = some (some (.ref f_Bench_init)))
    (i_Bench_init : PySem.W.isFn K (.ref f_Bench_init) = true)
    (l_Bench_init : K.lookup f_Bench_init = some ⟨oc_Bench_init, od_Bench_init, .func (PySem.W.fnOf "__init__" "Bench.__init__" (defArgs s_Bench_init) (defBody s_Bench_init) (defScope s_Bench_init) .none kV_Bench_init dc_Bench_init pm_Bench_init an_Bench_init cd_Bench_init ct_Bench_init), sl_Bench_init⟩)
    (c_Bench_init : PySem.W.codeIn K cd_Bench_init "Bench.__init__" = true)
    (k_Bench_init : PySem.W.keepIn K (.ref f_Bench_init) = true)
    (a_Bench_contains : PySem.W.findIn K (.ref Cb) "__contains__" = some (some (.ref f_Bench_contains)))
    (i_Bench_contains : PySem.W.isFn K (.ref f_Bench_contains) = true)
    (l_Bench_contains : K.lookup f_Bench_contains = some ⟨oc_Bench_contains, od_Bench_contains, .func (PySem.W.fnOf "__contains__" "Bench.__contains__" (defArgs s_Bench_contains) (defBody s_Bench_contains) (defScope s_Bench_contains) .none kV_Bench_contains dc_Bench_contains pm_Bench_contains an_Bench_contains cd_Bench_contains ct_Bench_contains), sl_Bench_contains⟩)
    (c_Bench_contains : PySem.W.codeIn K cd_Bench_contains "Bench.__contains__" = true)
    (k_Bench_contains : PySem.W.keepIn K (.ref f_Bench_contains) = true)
    (a_Bench_len : PySem.W.findIn K (.ref Cb) "__len__" = some (some (.ref f_Bench_len)))
    (i_Bench_len : PySem.W.isFn K (.ref f_Bench_len) = true)
    (l_Bench_len : K.lookup f_Bench_len = some ⟨oc_Bench_len, od_Bench_len, .func (PySem.W.fnOf "__len__" "Bench.__len__" (defArgs s_Bench_len) (defBody s_Bench_len) (defScope s_Bench_len) .none kV_Bench_len dc_Bench_len pm_Bench_len an_Bench_len cd_Bench_len ct_Bench_len), sl_Bench_len⟩)
    (c_Bench_len : PySem.W.codeIn K cd_Bench_len "Bench.__len__" = true)
    (k_Bench_len : PySem.W.keepIn K (.ref f_Bench_len) = true)
    (pa_Bench_names : PySem.W.findIn K (.ref Cb) "names" = some (some (.ref pr_Bench_names)))
    (pg_Bench_names : PySem.W.specialIn K (.ref pr_Bench_names) "__get__" = some (some (.builtin "property.__get__")))
    (pt_Bench_names : PySem.W.takesIn K (.ref pr_Bench_names) = some true)
    (pc_Bench_names : PySem.W.recIn K pr_Bench_names "property" = some (.ref f_Bench_names :: rest_Bench_names))
    (l_Bench_names : K.lookup f_Bench_names = some ⟨oc_Bench_names, od_Bench_names, .func (PySem.W.fnOf "names" "Bench.names" (defArgs s_Bench_names) (defBody s_Bench_names) (defScope s_Bench_names) .none kV_Bench_names dc_Bench_names pm_Bench_names an_Bench_names cd_Bench_names ct_Bench_names), sl_Bench_names⟩)
    (c_Bench_names : PySem.W.codeIn K cd_Bench_names "Bench.names" = true)
    (k_Bench_names : PySem.W.keepIn K (.ref f_Bench_names) = true)
    (pa_Bench_claims : PySem.W.findIn K (.ref Cb) "claims" = some (some (.ref pr_Bench_claims)))
    (pg_Bench_claims : PySem.W.specialIn K (.ref pr_Bench_claims) "__get__" = some (some (.builtin "property.__get__")))
    (pt_Bench_claims : PySem.W.takesIn K (.ref pr_Bench_claims) = some true)
    (pc_Bench_claims : PySem.W.recIn K pr_Bench_claims "property" = some (.ref f_Bench_claims :: rest_Bench_claims))
    (l_Bench_claims : K.lookup f_Bench_claims = some ⟨oc_Bench_claims, od_Bench_claims, .func (PySem.W.fnOf "claims" "Bench.claims" (defArgs s_Bench_claims) (defBody s_Bench_claims) (defScope s_Bench_claims) .none kV_Bench_claims dc_Bench_claims pm_Bench_claims an_Bench_claims cd_Bench_claims ct_Bench_claims), sl_Bench_claims⟩)
    (c_Bench_claims : PySem.W.codeIn K cd_Bench_claims "Bench.claims" = true)
    (k_Bench_claims : PySem.W.keepIn K (.ref f_Bench_claims) = true)
    (pa_Bench_changes : PySem.W.findIn K (.ref Cb) "changes" = some (some (.ref pr_Bench_changes)))
    (pg_Bench_changes : PySem.W.specialIn K (.ref pr_Bench_changes) "__get__" = some (some (.builtin "property.__get__")))
    (pt_Bench_changes : PySem.W.takesIn K (.ref pr_Bench_changes) = some true)
    (pc_Bench_changes : PySem.W.recIn K pr_Bench_changes "property" = some (.ref f_Bench_changes :: rest_Bench_changes))
    (l_Bench_changes : K.lookup f_Bench_changes = some ⟨oc_Bench_changes, od_Bench_changes, .func (PySem.W.fnOf "changes" "Bench.changes" (defArgs s_Bench_changes) (defBody s_Bench_changes) (defScope s_Bench_changes) .none kV_Bench_changes dc_Bench_changes pm_Bench_changes an_Bench_changes cd_Bench_changes ct_Bench_changes), sl_Bench_changes⟩)
    (c_Bench_changes : PySem.W.codeIn K cd_Bench_changes "Bench.changes" = true)
    (k_Bench_changes : PySem.W.keepIn K (.ref f_Bench_changes) = true)
    (a_Bench_change : PySem.W.findIn K (.ref Cb) "change" = some (some (.ref f_Bench_change)))
    (i_Bench_change : PySem.W.isFn K (.ref f_Bench_change) = true)
    (l_Bench_change : K.lookup f_Bench_change = some ⟨oc_Bench_change, od_Bench_change, .func (PySem.W.fnOf "change" "Bench.change" (defArgs s_Bench_change) (defBody s_Bench_change) (defScope s_Bench_change) .none kV_Bench_change dc_Bench_change pm_Bench_change an_Bench_change cd_Bench_change ct_Bench_change), sl_Bench_change⟩)
    (c_Bench_change : PySem.W.codeIn K cd_Bench_change "Bench.change" = true)
    (k_Bench_change : PySem.W.keepIn K (.ref f_Bench_change) = true)
    (a_Bench_setitem : PySem.W.findIn K (.ref Cb) "__setitem__" = some (some (.ref f_Bench_setitem)))
    (i_Bench_setitem : PySem.W.isFn K (.ref f_Bench_setitem) = true)
    (l_Bench_setitem : K.lookup f_Bench_setitem = some ⟨oc_Bench_setitem, od_Bench_setitem, .func (PySem.W.fnOf "__setitem__" "Bench.__setitem__" (defArgs s_Bench_setitem) (defBody s_Bench_setitem) (defScope s_Bench_setitem) .none kV_Bench_setitem dc_Bench_setitem pm_Bench_setitem an_Bench_setitem cd_Bench_setitem ct_Bench_setitem), sl_Bench_setitem⟩)
    (c_Bench_setitem : PySem.W.codeIn K cd_Bench_setitem "Bench.__setitem__" = true)
    (k_Bench_setitem : PySem.W.keepIn K (.ref f_Bench_setitem) = true)
    (fi_set : PySem.W.fnIn K f_Bench_setitem = true)
    (a_Bench_getitem : PySem.W.findIn K (.ref Cb) "__getitem__" = some (some (.ref f_Bench_getitem)))
    (i_Bench_getitem : PySem.W.isFn K (.ref f_Bench_getitem) = true)
    (l_Bench_getitem : K.lookup f_Bench_getitem = some ⟨oc_Bench_getitem, od_Bench_getitem, .func (PySem.W.fnOf "__getitem__" "Bench.__getitem__" (defArgs s_Bench_getitem) (defBody s_Bench_getitem) (defScope s_Bench_getitem) .none kV_Bench_getitem dc_Bench_getitem pm_Bench_getitem an_Bench_getitem cd_Bench_getitem ct_Bench_getitem), sl_Bench_getitem⟩)
    (c_Bench_getitem : PySem.W.codeIn K cd_Bench_getitem "Bench.__getitem__" = true)
    (k_Bench_getitem : PySem.W.keepIn K (.ref f_Bench_getitem) = true)
    (fi_get : PySem.W.fnIn K f_Bench_getitem = true)
    (a_Bench_drop : PySem.W.findIn K (.ref Cb) "drop" = some (some (.ref f_Bench_drop)))
    (i_Bench_drop : PySem.W.isFn K (.ref f_Bench_drop) = true)
    (l_Bench_drop : K.lookup f_Bench_drop = some ⟨oc_Bench_drop, od_Bench_drop, .func (PySem.W.fnOf "drop" "Bench.drop" (defArgs s_Bench_drop) (defBody s_Bench_drop) (defScope s_Bench_drop) .none kV_Bench_drop dc_Bench_drop pm_Bench_drop an_Bench_drop cd_Bench_drop ct_Bench_drop), sl_Bench_drop⟩)
    (c_Bench_drop : PySem.W.codeIn K cd_Bench_drop "Bench.drop" = true)
    (k_Bench_drop : PySem.W.keepIn K (.ref f_Bench_drop) = true)
    (a_law_cell : PySem.W.nsIn K mainGlobals "_law_cell" = some (some (.ref f_law_cell)))
    (l_law_cell : K.lookup f_law_cell = some ⟨oc_law_cell, od_law_cell, .func (PySem.W.fnOf "_law_cell" "_law_cell" (defArgs s_law_cell) (defBody s_law_cell) (defScope s_law_cell) .none kV_law_cell dc_law_cell pm_law_cell an_law_cell cd_law_cell ct_law_cell), sl_law_cell⟩)
    (c_law_cell : PySem.W.codeIn K cd_law_cell "_law_cell" = true)
    (k_law_cell : PySem.W.keepIn K (.ref f_law_cell) = true)
    (a_law_src : PySem.W.nsIn K mainGlobals "_law_src" = some (some (.ref f_law_src)))
    (l_law_src : K.lookup f_law_src = some ⟨oc_law_src, od_law_src, .func (PySem.W.fnOf "_law_src" "_law_src" (defArgs s_law_src) (defBody s_law_src) (defScope s_law_src) .none kV_law_src dc_law_src pm_law_src an_law_src cd_law_src ct_law_src), sl_law_src⟩)
    (c_law_src : PySem.W.codeIn K cd_law_src "_law_src" = true)
    (k_law_src : PySem.W.keepIn K (.ref f_law_src) = true)
    (a_law_pick : PySem.W.nsIn K mainGlobals "_law_pick" = some (some (.ref f_law_pick)))
    (l_law_pick : K.lookup f_law_pick = some ⟨oc_law_pick, od_law_pick, .func (PySem.W.fnOf "_law_pick" "_law_pick" (defArgs s_law_pick) (defBody s_law_pick) (defScope s_law_pick) .none kV_law_pick dc_law_pick pm_law_pick an_law_pick cd_law_pick ct_law_pick), sl_law_pick⟩)
    (c_law_pick : PySem.W.codeIn K cd_law_pick "_law_pick" = true)
    (k_law_pick : PySem.W.keepIn K (.ref f_law_pick) = true)
    (a_law_anyrow : PySem.W.nsIn K mainGlobals "_law_anyrow" = some (some (.ref f_law_anyrow)))
    (l_law_anyrow : K.lookup f_law_anyrow = some ⟨oc_law_anyrow, od_law_anyrow, .func (PySem.W.fnOf "_law_anyrow" "_law_anyrow" (defArgs s_law_anyrow) (defBody s_law_anyrow) (defScope s_law_anyrow) .none kV_law_anyrow dc_law_anyrow pm_law_anyrow an_law_anyrow cd_law_anyrow ct_law_anyrow), sl_law_anyrow⟩)
    (c_law_anyrow : PySem.W.codeIn K cd_law_anyrow "_law_anyrow" = true)
    (k_law_anyrow : PySem.W.keepIn K (.ref f_law_anyrow) = true)
    (a_law_text : PySem.W.nsIn K mainGlobals "_law_text" = some (some (.ref f_law_text)))
    (l_law_text : K.lookup f_law_text = some ⟨oc_law_text, od_law_text, .func (PySem.W.fnOf "_law_text" "_law_text" (defArgs s_law_text) (defBody s_law_text) (defScope s_law_text) .none kV_law_text dc_law_text pm_law_text an_law_text cd_law_text ct_law_text), sl_law_text⟩)
    (c_law_text : PySem.W.codeIn K cd_law_text "_law_text" = true)
    (k_law_text : PySem.W.keepIn K (.ref f_law_text) = true)
    (a_law_pat : PySem.W.nsIn K mainGlobals "_law_pat" = some (some (.ref f_law_pat)))
    (l_law_pat : K.lookup f_law_pat = some ⟨oc_law_pat, od_law_pat, .func (PySem.W.fnOf "_law_pat" "_law_pat" (defArgs s_law_pat) (defBody s_law_pat) (defScope s_law_pat) .none kV_law_pat dc_law_pat pm_law_pat an_law_pat cd_law_pat ct_law_pat), sl_law_pat⟩)
    (c_law_pat : PySem.W.codeIn K cd_law_pat "_law_pat" = true)
    (k_law_pat : PySem.W.keepIn K (.ref f_law_pat) = true)
    (a_law_is_name : PySem.W.nsIn K mainGlobals "_law_is_name" = some (some (.ref f_law_is_name)))
    (l_law_is_name : K.lookup f_law_is_name = some ⟨oc_law_is_name, od_law_is_name, .func (PySem.W.fnOf "_law_is_name" "_law_is_name" (defArgs s_law_is_name) (defBody s_law_is_name) (defScope s_law_is_name) .none kV_law_is_name dc_law_is_name pm_law_is_name an_law_is_name cd_law_is_name ct_law_is_name), sl_law_is_name⟩)
    (c_law_is_name : PySem.W.codeIn K cd_law_is_name "_law_is_name" = true)
    (k_law_is_name : PySem.W.keepIn K (.ref f_law_is_name) = true)
    (a_law_anyword : PySem.W.nsIn K mainGlobals "_law_anyword" = some (some (.ref f_law_anyword)))
    (l_law_anyword : K.lookup f_law_anyword = some ⟨oc_law_anyword, od_law_anyword, .func (PySem.W.fnOf "_law_anyword" "_law_anyword" (defArgs s_law_anyword) (defBody s_law_anyword) (defScope s_law_anyword) .none kV_law_anyword dc_law_anyword pm_law_anyword an_law_anyword cd_law_anyword ct_law_anyword), sl_law_anyword⟩)
    (c_law_anyword : PySem.W.codeIn K cd_law_anyword "_law_anyword" = true)
    (k_law_anyword : PySem.W.keepIn K (.ref f_law_anyword) = true)
    (a_law_anything : PySem.W.nsIn K mainGlobals "_law_anything" = some (some (.ref f_law_anything)))
    (l_law_anything : K.lookup f_law_anything = some ⟨oc_law_anything, od_law_anything, .func (PySem.W.fnOf "_law_anything" "_law_anything" (defArgs s_law_anything) (defBody s_law_anything) (defScope s_law_anything) .none kV_law_anything dc_law_anything pm_law_anything an_law_anything cd_law_anything ct_law_anything), sl_law_anything⟩)
    (c_law_anything : PySem.W.codeIn K cd_law_anything "_law_anything" = true)
    (k_law_anything : PySem.W.keepIn K (.ref f_law_anything) = true)
    (a_law_put : PySem.W.nsIn K mainGlobals "_law_put" = some (some (.ref f_law_put)))
    (l_law_put : K.lookup f_law_put = some ⟨oc_law_put, od_law_put, .func (PySem.W.fnOf "_law_put" "_law_put" (defArgs s_law_put) (defBody s_law_put) (defScope s_law_put) .none kV_law_put dc_law_put pm_law_put an_law_put cd_law_put ct_law_put), sl_law_put⟩)
    (c_law_put : PySem.W.codeIn K cd_law_put "_law_put" = true)
    (k_law_put : PySem.W.keepIn K (.ref f_law_put) = true)
    (a_law_state_right : PySem.W.nsIn K mainGlobals "_law_state_right" = some (some (.ref f_law_state_right)))
    (l_law_state_right : K.lookup f_law_state_right = some ⟨oc_law_state_right, od_law_state_right, .func (PySem.W.fnOf "_law_state_right" "_law_state_right" (defArgs s_law_state_right) (defBody s_law_state_right) (defScope s_law_state_right) .none kV_law_state_right dc_law_state_right pm_law_state_right an_law_state_right cd_law_state_right ct_law_state_right), sl_law_state_right⟩)
    (c_law_state_right : PySem.W.codeIn K cd_law_state_right "_law_state_right" = true)
    (k_law_state_right : PySem.W.keepIn K (.ref f_law_state_right) = true)
    (a_law_refused_right : PySem.W.nsIn K mainGlobals "_law_refused_right" = some (some (.ref f_law_refused_right)))
    (l_law_refused_right : K.lookup f_law_refused_right = some ⟨oc_law_refused_right, od_law_refused_right, .func (PySem.W.fnOf "_law_refused_right" "_law_refused_right" (defArgs s_law_refused_right) (defBody s_law_refused_right) (defScope s_law_refused_right) .none kV_law_refused_right dc_law_refused_right pm_law_refused_right an_law_refused_right cd_law_refused_right ct_law_refused_right), sl_law_refused_right⟩)
    (c_law_refused_right : PySem.W.codeIn K cd_law_refused_right "_law_refused_right" = true)
    (k_law_refused_right : PySem.W.keepIn K (.ref f_law_refused_right) = true)
    (e_law_refused_right : cd_law_refused_right = .ref cA_law_refused_right)
    (lc_law_refused_right : K.lookup cA_law_refused_right = some ⟨.type "code", dC_law_refused_right, .fields vC_law_refused_right, sC_law_refused_right⟩)
    (pl_law_refused_right : (vC_law_refused_right[11]? : Option Value) = some (.ref PA_law_refused_right))
    (ch_law_refused_right : PySem.W.codeHdIn K cA_law_refused_right PA_law_refused_right = true)
    (tt_law_refused_right : h.get? PA_law_refused_right = some (PySem.W.tabObj #[]))
    (kn_law_refused_right : K.lookup PA_law_refused_right = none)
    (a_law_right : PySem.W.nsIn K mainGlobals "_law_right" = some (some (.ref f_law_right)))
    (l_law_right : K.lookup f_law_right = some ⟨oc_law_right, od_law_right, .func (PySem.W.fnOf "_law_right" "_law_right" (defArgs s_law_right) (defBody s_law_right) (defScope s_law_right) .none kV_law_right dc_law_right pm_law_right an_law_right cd_law_right ct_law_right), sl_law_right⟩)
    (c_law_right : PySem.W.codeIn K cd_law_right "_law_right" = true)
    (k_law_right : PySem.W.keepIn K (.ref f_law_right) = true)
    (e_law_right : cd_law_right = .ref cA_law_right)
    (lc_law_right : K.lookup cA_law_right = some ⟨.type "code", dC_law_right, .fields vC_law_right, sC_law_right⟩)
    (pl_law_right : (vC_law_right[11]? : Option Value) = some (.ref PA_law_right))
    (ch_law_right : PySem.W.codeHdIn K cA_law_right PA_law_right = true)
    (tt_law_right : h.get? PA_law_right = some (PySem.W.tabObj #[]))
    (kn_law_right : K.lookup PA_law_right = none)
    (a_law : PySem.W.nsIn K mainGlobals "law" = some (some (.ref f_law)))
    (l_law : K.lookup f_law = some ⟨oc_law, od_law, .func (PySem.W.fnOf "law" "law" (defArgs s_law) (defBody s_law) (defScope s_law) .none kV_law dc_law pm_law an_law cd_law ct_law), sl_law⟩)
    (c_law : PySem.W.codeIn K cd_law "law" = true)
    (k_law : PySem.W.keepIn K (.ref f_law) = true)
    (e_law : cd_law = .ref cA_law)
    (lc_law : K.lookup cA_law = some ⟨.type "code", dC_law, .fields vC_law, sC_law⟩)
    (pl_law : (vC_law[11]? : Option Value) = some (.ref PA_law))
    (ch_law : PySem.W.codeHdIn K cA_law PA_law = true)
    (tt_law : h.get? PA_law = some (PySem.W.tabObj #[]))
    (kn_law : K.lookup PA_law = none)
    (ne_law_refused_right_law_right : PA_law_refused_right ≠ PA_law_right)
    (ne_law_refused_right_law : PA_law_refused_right ≠ PA_law)
    (ne_law_right_law_refused_right : PA_law_right ≠ PA_law_refused_right)
    (ne_law_right_law : PA_law_right ≠ PA_law)
    (ne_law_law_refused_right : PA_law ≠ PA_law_refused_right)
    (ne_law_law_right : PA_law ≠ PA_law_right) :
    LawT l w K 15 63 "_law_script" mg fa h := by
  have e := hfa.symm.trans (PySem.W.mg_of X G a_law)
  cases e
  subst e_law_refused_right
  subst e_law_right
  subst e_law
  have T : TxK K mg tG t1 t2 t3 tLo tLe aO aW J C Cb Cm := { len := PySem.W.mg_none_of X G z_len, abs := PySem.W.mg_none_of X G z_abs, int_ := PySem.W.mg_none_of X G z_int, bool_ := PySem.W.mg_none_of X G z_bool, tuple_ := PySem.W.mg_none_of X G z_tuple, isinstance := PySem.W.mg_none_of X G z_isinstance, divmod := PySem.W.mg_none_of X G z_divmod, max := PySem.W.mg_none_of X G z_max, min := PySem.W.mg_none_of X G z_min, range := PySem.W.mg_none_of X G z_range, all := PySem.W.mg_none_of X G z_all, repr := PySem.W.mg_none_of X G z_repr, str_ := PySem.W.mg_none_of X G z_str, enumerate := PySem.W.mg_none_of X G z_enumerate, list_ := PySem.W.mg_none_of X G z_list, sorted := PySem.W.mg_none_of X G z_sorted, mgG := PySem.W.mg_of X G aG, mgO := PySem.W.mg_of X G aOp, opn := ⟨_, _, _, laOp, rfl, rfl, (by show 2 ≤ sizeLine; decide), .cons ⟨_, rfl⟩ (.cons ⟨_, rfl⟩ .nil)⟩, mgOh := PySem.W.mg_of X G aOh, mgPi := PySem.W.mg_of X G aPi, mgJo := PySem.W.mg_of X G aJo, mgW := PySem.W.mg_of X G aWo, wds := ⟨_, _, _, laWo, rfl, rfl, (by show 2 ≤ sizeLine; decide), .cons ⟨_, rfl⟩ (.cons ⟨_, rfl⟩ .nil)⟩, mgJ := PySem.W.mg_of X G aJ, mgC := PySem.W.mg_of X G aC, clJ := ⟨pgJ, hdJ, poJ, saJ⟩, nJ := nJ_row, caJ := caJ, cnJ := cn, ctJ := ct, cmJ := cmJ, isJ := (by unfold PySem.W.kitOne; simp), ktJ := kt_J, cl := ⟨pgC, hdC, poC, saC⟩, nRow := nC_row, nMat := nC_matrix, nScl := nC_scale, nFour := nC_four, mgLe := PySem.W.mg_of X G aLe, mgLo := PySem.W.mg_of X G aLo, mgB := PySem.W.mg_of X G aCb, mgM := PySem.W.mg_of X G aCm, clB := ⟨pgCb, hdCb, poCb, saCb⟩, clM := ⟨pgCm, hdCm, poCm, saCm⟩, nPr := nCb_present, nSt := nCm_stored, nSd := nCm_stated, nBe := nCm_before, nDe := nCm_depth, dict_ := PySem.W.mg_none_of X G z_dict }
  refine ⟨PySem.W.fnOf "law" "law" (defArgs s_law) (defBody s_law) (defScope s_law) .none kV_law dc_law pm_law an_law (.ref cA_law) ct_law, [(cA_law_refused_right, PA_law_refused_right), (cA_law_right, PA_law_right), (cA_law, PA_law)], spLaw K [(PA_law_refused_right, ("_law_refused_right" : Str) ++ ".<locals>.<lambda>"), (PA_law_right, ("_law_right" : Str) ++ ".<locals>.<lambda>"), (PA_law, ("law" : Str) ++ ".<locals>.<lambda>")], List.forall_mem_cons.mpr ⟨tt_law_refused_right, List.forall_mem_cons.mpr ⟨tt_law_right, List.forall_mem_cons.mpr ⟨tt_law, fun _ z => nomatch z⟩⟩⟩, List.forall_mem_cons.mpr ⟨kn_law_refused_right, List.forall_mem_cons.mpr ⟨kn_law_right, List.forall_mem_cons.mpr ⟨kn_law, fun _ z => nomatch z⟩⟩⟩, List.forall_mem_cons.mpr ⟨PySem.W.codeHd_of_K X ch_law_refused_right, List.forall_mem_cons.mpr ⟨PySem.W.codeHd_of_K X ch_law_right, List.forall_mem_cons.mpr ⟨PySem.W.codeHd_of_K X ch_law, fun _ z => nomatch z⟩⟩⟩, fun s v => .of_eq rfl, fun H a ns hl hT hS => ⟨a, ns, rfl, hS, hl, ?_, fun _ => rfl⟩, fun base _ _ hTB => ?_⟩
  · exact List.forall_mem_cons.mpr ⟨LamX.TabS.nil (hT (cA_law_refused_right, PA_law_refused_right) (by simp)), List.forall_mem_cons.mpr ⟨LamX.TabS.nil (hT (cA_law_right, PA_law_right) (by simp)), List.forall_mem_cons.mpr ⟨LamX.TabS.nil (hT (cA_law, PA_law) (by simp)), fun _ z => nomatch z⟩⟩⟩
  have TB_law_refused_right := hTB (cA_law_refused_right, PA_law_refused_right) (by simp)
  have TM_law_refused_right : (PA_law_refused_right, ("_law_refused_right" : Str) ++ ".<locals>.<lambda>") ∈ ([(PA_law_refused_right, ("_law_refused_right" : Str) ++ ".<locals>.<lambda>"), (PA_law_right, ("_law_right" : Str) ++ ".<locals>.<lambda>"), (PA_law, ("law" : Str) ++ ".<locals>.<lambda>")] : List (Addr × Str)) := by simp
  have TU_law_refused_right : ∀ p ∈ ([(PA_law_refused_right, ("_law_refused_right" : Str) ++ ".<locals>.<lambda>"), (PA_law_right, ("_law_right" : Str) ++ ".<locals>.<lambda>"), (PA_law, ("law" : Str) ++ ".<locals>.<lambda>")] : List (Addr × Str)), p.1 = PA_law_refused_right → p.2 = ("_law_refused_right" : Str) ++ ".<locals>.<lambda>" := List.forall_mem_cons.mpr ⟨fun _ => rfl, List.forall_mem_cons.mpr ⟨fun z => absurd z ne_law_right_law_refused_right, List.forall_mem_cons.mpr ⟨fun z => absurd z ne_law_law_refused_right, fun _ z => nomatch z⟩⟩⟩
  have FC_law_refused_right : FunC K "_law_refused_right" "_law_refused_right" s_law_refused_right f_law_refused_right _ cA_law_refused_right := ⟨_, _, _, _, _, _, _, _, rfl, l_law_refused_right, c_law_refused_right⟩
  have TB_law_right := hTB (cA_law_right, PA_law_right) (by simp)
  have TM_law_right : (PA_law_right, ("_law_right" : Str) ++ ".<locals>.<lambda>") ∈ ([(PA_law_refused_right, ("_law_refused_right" : Str) ++ ".<locals>.<lambda>"), (PA_law_right, ("_law_right" : Str) ++ ".<locals>.<lambda>"), (PA_law, ("law" : Str) ++ ".<locals>.<lambda>")] : List (Addr × Str)) := by simp
  have TU_law_right : ∀ p ∈ ([(PA_law_refused_right, ("_law_refused_right" : Str) ++ ".<locals>.<lambda>"), (PA_law_right, ("_law_right" : Str) ++ ".<locals>.<lambda>"), (PA_law, ("law" : Str) ++ ".<locals>.<lambda>")] : List (Addr × Str)), p.1 = PA_law_right → p.2 = ("_law_right" : Str) ++ ".<locals>.<lambda>" := List.forall_mem_cons.mpr ⟨fun z => absurd z ne_law_refused_right_law_right, List.forall_mem_cons.mpr ⟨fun _ => rfl, List.forall_mem_cons.mpr ⟨fun z => absurd z ne_law_law_right, fun _ z => nomatch z⟩⟩⟩
  have FC_law_right : FunC K "_law_right" "_law_right" s_law_right f_law_right _ cA_law_right := ⟨_, _, _, _, _, _, _, _, rfl, l_law_right, c_law_right⟩
  have TB_law := hTB (cA_law, PA_law) (by simp)
  have TM_law : (PA_law, ("law" : Str) ++ ".<locals>.<lambda>") ∈ ([(PA_law_refused_right, ("_law_refused_right" : Str) ++ ".<locals>.<lambda>"), (PA_law_right, ("_law_right" : Str) ++ ".<locals>.<lambda>"), (PA_law, ("law" : Str) ++ ".<locals>.<lambda>")] : List (Addr × Str)) := by simp
  have TU_law : ∀ p ∈ ([(PA_law_refused_right, ("_law_refused_right" : Str) ++ ".<locals>.<lambda>"), (PA_law_right, ("_law_right" : Str) ++ ".<locals>.<lambda>"), (PA_law, ("law" : Str) ++ ".<locals>.<lambda>")] : List (Addr × Str)), p.1 = PA_law → p.2 = ("law" : Str) ++ ".<locals>.<lambda>" := List.forall_mem_cons.mpr ⟨fun z => absurd z ne_law_refused_right_law, List.forall_mem_cons.mpr ⟨fun z => absurd z ne_law_right_law, List.forall_mem_cons.mpr ⟨fun _ => rfl, fun _ z => nomatch z⟩⟩⟩
  have FC_law : FunC K "law" "law" s_law fa _ cA_law := ⟨_, _, _, _, _, _, _, _, rfl, l_law, c_law⟩
  have F_is_integer := fun_mk (st := s_is_integer) l_is_integer c_is_integer k_is_integer
  have b_is_integer := F_is_integer.binds (ps := ["value"]) fun _ _ _ _ _ _ us hl => match us, hl with | [_], _ => rfl
  have D_is_integer : Df l.prog w K mg base 1 "is_integer" ["value"] spIsInt := ⟨_, _, ok_isint F_is_integer T.toTxt, PySem.W.mg_of X G a_is_integer, k_is_integer, b_is_integer⟩
  have F_is_integer_within := fun_mk (st := s_is_integer_within) l_is_integer_within c_is_integer_within k_is_integer_within
  have b_is_integer_within := F_is_integer_within.binds (ps := ["value", "least", "most"]) fun _ _ _ _ _ _ us hl => match us, hl with | [_, _, _], _ => rfl
  have F_is_piece := fun_mk (st := s_is_piece) l_is_piece c_is_piece k_is_piece
  have b_is_piece := F_is_piece.binds (ps := ["value"]) fun _ _ _ _ _ _ us hl => match us, hl with | [_], _ => rfl
  have F_pair_of := fun_mk (st := s_pair_of) l_pair_of c_pair_of k_pair_of
  have b_pair_of := F_pair_of.binds (ps := ["fraction_or_open"]) fun _ _ _ _ _ _ us hl => match us, hl with | [_], _ => rfl
  have F_common_divisor := fun_mk (st := s_common_divisor) l_common_divisor c_common_divisor k_common_divisor
  have b_common_divisor := F_common_divisor.binds (ps := ["first", "second"]) fun _ _ _ _ _ _ us hl => match us, hl with | [_, _], _ => rfl
  have D_common_divisor : Df l.prog w K mg base 1 "common_divisor" ["first", "second"] spGcd := ⟨_, _, ok_gcd F_common_divisor T.toTxt, PySem.W.mg_of X G a_common_divisor, k_common_divisor, b_common_divisor⟩
  have F_lowest_terms := fun_mk (st := s_lowest_terms) l_lowest_terms c_lowest_terms k_lowest_terms
  have b_lowest_terms := F_lowest_terms.binds (ps := ["top", "bottom"]) fun _ _ _ _ _ _ us hl => match us, hl with | [_, _], _ => rfl
  have D_lowest_terms : Df l.prog w K mg base 2 "lowest_terms" ["top", "bottom"] spLow := ⟨_, _, ok_low F_lowest_terms D_common_divisor, PySem.W.mg_of X G a_lowest_terms, k_lowest_terms, b_lowest_terms⟩
  have F_matrix_and_scale := fun_mk (st := s_matrix_and_scale) l_matrix_and_scale c_matrix_and_scale k_matrix_and_scale
  have b_matrix_and_scale := F_matrix_and_scale.binds (ps := ["row"]) fun _ _ _ _ _ _ us hl => match us, hl with | [_], _ => rfl
  have D_matrix_and_scale : Df l.prog w K mg base 1 "matrix_and_scale" ["row"] spMat := ⟨_, _, ok_mat F_matrix_and_scale, PySem.W.mg_of X G a_matrix_and_scale, k_matrix_and_scale, b_matrix_and_scale⟩
  have T3 : Txt3 K mg tG t1 t2 t3 aO aW J C := { toTxt2 := T.toTxt2, mgOh := T.mgOh, mgPi := PySem.W.mg_of X G aPi, mgJo := T.mgJo, mgW := T.mgW, wds := T.wds, mgJ := PySem.W.mg_of X G aJ, mgC := PySem.W.mg_of X G aC, clJ := ⟨pgJ, hdJ, poJ, saJ⟩, nJ := nJ_row, caJ := caJ, cnJ := cn, ctJ := ct, cmJ := cmJ, isJ := (by unfold PySem.W.kitOne; simp), ktJ := kt_J, cl := ⟨pgC, hdC, poC, saC⟩, nRow := nC_row, nMat := nC_matrix, nScl := nC_scale, nFour := nC_four }
  have I : IsC K C := ⟨caC, cn, ct, cmC, (by unfold PySem.W.kitOne; simp)⟩
  have D_is_integer_withinP : Df l.prog w K mg base 2 "is_integer_within" ["value", "least", "most"] spWithin := ⟨_, _, ok_within F_is_integer_within D_is_integer, PySem.W.mg_of X G a_is_integer_within, k_is_integer_within, b_is_integer_within⟩
  have D_is_pieceP : Df l.prog w K mg base 3 "is_piece" ["value"] spIsPiece := ⟨_, _, ok_ispiece F_is_piece T3 D_is_integer_withinP, PySem.W.mg_of X G a_is_piece, k_is_piece, b_is_piece⟩
  have F_checked_row := fun_mk (st := s_checked_row) l_checked_row c_checked_row k_checked_row
  have b_checked_row := F_checked_row.binds (ps := ["pieces"]) fun _ _ _ _ _ _ us hl => match us, hl with | [_], _ => rfl
  have D_checked_row : Df l.prog w K mg base 4 "checked_row" ["pieces"] (spChk J) := ⟨_, _, ok_chk F_checked_row T3 D_is_pieceP, PySem.W.mg_of X G a_checked_row, k_checked_row, b_checked_row⟩
  have D_pair_ofP : Df l.prog w K mg base 2 "pair_of" ["fraction_or_open"] spPairOf := ⟨_, _, ok_pairof F_pair_of D_is_integer, PySem.W.mg_of X G a_pair_of, k_pair_of, b_pair_of⟩
  have F_lowest_pair := fun_mk (st := s_lowest_pair) l_lowest_pair c_lowest_pair k_lowest_pair
  have b_lowest_pair := F_lowest_pair.binds (ps := ["fraction_or_open"]) fun _ _ _ _ _ _ us hl => match us, hl with | [_], _ => rfl
  have D_lowest_pair : Df l.prog w K mg base 3 "lowest_pair" ["fraction_or_open"] spLowP := ⟨_, _, ok_lowp F_lowest_pair D_pair_ofP D_lowest_terms, PySem.W.mg_of X G a_lowest_pair, k_lowest_pair, b_lowest_pair⟩
  have F_piece_text := fun_mk (st := s_piece_text) l_piece_text c_piece_text k_piece_text
  have b_piece_text := F_piece_text.binds (ps := ["word", "ohms"]) fun _ _ _ _ _ _ us hl => match us, hl with | [_, _], _ => rfl
  have D_piece_text : Df l.prog w K mg base 1 "piece_text" ["word", "ohms"] spPtx := ⟨_, _, ok_ptx F_piece_text, PySem.W.mg_of X G a_piece_text, k_piece_text, b_piece_text⟩
  have F_piece_with_text := fun_mk (st := s_piece_with_text) l_piece_with_text c_piece_with_text k_piece_with_text
  have b_piece_with_text := F_piece_with_text.binds (ps := ["text"]) fun _ _ _ _ _ _ us hl => match us, hl with | [_], _ => rfl
  have D_piece_with_text : Df l.prog w K mg base 2 "piece_with_text" ["text"] spPwt := ⟨_, _, ok_pwt F_piece_with_text T3 D_piece_text, PySem.W.mg_of X G a_piece_with_text, k_piece_with_text, b_piece_with_text⟩
  have F_JoinedRow_init := fun_mk (st := s_JoinedRow_init) l_JoinedRow_init c_JoinedRow_init k_JoinedRow_init
  have b_JoinedRow_init := F_JoinedRow_init.binds (ps := ["self", "row"]) fun _ _ _ _ _ _ us hl => match us, hl with | [_, _], _ => rfl
  have F_Pattern_init := fun_mk (st := s_Pattern_init) l_Pattern_init c_Pattern_init k_Pattern_init
  have F_Pattern_read := fun_mk (st := s_Pattern_read) l_Pattern_read c_Pattern_read k_Pattern_read
  have b_Pattern_read := F_Pattern_read.binds (ps := ["text"]) fun _ _ _ _ _ _ us hl => match us, hl with | [_], _ => rfl
  have F_Pattern_pieces := fun_mk (st := s_Pattern_pieces) l_Pattern_pieces c_Pattern_pieces k_Pattern_pieces
  have b_Pattern_pieces := F_Pattern_pieces.binds (ps := ["self"]) fun _ _ _ _ _ _ us hl => match us, hl with | [_], _ => rfl
  have X_join : JoinD l.prog w K mg base J f_JoinedRow_init _ := ⟨⟨mkJ, a_JoinedRow_init, i_JoinedRow_init, kcJ⟩, ok_join F_JoinedRow_init T3, b_JoinedRow_init⟩
  have X_pat : PatD l.prog w K mg base C J f_Pattern_init := ⟨⟨mkC, a_Pattern_init, i_Pattern_init, kcC⟩, ok_pinit F_Pattern_init T3 D_checked_row D_matrix_and_scale D_lowest_terms⟩
  have OR : OwR l.prog w K mg base C pr_Pattern_read f_Pattern_read _ := ⟨⟨rdC, gaC⟩, ⟨sa_Pattern_read, ⟨_, sc_Pattern_read⟩, k_Pattern_read⟩, ok_read F_Pattern_read T3 X_pat X_join D_piece_with_text, b_Pattern_read⟩
  have OPi : OwPi l.prog w K mg base C pr_Pattern_pieces f_Pattern_pieces _ := ⟨⟨pa_Pattern_pieces, pg_Pattern_pieces, pt_Pattern_pieces, _, pc_Pattern_pieces⟩, ok_pcs F_Pattern_pieces T3, b_Pattern_pieces⟩
  have kC : tyPat K C := fun d => by cases d <;> (simp only [tyN]; assumption)
  have F_check_pattern := fun_mk (st := s_check_pattern) l_check_pattern c_check_pattern k_check_pattern
  have b_check_pattern := F_check_pattern.binds (ps := ["value"]) fun _ _ _ _ _ _ us hl => match us, hl with | [_], _ => rfl
  have D_check_pattern : Df l.prog w K mg base 1 "check_pattern" ["value"] (spChkP C) := ⟨_, _, ok_chkp F_check_pattern T3 I, PySem.W.mg_of X G a_check_pattern, k_check_pattern, b_check_pattern⟩
  have F_is_name := fun_mk (st := s_is_name) l_is_name c_is_name k_is_name
  have b_is_name := F_is_name.binds (ps := ["value"]) fun _ _ _ _ _ _ us hl => match us, hl with | [_], _ => rfl
  have D_is_name : Df l.prog w K mg base 1 "is_name" ["value"] (spNameG K) := ⟨_, _, ok_isname F_is_name T, PySem.W.mg_of X G a_is_name, k_is_name, b_is_name⟩
  have TE : TxF mg (cF [X0, X1, X2, X3, X4, X5, X6, X7, X8, X9, X10, X11, X12, X13, X14, X15, X16, X17]) := { m0 := PySem.W.mg_of X G aX0, m1 := PySem.W.mg_of X G aX1, m2 := PySem.W.mg_of X G aX2, m3 := PySem.W.mg_of X G aX3, m4 := PySem.W.mg_of X G aX4, m5 := PySem.W.mg_of X G aX5, m6 := PySem.W.mg_of X G aX6, m7 := PySem.W.mg_of X G aX7, m8 := PySem.W.mg_of X G aX8, m9 := PySem.W.mg_of X G aX9, m10 := PySem.W.mg_of X G aX10, m11 := PySem.W.mg_of X G aX11, m12 := PySem.W.mg_of X G aX12, m13 := PySem.W.mg_of X G aX13, m14 := PySem.W.mg_of X G aX14, m15 := PySem.W.mg_of X G aX15, m16 := PySem.W.mg_of X G aX16, m17 := PySem.W.mg_of X G aX17 }
  have Z : XK0 K := ⟨cn, ct⟩
  have F_WrongValue_init := fun_mk (st := s_WrongValue_init) l_WrongValue_init c_WrongValue_init k_WrongValue_init
  have b_WrongValue_init := F_WrongValue_init.binds (ps := ["self"]) fun _ _ _ _ _ _ us hl => match us, hl with | [_], _ => rfl
  have B15 : Bi l.prog w K mg base "WrongValue" := ⟨X15, f_WrongValue_init, .type "type", _, PySem.W.mg_of X G aX15, ⟨rd_15, ga_15⟩, fc_15, k_WrongValue_init, ok_WrongValue_init F_WrongValue_init, b_WrongValue_init⟩
  have F_WrongName_init := fun_mk (st := s_WrongName_init) l_WrongName_init c_WrongName_init k_WrongName_init
  have b_WrongName_init := F_WrongName_init.binds (ps := ["self"]) fun _ _ _ _ _ _ us hl => match us, hl with | [_], _ => rfl
  have B16 : Bi l.prog w K mg base "WrongName" := ⟨X16, f_WrongName_init, .type "type", _, PySem.W.mg_of X G aX16, ⟨rd_16, ga_16⟩, fc_16, k_WrongName_init, ok_WrongName_init F_WrongName_init, b_WrongName_init⟩
  have F_NotAPattern_init := fun_mk (st := s_NotAPattern_init) l_NotAPattern_init c_NotAPattern_init k_NotAPattern_init
  have b_NotAPattern_init := F_NotAPattern_init.binds (ps := ["self", "given"]) fun _ _ _ _ _ _ us hl => match us, hl with | [_, _], _ => rfl
  have x0 : XC K X0 := xcB_ok PySem.F.excBase_ValueError PySem.F.store_ValueError xb_0
  have M0 : XM l.prog w K mg base 2 X0 ["self", "given"] (spI K "given") := ⟨x0, f_NotAPattern_init, _, a_NotAPattern_init, i_NotAPattern_init, ok_NotAPattern_init F_NotAPattern_init B15, b_NotAPattern_init, fun y z e => by
    cases e
    exact ⟨fun s us ws _ h1 h2 => match us, h1, ws, h2 with | [_], _, [_], _ => BindsTo.of_eq (fd := PySem.W.fnOf "__init__" "NotAPattern.__init__" (defArgs s_NotAPattern_init) (defBody s_NotAPattern_init) (defScope s_NotAPattern_init) .none kV_NotAPattern_init dc_NotAPattern_init pm_NotAPattern_init an_NotAPattern_init cd_NotAPattern_init ct_NotAPattern_init) rfl, fun r1 r2 => r1.append r2⟩⟩
  have RZ0 : Rz l.prog w K mg base (cF [X0, X1, X2, X3, X4, X5, X6, X7, X8, X9, X10, X11, X12, X13, X14, X15, X16, X17]) 0 "given" := ⟨M0, ty_0, no_0⟩
  have EF0 : EF K (cF [X0, X1, X2, X3, X4, X5, X6, X7, X8, X9, X10, X11, X12, X13, X14, X15, X16, X17]) (cF [X0, X1, X2, X3, X4, X5, X6, X7, X8, X9, X10, X11, X12, X13, X14, X15, X16, X17] 0) 0 := ef_0 x0 ro_0 any_0 no_0
  have F_InvalidName_init := fun_mk (st := s_InvalidName_init) l_InvalidName_init c_InvalidName_init k_InvalidName_init
  have b_InvalidName_init := F_InvalidName_init.binds (ps := ["self", "given"]) fun _ _ _ _ _ _ us hl => match us, hl with | [_, _], _ => rfl
  have x5 : XC K X5 := xcB_ok PySem.F.excBase_ValueError PySem.F.store_ValueError xb_5
  have M5 : XM l.prog w K mg base 2 X5 ["self", "given"] (spI K "given") := ⟨x5, f_InvalidName_init, _, a_InvalidName_init, i_InvalidName_init, ok_InvalidName_init F_InvalidName_init B15, b_InvalidName_init, fun y z e => by
    cases e
    exact ⟨fun s us ws _ h1 h2 => match us, h1, ws, h2 with | [_], _, [_], _ => BindsTo.of_eq (fd := PySem.W.fnOf "__init__" "InvalidName.__init__" (defArgs s_InvalidName_init) (defBody s_InvalidName_init) (defScope s_InvalidName_init) .none kV_InvalidName_init dc_InvalidName_init pm_InvalidName_init an_InvalidName_init cd_InvalidName_init ct_InvalidName_init) rfl, fun r1 r2 => r1.append r2⟩⟩
  have RZ5 : Rz l.prog w K mg base (cF [X0, X1, X2, X3, X4, X5, X6, X7, X8, X9, X10, X11, X12, X13, X14, X15, X16, X17]) 5 "given" := ⟨M5, ty_5, no_5⟩
  have EF5 : EF K (cF [X0, X1, X2, X3, X4, X5, X6, X7, X8, X9, X10, X11, X12, X13, X14, X15, X16, X17]) (cF [X0, X1, X2, X3, X4, X5, X6, X7, X8, X9, X10, X11, X12, X13, X14, X15, X16, X17] 5) 5 := ef_5 x5 ro_5 any_5 no_5
  have F_UnknownName_init := fun_mk (st := s_UnknownName_init) l_UnknownName_init c_UnknownName_init k_UnknownName_init
  have b_UnknownName_init := F_UnknownName_init.binds (ps := ["self", "given"]) fun _ _ _ _ _ _ us hl => match us, hl with | [_, _], _ => rfl
  have x9 : XC K X9 := xcB_ok PySem.F.excBase_LookupError PySem.F.store_LookupError xb_9
  have M9 : XM l.prog w K mg base 2 X9 ["self", "given"] (spI K "given") := ⟨x9, f_UnknownName_init, _, a_UnknownName_init, i_UnknownName_init, ok_UnknownName_init F_UnknownName_init B16, b_UnknownName_init, fun y z e => by
    cases e
    exact ⟨fun s us ws _ h1 h2 => match us, h1, ws, h2 with | [_], _, [_], _ => BindsTo.of_eq (fd := PySem.W.fnOf "__init__" "UnknownName.__init__" (defArgs s_UnknownName_init) (defBody s_UnknownName_init) (defScope s_UnknownName_init) .none kV_UnknownName_init dc_UnknownName_init pm_UnknownName_init an_UnknownName_init cd_UnknownName_init ct_UnknownName_init) rfl, fun r1 r2 => r1.append r2⟩⟩
  have RZ9 : Rz l.prog w K mg base (cF [X0, X1, X2, X3, X4, X5, X6, X7, X8, X9, X10, X11, X12, X13, X14, X15, X16, X17]) 9 "given" := ⟨M9, ty_9, no_9⟩
  have EF9 : EF K (cF [X0, X1, X2, X3, X4, X5, X6, X7, X8, X9, X10, X11, X12, X13, X14, X15, X16, X17]) (cF [X0, X1, X2, X3, X4, X5, X6, X7, X8, X9, X10, X11, X12, X13, X14, X15, X16, X17] 9) 9 := ef_9 x9 ro_9 any_9 no_9
  have F_law_error := fun_mk (st := s_law_error) l_law_error c_law_error k_law_error
  have b_law_error := F_law_error.binds (ps := ["_law_e"]) fun _ _ _ _ _ _ us hl => match us, hl with | [_], _ => rfl
  have D_law_error : DfF l.prog w K mg base 2 "_law_error" ["_law_e"] (spErr K (cF [X0, X1, X2, X3, X4, X5, X6, X7, X8, X9, X10, X11, X12, X13, X14, X15, X16, X17])) := ⟨_, _, ok_errF F_law_error T.toTxt TE Z, PySem.W.mg_of X G a_law_error, k_law_error, b_law_error⟩
  have F_law_told := fun_mk (st := s_law_told) l_law_told c_law_told k_law_told
  have b_law_told := F_law_told.binds (ps := ["_law_act"]) fun _ _ _ _ _ _ us hl => match us, hl with | [_], _ => rfl
  have CG : ToldD l.prog w K mg base (cF [X0, X1, X2, X3, X4, X5, X6, X7, X8, X9, X10, X11, X12, X13, X14, X15, X16, X17]) 1 (rRp K) := ⟨T.toTxt, TE, ⟨_, _, F_law_told, PySem.W.mg_of X G a_law_told⟩, D_law_error, fun Y _ _ e _ _ hg hr => by
    subst e
    exact cr_rpK hg hr.units⟩
  have D_check_patternN : DfN l.prog w K mg base 4 "check_pattern" ["value"] (spChkPN K C X0) := ⟨_, _, ok_chkpN (c := cF [X0, X1, X2, X3, X4, X5, X6, X7, X8, X9, X10, X11, X12, X13, X14, X15, X16, X17]) F_check_pattern T3 TE RZ0 I kC, PySem.W.mg_of X G a_check_pattern, k_check_pattern, b_check_pattern⟩
  have F_Moment_init := fun_mk (st := s_Moment_init) l_Moment_init c_Moment_init k_Moment_init
  have b_Moment_init := F_Moment_init.binds (ps := ["self", "stored", "stated", "before"]) fun _ _ _ _ _ _ us hl => match us, hl with | [_, _, _, _], _ => rfl
  have X_mom : MomD l.prog w K mg base Cm f_Moment_init _ := ⟨⟨mkCm, a_Moment_init, i_Moment_init, kcCm⟩, ok_mom F_Moment_init T, b_Moment_init⟩
  have F_Bench_init := fun_mk (st := s_Bench_init) l_Bench_init c_Bench_init k_Bench_init
  have b_Bench_init := F_Bench_init.binds (ps := ["self"]) fun _ _ _ _ _ _ us hl => match us, hl with | [_], _ => rfl
  have X_ben : BenD l.prog w K mg base C Cb Cm f_Bench_init := ⟨⟨mkCb, a_Bench_init, i_Bench_init, kcCb⟩, fnR_mk (ok_ben F_Bench_init T X_mom) b_Bench_init⟩
  have F_Bench_contains := fun_mk (st := s_Bench_contains) l_Bench_contains c_Bench_contains k_Bench_contains
  have b_Bench_contains := F_Bench_contains.binds (ps := ["self", "x"]) fun _ _ _ _ _ _ us hl => match us, hl with | [_, _], _ => rfl
  have OCn : OwF l.prog w K mg base Cb "__contains__" 1 ["self", "x"] (spCon K C Cb Cm) f_Bench_contains _ := ⟨a_Bench_contains, i_Bench_contains, ok_con F_Bench_contains T, b_Bench_contains⟩
  have F_Bench_len := fun_mk (st := s_Bench_len) l_Bench_len c_Bench_len k_Bench_len
  have b_Bench_len := F_Bench_len.binds (ps := ["self"]) fun _ _ _ _ _ _ us hl => match us, hl with | [_], _ => rfl
  have OLn : OwLen l.prog w K mg base Cb (spLen C Cb Cm) f_Bench_len _ := ⟨nb_Cb, a_Bench_len, i_Bench_len, ok_len F_Bench_len T, b_Bench_len⟩
  have F_Bench_names := fun_mk (st := s_Bench_names) l_Bench_names c_Bench_names k_Bench_names
  have b_Bench_names := F_Bench_names.binds (ps := ["self"]) fun _ _ _ _ _ _ us hl => match us, hl with | [_], _ => rfl
  have ONm : OwPrB l.prog w K mg base Cb "names" (spNms C Cb Cm) pr_Bench_names f_Bench_names _ := ⟨⟨pa_Bench_names, pg_Bench_names, pt_Bench_names, _, pc_Bench_names⟩, ok_nms F_Bench_names T, b_Bench_names⟩
  have F_Bench_claims := fun_mk (st := s_Bench_claims) l_Bench_claims c_Bench_claims k_Bench_claims
  have b_Bench_claims := F_Bench_claims.binds (ps := ["self"]) fun _ _ _ _ _ _ us hl => match us, hl with | [_], _ => rfl
  have OCl : OwPrB l.prog w K mg base Cb "claims" (spCls C Cb Cm) pr_Bench_claims f_Bench_claims _ := ⟨⟨pa_Bench_claims, pg_Bench_claims, pt_Bench_claims, _, pc_Bench_claims⟩, ok_cls F_Bench_claims T, b_Bench_claims⟩
  have F_Bench_changes := fun_mk (st := s_Bench_changes) l_Bench_changes c_Bench_changes k_Bench_changes
  have b_Bench_changes := F_Bench_changes.binds (ps := ["self"]) fun _ _ _ _ _ _ us hl => match us, hl with | [_], _ => rfl
  have OCh : OwPrB l.prog w K mg base Cb "changes" (spChs C Cb Cm) pr_Bench_changes f_Bench_changes _ := ⟨⟨pa_Bench_changes, pg_Bench_changes, pt_Bench_changes, _, pc_Bench_changes⟩, ok_chs F_Bench_changes T, b_Bench_changes⟩
  have F_Bench_change := fun_mk (st := s_Bench_change) l_Bench_change c_Bench_change k_Bench_change
  have b_Bench_change := F_Bench_change.binds (ps := ["self", "stored", "stated"]) fun _ _ _ _ _ _ us hl => match us, hl with | [_, _, _], _ => rfl
  have OCg : OwM l.prog w K mg base Cb "change" 3 ["self", "stored", "stated"] (spChg C Cb Cm) f_Bench_change _ := ⟨⟨a_Bench_change, i_Bench_change, k_Bench_change⟩, ok_chg F_Bench_change T X_mom, b_Bench_change⟩
  have F_Bench_setitem := fun_mk (st := s_Bench_setitem) l_Bench_setitem c_Bench_setitem k_Bench_setitem
  have b_Bench_setitem := F_Bench_setitem.binds (ps := ["self", "at", "worth"]) fun _ _ _ _ _ _ us hl => match us, hl with | [_, _, _], _ => rfl
  have F_Bench_getitem := fun_mk (st := s_Bench_getitem) l_Bench_getitem c_Bench_getitem k_Bench_getitem
  have b_Bench_getitem := F_Bench_getitem.binds (ps := ["self", "at"]) fun _ _ _ _ _ _ us hl => match us, hl with | [_, _], _ => rfl
  have F_Bench_drop := fun_mk (st := s_Bench_drop) l_Bench_drop c_Bench_drop k_Bench_drop
  have b_Bench_drop := F_Bench_drop.binds (ps := ["self", "name"]) fun _ _ _ _ _ _ us hl => match us, hl with | [_, _], _ => rfl
  have OSt : OwI l.prog w K mg base CX0 Cb "__setitem__" 4 ["self", "at", "worth"] (spSet C Cb Cm) f_Bench_setitem _ := ⟨ns_Cb, a_Bench_setitem, fi_set, i_Bench_setitem, ok_set F_Bench_setitem T D_is_name D_check_pattern OCg, b_Bench_setitem⟩
  have OStN : OwI l.prog w K mg base (L2N.CX l.prog w) Cb "__setitem__" 5 ["self", "at", "worth"] (spSetN K C Cb Cm X0 X5) f_Bench_setitem _ := ⟨ns_Cb, a_Bench_setitem, fi_set, i_Bench_setitem, ok_setN (c := cF [X0, X1, X2, X3, X4, X5, X6, X7, X8, X9, X10, X11, X12, X13, X14, X15, X16, X17]) F_Bench_setitem T TE RZ5 D_is_name D_check_patternN, b_Bench_setitem⟩
  have OG : OwI l.prog w K mg base CX0 Cb "__getitem__" 2 ["self", "at"] (spGet C Cb Cm) f_Bench_getitem _ := ⟨ns_Cb, a_Bench_getitem, fi_get, i_Bench_getitem, ok_get F_Bench_getitem T OCn, b_Bench_getitem⟩
  have OGN : OwI l.prog w K mg base (L2N.CX l.prog w) Cb "__getitem__" 4 ["self", "at"] (spGetN K C Cb Cm X9) f_Bench_getitem _ := ⟨ns_Cb, a_Bench_getitem, fi_get, i_Bench_getitem, ok_getN (c := cF [X0, X1, X2, X3, X4, X5, X6, X7, X8, X9, X10, X11, X12, X13, X14, X15, X16, X17]) F_Bench_getitem T TE RZ9 OCn, b_Bench_getitem⟩
  have ODN : OwM' l.prog w K mg base (L2N.CX l.prog w) Cb "drop" 4 ["self", "name"] (spGetN K C Cb Cm X9) f_Bench_drop _ := ⟨⟨a_Bench_drop, i_Bench_drop, k_Bench_drop⟩, ok_dropN (c := cF [X0, X1, X2, X3, X4, X5, X6, X7, X8, X9, X10, X11, X12, X13, X14, X15, X16, X17]) F_Bench_drop T TE RZ9 OCn, b_Bench_drop⟩
  have F_law_cell := fun_mk (st := s_law_cell) l_law_cell c_law_cell k_law_cell
  have b_law_cell := F_law_cell.binds (ps := ["_law_script", "_law_place"]) fun _ _ _ _ _ _ us hl => match us, hl with | [_, _], _ => rfl
  have D_law_cell : Df l.prog w K mg base 1 "_law_cell" ["_law_script", "_law_place"] (spCell K) := ⟨_, _, ok_cell F_law_cell T.toTxt, PySem.W.mg_of X G a_law_cell, k_law_cell, b_law_cell⟩
  have F_law_src := fun_mk (st := s_law_src) l_law_src c_law_src k_law_src
  have b_law_src := F_law_src.binds (ps := ["_law_number"]) fun _ _ _ _ _ _ us hl => match us, hl with | [_], _ => rfl
  have D_law_src : Df l.prog w K mg base 1 "_law_src" ["_law_number"] spSrc := ⟨_, _, ok_src F_law_src T.toTxt, PySem.W.mg_of X G a_law_src, k_law_src, b_law_src⟩
  have F_law_pick := fun_mk (st := s_law_pick) l_law_pick c_law_pick k_law_pick
  have b_law_pick := F_law_pick.binds (ps := ["_law_tape", "_law_many"]) fun _ _ _ _ _ _ us hl => match us, hl with | [_, _], _ => rfl
  have D_law_pick : Df l.prog w K mg base 1 "_law_pick" ["_law_tape", "_law_many"] spDraw := ⟨_, _, ok_draw F_law_pick T.toTxt, PySem.W.mg_of X G a_law_pick, k_law_pick, b_law_pick⟩
  have F_law_anyrow := fun_mk (st := s_law_anyrow) l_law_anyrow c_law_anyrow k_law_anyrow
  have b_law_anyrow := F_law_anyrow.binds (ps := ["_law_tape", "_law_longest"]) fun _ _ _ _ _ _ us hl => match us, hl with | [_, _], _ => rfl
  have D_law_anyrow : Df l.prog w K mg base 2 "_law_anyrow" ["_law_tape", "_law_longest"] spAnyRow := ⟨_, _, ok_anyrow F_law_anyrow T.toTxt D_law_pick, PySem.W.mg_of X G a_law_anyrow, k_law_anyrow, b_law_anyrow⟩
  have D_law_anyrowL : Df l.prog w K mg base 2 "_law_anyrow" ["_law_tape", "_law_longest"] spAnyRowL := ⟨_, _, ok_anyrowL F_law_anyrow T.toTxt D_law_pick, PySem.W.mg_of X G a_law_anyrow, k_law_anyrow, b_law_anyrow⟩
  have F_law_text := fun_mk (st := s_law_text) l_law_text c_law_text k_law_text
  have b_law_text := F_law_text.binds (ps := ["_law_row"]) fun _ _ _ _ _ _ us hl => match us, hl with | [_], _ => rfl
  have D_law_text : Df l.prog w K mg base 1 "_law_text" ["_law_row"] spTx := ⟨_, _, ok_text F_law_text T.toTxt, PySem.W.mg_of X G a_law_text, k_law_text, b_law_text⟩
  have F_law_pat := fun_mk (st := s_law_pat) l_law_pat c_law_pat k_law_pat
  have b_law_pat := F_law_pat.binds (ps := ["_law_row"]) fun _ _ _ _ _ _ us hl => match us, hl with | [_], _ => rfl
  have D_law_pat : Df l.prog w K mg base 8 "_law_pat" ["_law_row"] (spPat C) := ⟨_, _, ok_pat F_law_pat T3 OR D_law_text, PySem.W.mg_of X G a_law_pat, k_law_pat, b_law_pat⟩
  have F_law_is_name := fun_mk (st := s_law_is_name) l_law_is_name c_law_is_name k_law_is_name
  have b_law_is_name := F_law_is_name.binds (ps := ["_law_thing"]) fun _ _ _ _ _ _ us hl => match us, hl with | [_], _ => rfl
  have D_law_is_name : Df l.prog w K mg base 1 "_law_is_name" ["_law_thing"] (spNameG K) := ⟨_, _, ok_lisname F_law_is_name T, PySem.W.mg_of X G a_law_is_name, k_law_is_name, b_law_is_name⟩
  have F_law_anyword := fun_mk (st := s_law_anyword) l_law_anyword c_law_anyword k_law_anyword
  have b_law_anyword := F_law_anyword.binds (ps := ["_law_tape", "_law_known"]) fun _ _ _ _ _ _ us hl => match us, hl with | [_, _], _ => rfl
  have D_law_anyword : Df l.prog w K mg base 2 "_law_anyword" ["_law_tape", "_law_known"] spAnyword := ⟨_, _, ok_anyword F_law_anyword T.toTxt D_law_pick, PySem.W.mg_of X G a_law_anyword, k_law_anyword, b_law_anyword⟩
  have F_law_anything := fun_mk (st := s_law_anything) l_law_anything c_law_anything k_law_anything
  have b_law_anything := F_law_anything.binds (ps := ["_law_tape"]) fun _ _ _ _ _ _ us hl => match us, hl with | [_], _ => rfl
  have D_law_anything : Df l.prog w K mg base 2 "_law_anything" ["_law_tape"] spAnything := ⟨_, _, ok_anything F_law_anything D_law_pick, PySem.W.mg_of X G a_law_anything, k_law_anything, b_law_anything⟩
  have F_law_put := fun_mk (st := s_law_put) l_law_put c_law_put k_law_put
  have b_law_put := F_law_put.binds (ps := ["_law_desk", "_law_word", "_law_made"]) fun _ _ _ _ _ _ us hl => match us, hl with | [_, _, _], _ => rfl
  have D_law_put : Df l.prog w K mg base 6 "_law_put" ["_law_desk", "_law_word", "_law_made"] (spSet C Cb Cm) := ⟨_, _, ok_put F_law_put OSt, PySem.W.mg_of X G a_law_put, k_law_put, b_law_put⟩
  have D_law_putN : DfN l.prog w K mg base 7 "_law_put" ["_law_desk", "_law_word", "_law_made"] (spSetN K C Cb Cm X0 X5) := ⟨_, _, ok_putN (c := cF [X0, X1, X2, X3, X4, X5, X6, X7, X8, X9, X10, X11, X12, X13, X14, X15, X16, X17]) F_law_put OStN, PySem.W.mg_of X G a_law_put, k_law_put, b_law_put⟩
  have F_law_state_right := fun_mk (st := s_law_state_right) l_law_state_right c_law_state_right k_law_state_right
  have b_law_state_right := F_law_state_right.binds (ps := ["_law_desk", "_law_kept", "_law_many"]) fun _ _ _ _ _ _ us hl => match us, hl with | [_, _, _], _ => rfl
  have D_law_state_right : DfG l.prog w K mg base 5 "_law_state_right" ["_law_desk", "_law_kept", "_law_many"] (spSt C Cb Cm) := ⟨_, _, ok_state F_law_state_right T ONm OCl OCh OPi OLn OCn OG, PySem.W.mg_of X G a_law_state_right, k_law_state_right, b_law_state_right⟩
  have F_law_refused_right := fun_mk (st := s_law_refused_right) l_law_refused_right c_law_refused_right k_law_refused_right
  have b_law_refused_right := F_law_refused_right.binds (ps := ["_law_desk", "_law_kept", "_law_tape"]) fun _ _ _ _ _ _ us hl => match us, hl with | [_, _, _], _ => rfl
  have F_law_right := fun_mk (st := s_law_right) l_law_right c_law_right k_law_right
  have b_law_right := F_law_right.binds (ps := ["_law_tape"]) fun _ _ _ _ _ _ us hl => match us, hl with | [_], _ => rfl
  have D_law_refused_right : DfG l.prog w K mg base 12 "_law_refused_right" ["_law_desk", "_law_kept", "_law_tape"] (spRefB C Cb Cm [(PA_law_refused_right, ("_law_refused_right" : Str) ++ ".<locals>.<lambda>"), (PA_law_right, ("_law_right" : Str) ++ ".<locals>.<lambda>"), (PA_law, ("law" : Str) ++ ".<locals>.<lambda>")]) := ⟨_, _, ok_refB (c := cF [X0, X1, X2, X3, X4, X5, X6, X7, X8, X9, X10, X11, X12, X13, X14, X15, X16, X17]) FC_law_refused_right T CG EF0 EF5 EF9 TB_law_refused_right TM_law_refused_right TU_law_refused_right D_law_pick D_law_anyrowL D_law_pat D_law_anything D_law_is_name D_law_putN OGN ODN OPi OCn OG, PySem.W.mg_of X G a_law_refused_right, k_law_refused_right, b_law_refused_right⟩
  have D_law_right : DfG l.prog w K mg base 14 "_law_right" ["_law_tape"] (spRight [(PA_law_refused_right, ("_law_refused_right" : Str) ++ ".<locals>.<lambda>"), (PA_law_right, ("_law_right" : Str) ++ ".<locals>.<lambda>"), (PA_law, ("law" : Str) ++ ".<locals>.<lambda>")]) := ⟨_, _, ok_right (c := cF [X0, X1, X2, X3, X4, X5, X6, X7, X8, X9, X10, X11, X12, X13, X14, X15, X16, X17]) FC_law_right T CG X_ben TB_law_right TM_law_right TU_law_right D_law_pick D_law_anyrowL D_law_anyword D_law_pat D_law_put D_law_state_right D_law_refused_right, PySem.W.mg_of X G a_law_right, k_law_right, b_law_right⟩
  exact ok_law FC_law T D_law_cell D_law_src D_law_right
end RL

set_option maxHeartbeats 2000000
/-! Heads by facts for laws with makers: the top runs once in the kernel; what is told of the part K is a list of Bools and a list of functions. -/
namespace RL
open PySem PySem.Spec PyProof.Rows L2 He
/-! ### Bools -/
theorem intB_ok {x : Str} {i : Int} {K : PySem.W.Frag} (h : intB x i K = true) : ∃ t, PySem.W.nsIn K mainGlobals x = some (some (.int i t)) := by
  unfold intB at h
  split at h
  · next j t e => exact ⟨t, by rw [e, of_decide_eq_true h]⟩
  · cases h
def dB {α : Type} [DecidableEq α] (a b : PySem.W.Frag → α) (K : PySem.W.Frag) : Bool := decide (a K = b K)
theorem recB_ok {a f : Ad} {s : String} {K : PySem.W.Frag} (h : recB a f s K = true) : ∃ rest, PySem.W.recIn K (a K) s = some (.ref (f K) :: rest) := by
  unfold recB at h
  split at h
  · next g r e => exact ⟨r, by rw [e, of_decide_eq_true h]⟩
  · cases h
theorem fnV_ok {f : Ad} {n q : Str} {st : Stmt} {K : PySem.W.Frag} (e : fnV f K = (DnH.mk f n q st).val) (c : codeB f q K = true) :
    ∃ oc od osl kV doc pm an cdv ct, K.lookup (f K) = some ⟨oc, od, .func (PySem.W.fnOf n q (defArgs st) (defBody st) (defScope st) .none kV doc pm an cdv ct), osl⟩ ∧ PySem.W.codeIn K cdv q = true := by
  unfold codeB at c
  unfold fnV DnH.val at e
  cases h : K.lookup (f K) with
  | none =>
    rw [h] at c
    cases c
  | some o =>
    obtain ⟨oc, od, dt, osl⟩ := o
    rw [h] at c e
    cases dt with
    | func fd =>
      obtain ⟨n1, n2, n3, n4, n5, n6, n7, n8, n9, n10, n11, n12, n13, n14, n15⟩ := fd
      have e2 : (some (n1, n2, n3, n4, n5, n6, n7, n8, n15) : FnV) = some (n, q, defArgs st, .stmts (defBody st), defScope st, mainGlobals, [], .none, builtinsNs) := e
      simp only [Option.some.injEq, Prod.mk.injEq] at e2
      obtain ⟨h1, h2, h3, h4, h5, h6, h7, h8, h9⟩ := e2
      subst h1 h2 h3 h4 h5 h6 h7 h8 h9
      exact ⟨oc, od, osl, n9, n10, n11, n12, n13, n14, rfl, c⟩
    | _ => cases c
theorem tup2i_ok {a : Ad} {i j : Int} {K : PySem.W.Frag} (h : tup2i a i j K = true) : ∃ od k0 k1 nn sl, K.lookup (a K) = some ⟨.type "tuple", od, .seq #[.int i k0, .int j k1] nn, sl⟩ := by
  unfold tup2i at h
  split at h
  · next t od vs nn sl e =>
    obtain ⟨h1, h2⟩ := ba h
    split at h2
    · next x k0 y k1 ev =>
      obtain ⟨h3, h4⟩ := ba h2
      have h1 := of_decide_eq_true h1
      have h3 := of_decide_eq_true h3
      have h4 := of_decide_eq_true h4
      subst h1 h3 h4
      have : vs = #[.int x k0, .int y k1] := Array.toList_inj.mp ev
      subst this
      exact ⟨od, k0, k1, nn, sl, e⟩
    · cases h2
  · cases h
theorem tup2s_ok {a : Ad} {i j : Str} {K : PySem.W.Frag} (h : tup2s a i j K = true) : ∃ od k0 k1 nn sl, K.lookup (a K) = some ⟨.type "tuple", od, .seq #[.str i k0, .str j k1] nn, sl⟩ := by
  unfold tup2s at h
  split at h
  · next t od vs nn sl e =>
    obtain ⟨h1, h2⟩ := ba h
    split at h2
    · next x k0 y k1 ev =>
      obtain ⟨h3, h4⟩ := ba h2
      have h1 := of_decide_eq_true h1
      have h3 := of_decide_eq_true h3
      have h4 := of_decide_eq_true h4
      subst h1 h3 h4
      have : vs = #[.str x k0, .str y k1] := Array.toList_inj.mp ev
      subst this
      exact ⟨od, k0, k1, nn, sl, e⟩
    · cases h2
  · cases h
theorem smB_ok {a p : Ad} {m : Str} {K : PySem.W.Frag} (h : smB a p m K = true) : PySem.W.findCls K (.ref (a K)) (.type "type") m = some (.get (.builtin "staticmethod.__get__") (.ref (p K)) .none (.ref (a K))) := by
  unfold smB at h
  split at h
  · next g q z c e =>
    obtain ⟨h1, h2⟩ := ba h
    obtain ⟨h3, h4⟩ := ba h2
    obtain ⟨h5, h6⟩ := ba h4
    rw [e, of_decide_eq_true h1, of_decide_eq_true h3, of_decide_eq_true h5, of_decide_eq_true h6]
  · cases h
theorem clvB_ok {a f : Ad} {m : Str} {K : PySem.W.Frag} (h : clvB a f m K = true) : PySem.W.findCls K (.ref (a K)) (.type "type") m = some (.val (.ref (f K))) := by
  unfold clvB at h
  split at h
  · next q e => rw [e, of_decide_eq_true h]
  · cases h
/-! ### a maker's code object -/
theorem cd_ok {f : Ad} {K : PySem.W.Frag} {oc : Value} {od : Option Addr} {osl : Array (Option Value)} {fd : FuncData} {q : Str} (h : K.lookup (f K) = some ⟨oc, od, .func fd, osl⟩) (c : PySem.W.codeIn K fd.code q = true) : fd.code = .ref (cdA f K) := by
  obtain ⟨b, e⟩ := codeIn_ref c
  have : cdA f K = b := by
    unfold cdA
    rw [h]
    dsimp only
    rw [e]
  rw [e, this]
theorem hd_ok {c P : Addr} {K : PySem.W.Frag} (h : PySem.W.codeHdIn K c P = true) : ∃ dC vC sC, K.lookup c = some ⟨.type "code", dC, .fields vC, sC⟩ ∧ (vC[11]? : Option Value) = some (.ref P) := by
  unfold PySem.W.codeHdIn at h
  split at h
  · next dC vs sC hk =>
    simp only [Bool.and_eq_true] at h
    obtain ⟨⟨⟨⟨⟨h1, _⟩, _⟩, _⟩, _⟩, _⟩ := h
    refine ⟨dC, vs, sC, hk, ?_⟩
    split at h1
    · next P' e =>
      have : P' = P := by simpa using h1
      rw [e, this]
    · cases h1
  · cases h
/-! ### the Hook -/
structure SaysZ (fn : List DnH) (tf : List Ad) (ex : List (PySem.W.Frag → Bool)) (h : Heap) (K : PySem.W.Frag) : Prop where
  fns : fn.map (fun d => fnV d.at_ K) = fn.map DnH.val
  more : (ex.all fun e => e K) = true
  hd : ∀ p ∈ tf, PySem.W.codeHdIn K (cdA p K) (tbA (cdA p) K) = true
  out : ∀ p ∈ tf, K.lookup (tbA (cdA p) K) = none
  empty : ∀ p ∈ tf, h.get? (tbA (cdA p) K) = some { cls := .none, data := .fields #[] }
theorem saysZ_of {n : List Addr} {fn : List DnH} {tf : List Ad} {ex : List (PySem.W.Frag → Bool)} {h : Heap} (e : obsZ n fn tf ex h.get? = valZ fn) : SaysZ fn tf ex h (frT h.get? n) := by
  have e1 : fn.map (fun d => fnV d.at_ (frT h.get? n)) = fn.map DnH.val := congrArg (fun z : AlZ => z.1) e
  have h1 : (ex.all fun e => e (frT h.get? n)) = true := congrArg (fun z : AlZ => z.2.1) e
  have h2 : tabsZ h.get? tf (frT h.get? n) = true := congrArg (fun z : AlZ => z.2.2) e
  have key : ∀ p ∈ tf, PySem.W.codeHdIn (frT h.get? n) (cdA p (frT h.get? n)) (tbA (cdA p) (frT h.get? n)) = true ∧ ∃ o, h.get? (tbA (cdA p) (frT h.get? n)) = some o ∧ emptyTab o = true := fun p hp => by
    obtain ⟨h3, h4⟩ := ba (List.all_eq_true.mp h2 p hp)
    refine ⟨h3, ?_⟩
    cases q : h.get? (tbA (cdA p) (frT h.get? n)) with
    | none =>
      rw [q] at h4
      cases h4
    | some o =>
      rw [q] at h4
      exact ⟨o, rfl, h4⟩
  exact ⟨e1, h1, fun p hp => (key p hp).1, fun p hp => by
    obtain ⟨_, o, q, z⟩ := key p hp
    exact frT_none q z, fun p hp => by
    obtain ⟨_, o, q, z⟩ := key p hp
    rw [q, emptyTab_eq z]⟩
def hookZ (n : List Addr) (fn : List DnH) (tf : List Ad) (ex : List (PySem.W.Frag → Bool)) : PySem.W.Hook where
  α := AlZ
  obs := fun s => obsZ n fn tf ex s.heap.get?
  val := fun _ => valZ fn
  says := fun _ h => ∃ K : PySem.W.Frag, K.In h ∧ SaysZ fn tf ex h K
  of := fun _ _ e => ⟨_, frT_in, saysZ_of e⟩
  keeps := fun _ _ _ ⟨K, hK, c⟩ k => ⟨K, PySem.W.Frag.In.keeps hK k, ⟨c.fns, c.more, c.hd, c.out, fun p hp => k _ _ (c.empty p hp)⟩⟩
section
variable {fn : List DnH} {tf : List Ad} {ex : List (PySem.W.Frag → Bool)} {h : Heap} {K : PySem.W.Frag}
theorem SaysZ.fact (c : SaysZ fn tf ex h K) (i : Nat) {f : PySem.W.Frag → Bool} (e : ex[i]? = some f := by rfl) : f K = true := List.all_eq_true.mp c.more f (List.mem_of_getElem? e)
theorem SaysZ.defn (c : SaysZ fn tf ex h K) (i : Nat) {d : DnH} (e : fn[i]? = some d := by rfl) : fnV d.at_ K = d.val := by
  have q := congrArg (fun z => z[i]?) c.fns
  simp only [List.getElem?_map, e, Option.map_some] at q
  exact Option.some.inj q
theorem SaysZ.tab (c : SaysZ fn tf ex h K) (i : Nat) {p : Ad} (e : tf[i]? = some p := by rfl) : PySem.W.codeHdIn K (cdA p K) (tbA (cdA p) K) = true ∧ K.lookup (tbA (cdA p) K) = none ∧ h.get? (tbA (cdA p) K) = some (PySem.W.tabObj #[]) :=
  ⟨c.hd p (List.mem_of_getElem? e), c.out p (List.mem_of_getElem? e), c.empty p (List.mem_of_getElem? e)⟩
end
theorem walk_ofZ {l : PySem.W.OpenLaw} {n k : Nat} {q : Program} {loose : List Str} {XP : (Str → Option Value) → Heap → Prop} {YP : World → Heap → Prop} {d : DefRec} {x : Str}
    (hn : l.most = some n) (hn2 : n ≤ sizeLine) (hdf : d.params.defaults = []) (hr : Room k callerA)
    (F : ∀ (w : World) (mg : Str → Option Value) (fa : Addr) (h : Heap), YP w h → h.Ns mainGlobals mg → mg d.name = some (.ref fa) → ∃ K : PySem.W.Frag, K.In h ∧ LawT l w K k n x mg fa h) :
    PySem.W.WalkO q loose XP YP l.row.toRowW d [] (fun f vs => PySem.call f vs) := by
  refine Att.attach_call hn hdf fun w s0 s1 mg mb fa o pm cd doc a vs ns G Y ho hd hcd hmg hobj hints hlen hgen => ?_
  obtain ⟨K, KX, fd, cs, sp, hT, nT, hC, hb, hsp, hF⟩ := F w mg fa _ Y G.T.g hmg
  have rv := vals_ints hints
  have hl : ns.length ≤ sizeLine := Nat.le_trans hlen hn2
  have lenV := hints.length
  have nat : ∀ p ∈ cs, p.2 ≠ a := fun p hp z => by
    have q := hT p hp
    rw [z, hobj] at q
    have z' : Data.seq vs.toArray _ = Data.fields #[] := congrArg Obj.data (Option.some.inj q)
    cases z'
  cases hk : K.lookup a with
  | some ob =>
    have e := KX a ob hk
    rw [hobj] at e
    cases e
    exact law_runT (xs := []) (sc := none) KX G.T.g G.T.b G.T.builtins G.T.nolimit hgen hT nT hC G.T.bmain hobj hr hF hb (.inl rfl) (fun u z => by cases z)
      (hsp _ a ns hlen (fun p hp => startH_t (List.mem_map.mpr ⟨p, hp, rfl⟩) (nat p hp)) (.inr ⟨_, vs.toArray, _, hk, rfl, rfl, rfl, by rw [List.size_toArray, lenV]; exact hl, by simpa using rv⟩))
  | none =>
    exact law_runT (xs := ns.map V.int) (sc := some (.frz { cls := .type "list", data := .seq vs.toArray } (.lst (ns.map V.int)))) KX G.T.g G.T.b G.T.builtins G.T.nolimit hgen hT nT hC G.T.bmain hobj hr hF hb (.inr ⟨hk, rfl⟩)
      (fun u z => by cases z; exact ⟨hobj, by rw [List.length_map]; exact hl, vs, _, rv, hobj⟩) (hsp _ a ns hlen (fun p hp => startH_t (List.mem_map.mpr ⟨p, hp, rfl⟩) (nat p hp)) (.inl (.inr ⟨_, startH_a⟩)))
end RL

set_option maxHeartbeats 2000000
/-! Heads by facts, with tables of texts (dicts at top level): what they hold depends on the world's hashes. -/
namespace RL
open PySem PySem.Spec PyProof.Rows L2 He
structure SaysW (fn : List DnH) (tf : List Ad) (ex : List (PySem.W.Frag → Bool)) (ts : List Tz) (w : World) (h : Heap) (K : PySem.W.Frag) : Prop where
  z : SaysZ fn tf ex h K
  d : ts.map (fun t => dicW K (t.1 K)) = ts.map fun t => some (keysIn w.params t.2)
def hookW (n : List Addr) (fn : List DnH) (tf : List Ad) (ex : List (PySem.W.Frag → Bool)) (ts : List Tz) : PySem.W.Hook where
  α := AlW
  obs := fun s => obsW n fn tf ex ts s.heap.get?
  val := fun w => valW fn ts w
  says := fun w h => ∃ K : PySem.W.Frag, K.In h ∧ SaysW fn tf ex ts w h K
  of := fun _ _ e => ⟨_, frT_in, saysZ_of (congrArg (fun z : AlW => z.1) e), congrArg (fun z : AlW => z.2) e⟩
  keeps := fun _ _ _ ⟨K, hK, c⟩ k => ⟨K, PySem.W.Frag.In.keeps hK k, ⟨c.z.fns, c.z.more, c.z.hd, c.z.out, fun p hp => k _ _ (c.z.empty p hp)⟩, c.d⟩
theorem obsW_eq {n : List Addr} {fn : List DnH} {tf : List Ad} {ex : List (PySem.W.Frag → Bool)} {ts : List Tz} {g : Addr → Option Obj} {s : Shared} (h : ∀ a, g a = s.heap.get? a) : obsW n fn tf ex ts g = (hookW n fn tf ex ts).obs s := by
  have e : g = s.heap.get? := funext h
  rw [e] <;> rfl
end RL

set_option maxHeartbeats 0
namespace RL
open PySem PySem.Spec PyProof.Rows L2 He
def A_cA_law_refused_right : Ad := cdA A_f_law_refused_right
def A_cA_law_right : Ad := cdA A_f_law_right
def A_cA_law : Ad := cdA A_f_law
abbrev hkH : PySem.W.Hook := hookW asL fnL tfL exL tsL
theorem obH_eq (s : PySem.W.SharedT) : obH s = hkH.obs s.abs := obsW_eq (HandSHeadRun.getT_eq s)
theorem ob_two (s : PySem.W.SharedT) : (obH s).1.2 = (obA s && (obB s).1, (obB s).2) := by
  have e : (exA ++ exB).all (fun e => e (frT (HandSHeadRun.getT s) asL)) = (exA.all (fun e => e (frT (HandSHeadRun.getT s) asL)) && exB.all fun e => e (frT (HandSHeadRun.getT s) asL)) := List.all_append
  exact Prod.ext e rfl
theorem follow_all {p : World → Prop} (f : ∀ w : World, p (w.withFollow rowS false)) (t : ∀ w : World, p (w.withFollow rowS true)) (w : World) : p w := by
  have e := World.withFollow_self w rowS
  cases hb : w.params.followText rowS with
  | false =>
    rw [hb] at e
    rw [← e]
    exact f w
  | true =>
    rw [hb] at e
    rw [← e]
    exact t w
theorem runH (w : World) : HandSHeadRun.RunEq rwH qH hkH obH 14000 loL w := by
  intro os
  have hA := follow_all (p := PqA) pAF pAT w os
  have hB := follow_all (p := PqB) pBF pBT w os
  have hC := follow_all (p := PqC) pCF pCT w os
  have hD := follow_all (p := PqD) pDF pDT w os
  have hE := follow_all (p := PqE) pEF pET w os
  show (GH w os).map _ = _
  generalize GH w os = g at hA hB hC hD hE ⊢
  cases g with
  | none => cases hA
  | some s =>
    have e0 := Prod.mk.inj (Option.some.inj hA)
    have e1 := Option.some.inj hB
    have e2 := Option.some.inj hC
    have e3 := Option.some.inj hD
    have e4 := Option.some.inj hE
    have e5 := ob_two s
    rw [e3, e4] at e5
    show some (_, _, obH s) = some (_, _, valW fnL tsL w)
    refine congrArg some (Prod.ext e0.1 (Prod.ext e1 (Prod.ext (Prod.ext e2 e5) e0.2)))
theorem factsH {w : World} {K : PySem.W.Frag} {h : Heap} {mg : Str → Option Value} {fa : Addr} (X : K.In h) (G : h.Ns mainGlobals mg) (hmg : mg "law" = some (.ref fa)) (cw : SaysW fnL tfL exL tsL w h K) : LawT PySem.Challenge.rw_rungladders_k61_patterns_under_names w K 15 63 "_law_script" mg fa h := by
  have c := cw.z
  obtain ⟨tG, aG⟩ := intB_ok (x := "GREATEST") (i := 1000000000000) (c.fact 0 (f := e0) rfl)
  obtain ⟨t1, aOh⟩ := intB_ok (x := "MOST_OHMS") (i := 12) (c.fact 1 (f := e1) rfl)
  obtain ⟨t3, aJo⟩ := intB_ok (x := "MOST_JOINED") (i := 8) (c.fact 2 (f := e2) rfl)
  have aOp : PySem.W.nsIn K mainGlobals "OPEN" = some (some (.ref (A_aO K))) := of_decide_eq_true (c.fact 3 (f := e3) rfl)
  obtain ⟨od_aO, aO_k0, aO_k1, nn_aO, sl_aO, laOp⟩ := tup2i_ok (a := A_aO) (i := 1) (j := 0) (c.fact 4 (f := e4) rfl)
  have aWo : PySem.W.nsIn K mainGlobals "WORDS" = some (some (.ref (A_aW K))) := of_decide_eq_true (c.fact 5 (f := e5) rfl)
  obtain ⟨od_aW, aW_k0, aW_k1, nn_aW, sl_aW, laWo⟩ := tup2s_ok (a := A_aW) (i := (Str.ofString "rail")) (j := (Str.ofString "rung")) (c.fact 6 (f := e6) rfl)
  obtain ⟨tLo, aLo⟩ := intB_ok (x := "LONGEST_NAME") (i := 8) (c.fact 7 (f := e7) rfl)
  obtain ⟨tLe, aLe⟩ := strG_ok (x := "LETTERS") (v := lettersS) (c.fact 8 (f := e8) rfl)
  have z_len : PySem.W.nsIn K mainGlobals "len" = some none := of_decide_eq_true (c.fact 9 (f := e9) rfl)
  have z_abs : PySem.W.nsIn K mainGlobals "abs" = some none := of_decide_eq_true (c.fact 10 (f := e10) rfl)
  have z_int : PySem.W.nsIn K mainGlobals "int" = some none := of_decide_eq_true (c.fact 11 (f := e11) rfl)
  have z_bool : PySem.W.nsIn K mainGlobals "bool" = some none := of_decide_eq_true (c.fact 12 (f := e12) rfl)
  have z_tuple : PySem.W.nsIn K mainGlobals "tuple" = some none := of_decide_eq_true (c.fact 13 (f := e13) rfl)
  have z_isinstance : PySem.W.nsIn K mainGlobals "isinstance" = some none := of_decide_eq_true (c.fact 14 (f := e14) rfl)
  have z_divmod : PySem.W.nsIn K mainGlobals "divmod" = some none := of_decide_eq_true (c.fact 15 (f := e15) rfl)
  have z_max : PySem.W.nsIn K mainGlobals "max" = some none := of_decide_eq_true (c.fact 16 (f := e16) rfl)
  have z_min : PySem.W.nsIn K mainGlobals "min" = some none := of_decide_eq_true (c.fact 17 (f := e17) rfl)
  have z_range : PySem.W.nsIn K mainGlobals "range" = some none := of_decide_eq_true (c.fact 18 (f := e18) rfl)
  have z_all : PySem.W.nsIn K mainGlobals "all" = some none := of_decide_eq_true (c.fact 19 (f := e19) rfl)
  have z_repr : PySem.W.nsIn K mainGlobals "repr" = some none := of_decide_eq_true (c.fact 20 (f := e20) rfl)
  have z_str : PySem.W.nsIn K mainGlobals "str" = some none := of_decide_eq_true (c.fact 21 (f := e21) rfl)
  have z_enumerate : PySem.W.nsIn K mainGlobals "enumerate" = some none := of_decide_eq_true (c.fact 22 (f := e22) rfl)
  have z_list : PySem.W.nsIn K mainGlobals "list" = some none := of_decide_eq_true (c.fact 23 (f := e23) rfl)
  have z_sorted : PySem.W.nsIn K mainGlobals "sorted" = some none := of_decide_eq_true (c.fact 24 (f := e24) rfl)
  have z_dict : PySem.W.nsIn K mainGlobals "dict" = some none := of_decide_eq_true (c.fact 25 (f := e25) rfl)
  have aCm : PySem.W.nsIn K mainGlobals "Moment" = some (some (.ref (A_Cm K))) := of_decide_eq_true (c.fact 26 (f := e26) rfl)
  have pgCm : PySem.W.plainGet K (A_Cm K) Str.empty = true := (c.fact 27 (f := e27) rfl)
  have hdCm : PySem.W.hasDictIn K (A_Cm K) = true := (c.fact 28 (f := e28) rfl)
  have poCm : PySem.W.plainOver K (A_Cm K) = true := (c.fact 29 (f := e29) rfl)
  have saCm : PySem.W.findIn K (.ref (A_Cm K)) "__setattr__" = some (some (.builtin "object.__setattr__")) := of_decide_eq_true (c.fact 30 (f := e30) rfl)
  have mkCm : PySem.W.makesIn K (A_Cm K) = true := (c.fact 31 (f := e31) rfl)
  have kcCm : PySem.W.keepIn K (.ref (A_Cm K)) = true := (c.fact 32 (f := e32) rfl)
  have nCm_stored : PySem.W.findIn K (.ref (A_Cm K)) "stored" = some none := of_decide_eq_true (c.fact 33 (f := e33) rfl)
  have nCm_stated : PySem.W.findIn K (.ref (A_Cm K)) "stated" = some none := of_decide_eq_true (c.fact 34 (f := e34) rfl)
  have nCm_before : PySem.W.findIn K (.ref (A_Cm K)) "before" = some none := of_decide_eq_true (c.fact 35 (f := e35) rfl)
  have nCm_depth : PySem.W.findIn K (.ref (A_Cm K)) "depth" = some none := of_decide_eq_true (c.fact 36 (f := e36) rfl)
  have aCb : PySem.W.nsIn K mainGlobals "Bench" = some (some (.ref (A_Cb K))) := of_decide_eq_true (c.fact 37 (f := e37) rfl)
  have pgCb : PySem.W.plainGet K (A_Cb K) Str.empty = true := (c.fact 38 (f := e38) rfl)
  have hdCb : PySem.W.hasDictIn K (A_Cb K) = true := (c.fact 39 (f := e39) rfl)
  have poCb : PySem.W.plainOver K (A_Cb K) = true := (c.fact 40 (f := e40) rfl)
  have saCb : PySem.W.findIn K (.ref (A_Cb K)) "__setattr__" = some (some (.builtin "object.__setattr__")) := of_decide_eq_true (c.fact 41 (f := e41) rfl)
  have mkCb : PySem.W.makesIn K (A_Cb K) = true := (c.fact 42 (f := e42) rfl)
  have kcCb : PySem.W.keepIn K (.ref (A_Cb K)) = true := (c.fact 43 (f := e43) rfl)
  have nCb_present : PySem.W.findIn K (.ref (A_Cb K)) "present" = some none := of_decide_eq_true (c.fact 44 (f := e44) rfl)
  have ns_Cb : PySem.W.noSeq K (A_Cb K) = true := (c.fact 45 (f := e45) rfl)
  have nb_Cb : PySem.W.findIn K (.ref (A_Cb K)) "__bool__" = some none := of_decide_eq_true (c.fact 46 (f := e46) rfl)
  have a_is_integer : PySem.W.nsIn K mainGlobals "is_integer" = some (some (.ref (A_f_is_integer K))) := of_decide_eq_true (c.fact 47 (f := e47) rfl)
  obtain ⟨oc_is_integer, od_is_integer, sl_is_integer, kV_is_integer, dc_is_integer, pm_is_integer, an_is_integer, cd_is_integer, ct_is_integer, l_is_integer, c_is_integer⟩ := fnV_ok (f := A_f_is_integer) (n := "is_integer") (q := "is_integer") (st := s_is_integer) (c.defn 0 (d := d0) rfl) (c.fact 48 (f := e48) rfl)
  have k_is_integer : PySem.W.keepIn K (.ref (A_f_is_integer K)) = true := (c.fact 49 (f := e49) rfl)
  have a_is_integer_within : PySem.W.nsIn K mainGlobals "is_integer_within" = some (some (.ref (A_f_is_integer_within K))) := of_decide_eq_true (c.fact 50 (f := e50) rfl)
  obtain ⟨oc_is_integer_within, od_is_integer_within, sl_is_integer_within, kV_is_integer_within, dc_is_integer_within, pm_is_integer_within, an_is_integer_within, cd_is_integer_within, ct_is_integer_within, l_is_integer_within, c_is_integer_within⟩ := fnV_ok (f := A_f_is_integer_within) (n := "is_integer_within") (q := "is_integer_within") (st := s_is_integer_within) (c.defn 1 (d := d1) rfl) (c.fact 51 (f := e51) rfl)
  have k_is_integer_within : PySem.W.keepIn K (.ref (A_f_is_integer_within K)) = true := (c.fact 52 (f := e52) rfl)
  have a_is_piece : PySem.W.nsIn K mainGlobals "is_piece" = some (some (.ref (A_f_is_piece K))) := of_decide_eq_true (c.fact 53 (f := e53) rfl)
  obtain ⟨oc_is_piece, od_is_piece, sl_is_piece, kV_is_piece, dc_is_piece, pm_is_piece, an_is_piece, cd_is_piece, ct_is_piece, l_is_piece, c_is_piece⟩ := fnV_ok (f := A_f_is_piece) (n := "is_piece") (q := "is_piece") (st := s_is_piece) (c.defn 2 (d := d2) rfl) (c.fact 54 (f := e54) rfl)
  have k_is_piece : PySem.W.keepIn K (.ref (A_f_is_piece K)) = true := (c.fact 55 (f := e55) rfl)
  have a_pair_of : PySem.W.nsIn K mainGlobals "pair_of" = some (some (.ref (A_f_pair_of K))) := of_decide_eq_true (c.fact 56 (f := e56) rfl)
  obtain ⟨oc_pair_of, od_pair_of, sl_pair_of, kV_pair_of, dc_pair_of, pm_pair_of, an_pair_of, cd_pair_of, ct_pair_of, l_pair_of, c_pair_of⟩ := fnV_ok (f := A_f_pair_of) (n := "pair_of") (q := "pair_of") (st := s_pair_of) (c.defn 3 (d := d3) rfl) (c.fact 57 (f := e57) rfl)
  have k_pair_of : PySem.W.keepIn K (.ref (A_f_pair_of K)) = true := (c.fact 58 (f := e58) rfl)
  have a_common_divisor : PySem.W.nsIn K mainGlobals "common_divisor" = some (some (.ref (A_f_common_divisor K))) := of_decide_eq_true (c.fact 59 (f := e59) rfl)
  obtain ⟨oc_common_divisor, od_common_divisor, sl_common_divisor, kV_common_divisor, dc_common_divisor, pm_common_divisor, an_common_divisor, cd_common_divisor, ct_common_divisor, l_common_divisor, c_common_divisor⟩ := fnV_ok (f := A_f_common_divisor) (n := "common_divisor") (q := "common_divisor") (st := s_common_divisor) (c.defn 4 (d := d4) rfl) (c.fact 60 (f := e60) rfl)
  have k_common_divisor : PySem.W.keepIn K (.ref (A_f_common_divisor K)) = true := (c.fact 61 (f := e61) rfl)
  have a_lowest_terms : PySem.W.nsIn K mainGlobals "lowest_terms" = some (some (.ref (A_f_lowest_terms K))) := of_decide_eq_true (c.fact 62 (f := e62) rfl)
  obtain ⟨oc_lowest_terms, od_lowest_terms, sl_lowest_terms, kV_lowest_terms, dc_lowest_terms, pm_lowest_terms, an_lowest_terms, cd_lowest_terms, ct_lowest_terms, l_lowest_terms, c_lowest_terms⟩ := fnV_ok (f := A_f_lowest_terms) (n := "lowest_terms") (q := "lowest_terms") (st := s_lowest_terms) (c.defn 5 (d := d5) rfl) (c.fact 63 (f := e63) rfl)
  have k_lowest_terms : PySem.W.keepIn K (.ref (A_f_lowest_terms K)) = true := (c.fact 64 (f := e64) rfl)
  have a_matrix_and_scale : PySem.W.nsIn K mainGlobals "matrix_and_scale" = some (some (.ref (A_f_matrix_and_scale K))) := of_decide_eq_true (c.fact 65 (f := e65) rfl)
  obtain ⟨oc_matrix_and_scale, od_matrix_and_scale, sl_matrix_and_scale, kV_matrix_and_scale, dc_matrix_and_scale, pm_matrix_and_scale, an_matrix_and_scale, cd_matrix_and_scale, ct_matrix_and_scale, l_matrix_and_scale, c_matrix_and_scale⟩ := fnV_ok (f := A_f_matrix_and_scale) (n := "matrix_and_scale") (q := "matrix_and_scale") (st := s_matrix_and_scale) (c.defn 6 (d := d6) rfl) (c.fact 66 (f := e66) rfl)
  have k_matrix_and_scale : PySem.W.keepIn K (.ref (A_f_matrix_and_scale K)) = true := (c.fact 67 (f := e67) rfl)
  obtain ⟨t2, aPi⟩ := intB_ok (x := "MOST_PIECES") (i := 4) (c.fact 68 (f := e68) rfl)
  have aJ : PySem.W.nsIn K mainGlobals "JoinedRow" = some (some (.ref (A_J K))) := of_decide_eq_true (c.fact 69 (f := e69) rfl)
  have pgJ : PySem.W.plainGet K (A_J K) Str.empty = true := (c.fact 70 (f := e70) rfl)
  have hdJ : PySem.W.hasDictIn K (A_J K) = true := (c.fact 71 (f := e71) rfl)
  have poJ : PySem.W.plainOver K (A_J K) = true := (c.fact 72 (f := e72) rfl)
  have saJ : PySem.W.findIn K (.ref (A_J K)) "__setattr__" = some (some (.builtin "object.__setattr__")) := of_decide_eq_true (c.fact 73 (f := e73) rfl)
  have mkJ : PySem.W.makesIn K (A_J K) = true := (c.fact 74 (f := e74) rfl)
  have kcJ : PySem.W.keepIn K (.ref (A_J K)) = true := (c.fact 75 (f := e75) rfl)
  have nJ_row : PySem.W.findIn K (.ref (A_J K)) "row" = some none := of_decide_eq_true (c.fact 76 (f := e76) rfl)
  have caJ : PySem.W.findIn K (.ref (A_J K)) "__class__" = some (some (.builtin "object.__class__")) := of_decide_eq_true (c.fact 77 (f := e77) rfl)
  have cmJ : PySem.W.mroIn K (A_J K) (.type "object") = some true := of_decide_eq_true (c.fact 78 (f := e78) rfl)
  have cn : PySem.W.specialIn K (.builtin "object.__class__") "__get__" = some (some (.builtin "getset_descriptor.__get__")) := of_decide_eq_true (c.fact 79 (f := e79) rfl)
  have ct : PySem.W.takesIn K (.builtin "object.__class__") = some true := of_decide_eq_true (c.fact 80 (f := e80) rfl)
  have aC : PySem.W.nsIn K mainGlobals "Pattern" = some (some (.ref (A_C K))) := of_decide_eq_true (c.fact 81 (f := e81) rfl)
  have pgC : PySem.W.plainGet K (A_C K) Str.empty = true := (c.fact 82 (f := e82) rfl)
  have hdC : PySem.W.hasDictIn K (A_C K) = true := (c.fact 83 (f := e83) rfl)
  have poC : PySem.W.plainOver K (A_C K) = true := (c.fact 84 (f := e84) rfl)
  have saC : PySem.W.findIn K (.ref (A_C K)) "__setattr__" = some (some (.builtin "object.__setattr__")) := of_decide_eq_true (c.fact 85 (f := e85) rfl)
  have mkC : PySem.W.makesIn K (A_C K) = true := (c.fact 86 (f := e86) rfl)
  have kcC : PySem.W.keepIn K (.ref (A_C K)) = true := (c.fact 87 (f := e87) rfl)
  have nC_row : PySem.W.findIn K (.ref (A_C K)) "row" = some none := of_decide_eq_true (c.fact 88 (f := e88) rfl)
  have nC_matrix : PySem.W.findIn K (.ref (A_C K)) "matrix" = some none := of_decide_eq_true (c.fact 89 (f := e89) rfl)
  have nC_scale : PySem.W.findIn K (.ref (A_C K)) "scale" = some none := of_decide_eq_true (c.fact 90 (f := e90) rfl)
  have nC_four : PySem.W.findIn K (.ref (A_C K)) "four" = some none := of_decide_eq_true (c.fact 91 (f := e91) rfl)
  have caC : PySem.W.findIn K (.ref (A_C K)) "__class__" = some (some (.builtin "object.__class__")) := of_decide_eq_true (c.fact 92 (f := e92) rfl)
  have cmC : PySem.W.mroIn K (A_C K) (.type "object") = some true := of_decide_eq_true (c.fact 93 (f := e93) rfl)
  have kt_J : PySem.W.kitOne K (.type "tuple") (.ref (A_J K)) = some false := of_decide_eq_true (c.fact 94 (f := e94) rfl)
  have rdC : PySem.W.readsIn K (A_C K) (.type "type") = true := (c.fact 95 (f := e95) rfl)
  have gaC : PySem.W.specialIn K (.ref (A_C K)) "__getattribute__" = some (some (.builtin "type.__getattribute__")) := of_decide_eq_true (c.fact 96 (f := e96) rfl)
  have a_checked_row : PySem.W.nsIn K mainGlobals "checked_row" = some (some (.ref (A_f_checked_row K))) := of_decide_eq_true (c.fact 97 (f := e97) rfl)
  obtain ⟨oc_checked_row, od_checked_row, sl_checked_row, kV_checked_row, dc_checked_row, pm_checked_row, an_checked_row, cd_checked_row, ct_checked_row, l_checked_row, c_checked_row⟩ := fnV_ok (f := A_f_checked_row) (n := "checked_row") (q := "checked_row") (st := s_checked_row) (c.defn 7 (d := d7) rfl) (c.fact 98 (f := e98) rfl)
  have k_checked_row : PySem.W.keepIn K (.ref (A_f_checked_row K)) = true := (c.fact 99 (f := e99) rfl)
  have a_lowest_pair : PySem.W.nsIn K mainGlobals "lowest_pair" = some (some (.ref (A_f_lowest_pair K))) := of_decide_eq_true (c.fact 100 (f := e100) rfl)
  obtain ⟨oc_lowest_pair, od_lowest_pair, sl_lowest_pair, kV_lowest_pair, dc_lowest_pair, pm_lowest_pair, an_lowest_pair, cd_lowest_pair, ct_lowest_pair, l_lowest_pair, c_lowest_pair⟩ := fnV_ok (f := A_f_lowest_pair) (n := "lowest_pair") (q := "lowest_pair") (st := s_lowest_pair) (c.defn 8 (d := d8) rfl) (c.fact 101 (f := e101) rfl)
  have k_lowest_pair : PySem.W.keepIn K (.ref (A_f_lowest_pair K)) = true := (c.fact 102 (f := e102) rfl)
  have a_piece_text : PySem.W.nsIn K mainGlobals "piece_text" = some (some (.ref (A_f_piece_text K))) := of_decide_eq_true (c.fact 103 (f := e103) rfl)
  obtain ⟨oc_piece_text, od_piece_text, sl_piece_text, kV_piece_text, dc_piece_text, pm_piece_text, an_piece_text, cd_piece_text, ct_piece_text, l_piece_text, c_piece_text⟩ := fnV_ok (f := A_f_piece_text) (n := "piece_text") (q := "piece_text") (st := s_piece_text) (c.defn 9 (d := d9) rfl) (c.fact 104 (f := e104) rfl)
  have k_piece_text : PySem.W.keepIn K (.ref (A_f_piece_text K)) = true := (c.fact 105 (f := e105) rfl)
  have a_piece_with_text : PySem.W.nsIn K mainGlobals "piece_with_text" = some (some (.ref (A_f_piece_with_text K))) := of_decide_eq_true (c.fact 106 (f := e106) rfl)
  obtain ⟨oc_piece_with_text, od_piece_with_text, sl_piece_with_text, kV_piece_with_text, dc_piece_with_text, pm_piece_with_text, an_piece_with_text, cd_piece_with_text, ct_piece_with_text, l_piece_with_text, c_piece_with_text⟩ := fnV_ok (f := A_f_piece_with_text) (n := "piece_with_text") (q := "piece_with_text") (st := s_piece_with_text) (c.defn 10 (d := d10) rfl) (c.fact 107 (f := e107) rfl)
  have k_piece_with_text : PySem.W.keepIn K (.ref (A_f_piece_with_text K)) = true := (c.fact 108 (f := e108) rfl)
  have a_JoinedRow_init : PySem.W.findIn K (.ref (A_J K)) "__init__" = some (some (.ref (A_f_JoinedRow_init K))) := of_decide_eq_true (c.fact 109 (f := e109) rfl)
  have i_JoinedRow_init : PySem.W.isFn K (.ref (A_f_JoinedRow_init K)) = true := (c.fact 110 (f := e110) rfl)
  obtain ⟨oc_JoinedRow_init, od_JoinedRow_init, sl_JoinedRow_init, kV_JoinedRow_init, dc_JoinedRow_init, pm_JoinedRow_init, an_JoinedRow_init, cd_JoinedRow_init, ct_JoinedRow_init, l_JoinedRow_init, c_JoinedRow_init⟩ := fnV_ok (f := A_f_JoinedRow_init) (n := "__init__") (q := "JoinedRow.__init__") (st := s_JoinedRow_init) (c.defn 11 (d := d11) rfl) (c.fact 111 (f := e111) rfl)
  have k_JoinedRow_init : PySem.W.keepIn K (.ref (A_f_JoinedRow_init K)) = true := (c.fact 112 (f := e112) rfl)
  have a_Pattern_init : PySem.W.findIn K (.ref (A_C K)) "__init__" = some (some (.ref (A_f_Pattern_init K))) := of_decide_eq_true (c.fact 113 (f := e113) rfl)
  have i_Pattern_init : PySem.W.isFn K (.ref (A_f_Pattern_init K)) = true := (c.fact 114 (f := e114) rfl)
  obtain ⟨oc_Pattern_init, od_Pattern_init, sl_Pattern_init, kV_Pattern_init, dc_Pattern_init, pm_Pattern_init, an_Pattern_init, cd_Pattern_init, ct_Pattern_init, l_Pattern_init, c_Pattern_init⟩ := fnV_ok (f := A_f_Pattern_init) (n := "__init__") (q := "Pattern.__init__") (st := s_Pattern_init) (c.defn 12 (d := d12) rfl) (c.fact 115 (f := e115) rfl)
  have k_Pattern_init : PySem.W.keepIn K (.ref (A_f_Pattern_init K)) = true := (c.fact 116 (f := e116) rfl)
  have sa_Pattern_read := smB_ok (a := A_C) (p := A_pr_Pattern_read) (m := "read") (c.fact 117 (f := e117) rfl)
  obtain ⟨rest_Pattern_read, sc_Pattern_read⟩ := recB_ok (a := A_pr_Pattern_read) (f := A_f_Pattern_read) (s := "staticmethod") (c.fact 118 (f := e118) rfl)
  obtain ⟨oc_Pattern_read, od_Pattern_read, sl_Pattern_read, kV_Pattern_read, dc_Pattern_read, pm_Pattern_read, an_Pattern_read, cd_Pattern_read, ct_Pattern_read, l_Pattern_read, c_Pattern_read⟩ := fnV_ok (f := A_f_Pattern_read) (n := "read") (q := "Pattern.read") (st := s_Pattern_read) (c.defn 13 (d := d13) rfl) (c.fact 119 (f := e119) rfl)
  have k_Pattern_read : PySem.W.keepIn K (.ref (A_f_Pattern_read K)) = true := (c.fact 120 (f := e120) rfl)
  have pa_Pattern_pieces : PySem.W.findIn K (.ref (A_C K)) "pieces" = some (some (.ref (A_pr_Pattern_pieces K))) := of_decide_eq_true (c.fact 121 (f := e121) rfl)
  have pg_Pattern_pieces : PySem.W.specialIn K (.ref (A_pr_Pattern_pieces K)) "__get__" = some (some (.builtin "property.__get__")) := of_decide_eq_true (c.fact 122 (f := e122) rfl)
  have pt_Pattern_pieces : PySem.W.takesIn K (.ref (A_pr_Pattern_pieces K)) = some true := of_decide_eq_true (c.fact 123 (f := e123) rfl)
  obtain ⟨rest_Pattern_pieces, pc_Pattern_pieces⟩ := recB_ok (a := A_pr_Pattern_pieces) (f := A_f_Pattern_pieces) (s := "property") (c.fact 124 (f := e124) rfl)
  obtain ⟨oc_Pattern_pieces, od_Pattern_pieces, sl_Pattern_pieces, kV_Pattern_pieces, dc_Pattern_pieces, pm_Pattern_pieces, an_Pattern_pieces, cd_Pattern_pieces, ct_Pattern_pieces, l_Pattern_pieces, c_Pattern_pieces⟩ := fnV_ok (f := A_f_Pattern_pieces) (n := "pieces") (q := "Pattern.pieces") (st := s_Pattern_pieces) (c.defn 14 (d := d14) rfl) (c.fact 125 (f := e125) rfl)
  have k_Pattern_pieces : PySem.W.keepIn K (.ref (A_f_Pattern_pieces K)) = true := (c.fact 126 (f := e126) rfl)
  have kt_CNoneType : PySem.W.kitOne K (.type "NoneType") (.ref (A_C K)) = some false := of_decide_eq_true (c.fact 127 (f := e127) rfl)
  have kt_Cbool : PySem.W.kitOne K (.type "bool") (.ref (A_C K)) = some false := of_decide_eq_true (c.fact 128 (f := e128) rfl)
  have kt_Cint : PySem.W.kitOne K (.type "int") (.ref (A_C K)) = some false := of_decide_eq_true (c.fact 129 (f := e129) rfl)
  have kt_Cstr : PySem.W.kitOne K (.type "str") (.ref (A_C K)) = some false := of_decide_eq_true (c.fact 130 (f := e130) rfl)
  have kt_Clist : PySem.W.kitOne K (.type "list") (.ref (A_C K)) = some false := of_decide_eq_true (c.fact 131 (f := e131) rfl)
  have kt_Cdict : PySem.W.kitOne K (.type "dict") (.ref (A_C K)) = some false := of_decide_eq_true (c.fact 132 (f := e132) rfl)
  have kt_Ctuple : PySem.W.kitOne K (.type "tuple") (.ref (A_C K)) = some false := of_decide_eq_true (c.fact 133 (f := e133) rfl)
  have a_check_pattern : PySem.W.nsIn K mainGlobals "check_pattern" = some (some (.ref (A_f_check_pattern K))) := of_decide_eq_true (c.fact 134 (f := e134) rfl)
  obtain ⟨oc_check_pattern, od_check_pattern, sl_check_pattern, kV_check_pattern, dc_check_pattern, pm_check_pattern, an_check_pattern, cd_check_pattern, ct_check_pattern, l_check_pattern, c_check_pattern⟩ := fnV_ok (f := A_f_check_pattern) (n := "check_pattern") (q := "check_pattern") (st := s_check_pattern) (c.defn 15 (d := d15) rfl) (c.fact 135 (f := e135) rfl)
  have k_check_pattern : PySem.W.keepIn K (.ref (A_f_check_pattern K)) = true := (c.fact 136 (f := e136) rfl)
  have a_is_name : PySem.W.nsIn K mainGlobals "is_name" = some (some (.ref (A_f_is_name K))) := of_decide_eq_true (c.fact 137 (f := e137) rfl)
  obtain ⟨oc_is_name, od_is_name, sl_is_name, kV_is_name, dc_is_name, pm_is_name, an_is_name, cd_is_name, ct_is_name, l_is_name, c_is_name⟩ := fnV_ok (f := A_f_is_name) (n := "is_name") (q := "is_name") (st := s_is_name) (c.defn 16 (d := d16) rfl) (c.fact 138 (f := e138) rfl)
  have k_is_name : PySem.W.keepIn K (.ref (A_f_is_name K)) = true := (c.fact 139 (f := e139) rfl)
  have aX0 : PySem.W.nsIn K mainGlobals "NotAPattern" = some (some (.ref (A_X0 K))) := of_decide_eq_true (c.fact 140 (f := e140) rfl)
  have aX1 : PySem.W.nsIn K mainGlobals "NotARun" = some (some (.ref (A_X1 K))) := of_decide_eq_true (c.fact 141 (f := e141) rfl)
  have aX2 : PySem.W.nsIn K mainGlobals "InvalidResistance" = some (some (.ref (A_X2 K))) := of_decide_eq_true (c.fact 142 (f := e142) rfl)
  have aX3 : PySem.W.nsIn K mainGlobals "InvalidCount" = some (some (.ref (A_X3 K))) := of_decide_eq_true (c.fact 143 (f := e143) rfl)
  have aX4 : PySem.W.nsIn K mainGlobals "InvalidText" = some (some (.ref (A_X4 K))) := of_decide_eq_true (c.fact 144 (f := e144) rfl)
  have aX5 : PySem.W.nsIn K mainGlobals "InvalidName" = some (some (.ref (A_X5 K))) := of_decide_eq_true (c.fact 145 (f := e145) rfl)
  have aX6 : PySem.W.nsIn K mainGlobals "InvalidClaim" = some (some (.ref (A_X6 K))) := of_decide_eq_true (c.fact 146 (f := e146) rfl)
  have aX7 : PySem.W.nsIn K mainGlobals "InvalidIndex" = some (some (.ref (A_X7 K))) := of_decide_eq_true (c.fact 147 (f := e147) rfl)
  have aX8 : PySem.W.nsIn K mainGlobals "InvalidDeeds" = some (some (.ref (A_X8 K))) := of_decide_eq_true (c.fact 148 (f := e148) rfl)
  have aX9 : PySem.W.nsIn K mainGlobals "UnknownName" = some (some (.ref (A_X9 K))) := of_decide_eq_true (c.fact 149 (f := e149) rfl)
  have aX10 : PySem.W.nsIn K mainGlobals "InUse" = some (some (.ref (A_X10 K))) := of_decide_eq_true (c.fact 150 (f := e150) rfl)
  have aX11 : PySem.W.nsIn K mainGlobals "TooMany" = some (some (.ref (A_X11 K))) := of_decide_eq_true (c.fact 151 (f := e151) rfl)
  have aX12 : PySem.W.nsIn K mainGlobals "Broken" = some (some (.ref (A_X12 K))) := of_decide_eq_true (c.fact 152 (f := e152) rfl)
  have aX13 : PySem.W.nsIn K mainGlobals "NoLimit" = some (some (.ref (A_X13 K))) := of_decide_eq_true (c.fact 153 (f := e153) rfl)
  have aX14 : PySem.W.nsIn K mainGlobals "NothingToUndo" = some (some (.ref (A_X14 K))) := of_decide_eq_true (c.fact 154 (f := e154) rfl)
  have aX15 : PySem.W.nsIn K mainGlobals "WrongValue" = some (some (.ref (A_X15 K))) := of_decide_eq_true (c.fact 155 (f := e155) rfl)
  have aX16 : PySem.W.nsIn K mainGlobals "WrongName" = some (some (.ref (A_X16 K))) := of_decide_eq_true (c.fact 156 (f := e156) rfl)
  have aX17 : PySem.W.nsIn K mainGlobals "NoAnswer" = some (some (.ref (A_X17 K))) := of_decide_eq_true (c.fact 157 (f := e157) rfl)
  have a_WrongValue_init : PySem.W.findIn K (.ref (A_X15 K)) "__init__" = some (some (.ref (A_f_WrongValue_init K))) := of_decide_eq_true (c.fact 158 (f := e158) rfl)
  have i_WrongValue_init : PySem.W.isFn K (.ref (A_f_WrongValue_init K)) = true := (c.fact 159 (f := e159) rfl)
  obtain ⟨oc_WrongValue_init, od_WrongValue_init, sl_WrongValue_init, kV_WrongValue_init, dc_WrongValue_init, pm_WrongValue_init, an_WrongValue_init, cd_WrongValue_init, ct_WrongValue_init, l_WrongValue_init, c_WrongValue_init⟩ := fnV_ok (f := A_f_WrongValue_init) (n := "__init__") (q := "WrongValue.__init__") (st := s_WrongValue_init) (c.defn 17 (d := d17) rfl) (c.fact 160 (f := e160) rfl)
  have k_WrongValue_init : PySem.W.keepIn K (.ref (A_f_WrongValue_init K)) = true := (c.fact 161 (f := e161) rfl)
  have rd_15 : PySem.W.readsIn K (A_X15 K) (.type "type") = true := (c.fact 162 (f := e162) rfl)
  have ga_15 : PySem.W.specialIn K (.ref (A_X15 K)) "__getattribute__" = some (some (.builtin "type.__getattribute__")) := of_decide_eq_true (c.fact 163 (f := e163) rfl)
  have fc_15 := clvB_ok (a := A_X15) (f := A_f_WrongValue_init) (m := "__init__") (c.fact 164 (f := e164) rfl)
  have a_WrongName_init : PySem.W.findIn K (.ref (A_X16 K)) "__init__" = some (some (.ref (A_f_WrongName_init K))) := of_decide_eq_true (c.fact 165 (f := e165) rfl)
  have i_WrongName_init : PySem.W.isFn K (.ref (A_f_WrongName_init K)) = true := (c.fact 166 (f := e166) rfl)
  obtain ⟨oc_WrongName_init, od_WrongName_init, sl_WrongName_init, kV_WrongName_init, dc_WrongName_init, pm_WrongName_init, an_WrongName_init, cd_WrongName_init, ct_WrongName_init, l_WrongName_init, c_WrongName_init⟩ := fnV_ok (f := A_f_WrongName_init) (n := "__init__") (q := "WrongName.__init__") (st := s_WrongName_init) (c.defn 18 (d := d18) rfl) (c.fact 167 (f := e167) rfl)
  have k_WrongName_init : PySem.W.keepIn K (.ref (A_f_WrongName_init K)) = true := (c.fact 168 (f := e168) rfl)
  have rd_16 : PySem.W.readsIn K (A_X16 K) (.type "type") = true := (c.fact 169 (f := e169) rfl)
  have ga_16 : PySem.W.specialIn K (.ref (A_X16 K)) "__getattribute__" = some (some (.builtin "type.__getattribute__")) := of_decide_eq_true (c.fact 170 (f := e170) rfl)
  have fc_16 := clvB_ok (a := A_X16) (f := A_f_WrongName_init) (m := "__init__") (c.fact 171 (f := e171) rfl)
  have a_NotAPattern_init : PySem.W.findIn K (.ref (A_X0 K)) "__init__" = some (some (.ref (A_f_NotAPattern_init K))) := of_decide_eq_true (c.fact 172 (f := e172) rfl)
  have i_NotAPattern_init : PySem.W.isFn K (.ref (A_f_NotAPattern_init K)) = true := (c.fact 173 (f := e173) rfl)
  obtain ⟨oc_NotAPattern_init, od_NotAPattern_init, sl_NotAPattern_init, kV_NotAPattern_init, dc_NotAPattern_init, pm_NotAPattern_init, an_NotAPattern_init, cd_NotAPattern_init, ct_NotAPattern_init, l_NotAPattern_init, c_NotAPattern_init⟩ := fnV_ok (f := A_f_NotAPattern_init) (n := "__init__") (q := "NotAPattern.__init__") (st := s_NotAPattern_init) (c.defn 19 (d := d19) rfl) (c.fact 174 (f := e174) rfl)
  have k_NotAPattern_init : PySem.W.keepIn K (.ref (A_f_NotAPattern_init K)) = true := (c.fact 175 (f := e175) rfl)
  have xb_0 : xcB K (A_X0 K) [.type "ValueError", .type "Exception", .type "BaseException", .type "object"] "ValueError.__new__" = true := (c.fact 176 (f := e176) rfl)
  have ro_0 : rowBF K [(A_X0 K), (A_X1 K), (A_X2 K), (A_X3 K), (A_X4 K), (A_X5 K), (A_X6 K), (A_X7 K), (A_X8 K), (A_X9 K), (A_X10 K), (A_X11 K), (A_X12 K), (A_X13 K), (A_X14 K), (A_X15 K), (A_X16 K), (A_X17 K)] 0 = true := (c.fact 177 (f := e177) rfl)
  have any_0 : PySem.W.exmAny K (.ref (A_X0 K)) [.ref (A_X15 K), .ref (A_X16 K), .ref (A_X17 K)] = some true := of_decide_eq_true (c.fact 178 (f := e178) rfl)
  have ty_0 : PySem.W.typeIn K (.ref (A_X0 K)) = some (.type "type") := of_decide_eq_true (c.fact 179 (f := e179) rfl)
  have no_0 : PySem.W.findIn K (.ref (A_X0 K)) "given" = some none := of_decide_eq_true (c.fact 180 (f := e180) rfl)
  have a_InvalidName_init : PySem.W.findIn K (.ref (A_X5 K)) "__init__" = some (some (.ref (A_f_InvalidName_init K))) := of_decide_eq_true (c.fact 181 (f := e181) rfl)
  have i_InvalidName_init : PySem.W.isFn K (.ref (A_f_InvalidName_init K)) = true := (c.fact 182 (f := e182) rfl)
  obtain ⟨oc_InvalidName_init, od_InvalidName_init, sl_InvalidName_init, kV_InvalidName_init, dc_InvalidName_init, pm_InvalidName_init, an_InvalidName_init, cd_InvalidName_init, ct_InvalidName_init, l_InvalidName_init, c_InvalidName_init⟩ := fnV_ok (f := A_f_InvalidName_init) (n := "__init__") (q := "InvalidName.__init__") (st := s_InvalidName_init) (c.defn 20 (d := d20) rfl) (c.fact 183 (f := e183) rfl)
  have k_InvalidName_init : PySem.W.keepIn K (.ref (A_f_InvalidName_init K)) = true := (c.fact 184 (f := e184) rfl)
  have xb_5 : xcB K (A_X5 K) [.type "ValueError", .type "Exception", .type "BaseException", .type "object"] "ValueError.__new__" = true := (c.fact 185 (f := e185) rfl)
  have ro_5 : rowBF K [(A_X0 K), (A_X1 K), (A_X2 K), (A_X3 K), (A_X4 K), (A_X5 K), (A_X6 K), (A_X7 K), (A_X8 K), (A_X9 K), (A_X10 K), (A_X11 K), (A_X12 K), (A_X13 K), (A_X14 K), (A_X15 K), (A_X16 K), (A_X17 K)] 5 = true := (c.fact 186 (f := e186) rfl)
  have any_5 : PySem.W.exmAny K (.ref (A_X5 K)) [.ref (A_X15 K), .ref (A_X16 K), .ref (A_X17 K)] = some true := of_decide_eq_true (c.fact 187 (f := e187) rfl)
  have ty_5 : PySem.W.typeIn K (.ref (A_X5 K)) = some (.type "type") := of_decide_eq_true (c.fact 188 (f := e188) rfl)
  have no_5 : PySem.W.findIn K (.ref (A_X5 K)) "given" = some none := of_decide_eq_true (c.fact 189 (f := e189) rfl)
  have a_UnknownName_init : PySem.W.findIn K (.ref (A_X9 K)) "__init__" = some (some (.ref (A_f_UnknownName_init K))) := of_decide_eq_true (c.fact 190 (f := e190) rfl)
  have i_UnknownName_init : PySem.W.isFn K (.ref (A_f_UnknownName_init K)) = true := (c.fact 191 (f := e191) rfl)
  obtain ⟨oc_UnknownName_init, od_UnknownName_init, sl_UnknownName_init, kV_UnknownName_init, dc_UnknownName_init, pm_UnknownName_init, an_UnknownName_init, cd_UnknownName_init, ct_UnknownName_init, l_UnknownName_init, c_UnknownName_init⟩ := fnV_ok (f := A_f_UnknownName_init) (n := "__init__") (q := "UnknownName.__init__") (st := s_UnknownName_init) (c.defn 21 (d := d21) rfl) (c.fact 192 (f := e192) rfl)
  have k_UnknownName_init : PySem.W.keepIn K (.ref (A_f_UnknownName_init K)) = true := (c.fact 193 (f := e193) rfl)
  have xb_9 : xcB K (A_X9 K) [.type "LookupError", .type "Exception", .type "BaseException", .type "object"] "LookupError.__new__" = true := (c.fact 194 (f := e194) rfl)
  have ro_9 : rowBF K [(A_X0 K), (A_X1 K), (A_X2 K), (A_X3 K), (A_X4 K), (A_X5 K), (A_X6 K), (A_X7 K), (A_X8 K), (A_X9 K), (A_X10 K), (A_X11 K), (A_X12 K), (A_X13 K), (A_X14 K), (A_X15 K), (A_X16 K), (A_X17 K)] 9 = true := (c.fact 195 (f := e195) rfl)
  have any_9 : PySem.W.exmAny K (.ref (A_X9 K)) [.ref (A_X15 K), .ref (A_X16 K), .ref (A_X17 K)] = some true := of_decide_eq_true (c.fact 196 (f := e196) rfl)
  have ty_9 : PySem.W.typeIn K (.ref (A_X9 K)) = some (.type "type") := of_decide_eq_true (c.fact 197 (f := e197) rfl)
  have no_9 : PySem.W.findIn K (.ref (A_X9 K)) "given" = some none := of_decide_eq_true (c.fact 198 (f := e198) rfl)
  have a_law_error : PySem.W.nsIn K mainGlobals "_law_error" = some (some (.ref (A_f_law_error K))) := of_decide_eq_true (c.fact 199 (f := e199) rfl)
  obtain ⟨oc_law_error, od_law_error, sl_law_error, kV_law_error, dc_law_error, pm_law_error, an_law_error, cd_law_error, ct_law_error, l_law_error, c_law_error⟩ := fnV_ok (f := A_f_law_error) (n := "_law_error") (q := "_law_error") (st := s_law_error) (c.defn 22 (d := d22) rfl) (c.fact 200 (f := e200) rfl)
  have k_law_error : PySem.W.keepIn K (.ref (A_f_law_error K)) = true := (c.fact 201 (f := e201) rfl)
  have a_law_told : PySem.W.nsIn K mainGlobals "_law_told" = some (some (.ref (A_f_law_told K))) := of_decide_eq_true (c.fact 202 (f := e202) rfl)
  obtain ⟨oc_law_told, od_law_told, sl_law_told, kV_law_told, dc_law_told, pm_law_told, an_law_told, cd_law_told, ct_law_told, l_law_told, c_law_told⟩ := fnV_ok (f := A_f_law_told) (n := "_law_told") (q := "_law_told") (st := s_law_told) (c.defn 23 (d := d23) rfl) (c.fact 203 (f := e203) rfl)
  have k_law_told : PySem.W.keepIn K (.ref (A_f_law_told K)) = true := (c.fact 204 (f := e204) rfl)
  have a_Moment_init : PySem.W.findIn K (.ref (A_Cm K)) "__init__" = some (some (.ref (A_f_Moment_init K))) := of_decide_eq_true (c.fact 205 (f := e205) rfl)
  have i_Moment_init : PySem.W.isFn K (.ref (A_f_Moment_init K)) = true := (c.fact 206 (f := e206) rfl)
  obtain ⟨oc_Moment_init, od_Moment_init, sl_Moment_init, kV_Moment_init, dc_Moment_init, pm_Moment_init, an_Moment_init, cd_Moment_init, ct_Moment_init, l_Moment_init, c_Moment_init⟩ := fnV_ok (f := A_f_Moment_init) (n := "__init__") (q := "Moment.__init__") (st := s_Moment_init) (c.defn 24 (d := d24) rfl) (c.fact 207 (f := e207) rfl)
  have k_Moment_init : PySem.W.keepIn K (.ref (A_f_Moment_init K)) = true := (c.fact 208 (f := e208) rfl)
  have a_Bench_init : PySem.W.findIn K (.ref (A_Cb K)) "__init__" = some (some (.ref (A_f_Bench_init K))) := of_decide_eq_true (c.fact 209 (f := e209) rfl)
  have i_Bench_init : PySem.W.isFn K (.ref (A_f_Bench_init K)) = true := (c.fact 210 (f := e210) rfl)
  obtain ⟨oc_Bench_init, od_Bench_init, sl_Bench_init, kV_Bench_init, dc_Bench_init, pm_Bench_init, an_Bench_init, cd_Bench_init, ct_Bench_init, l_Bench_init, c_Bench_init⟩ := fnV_ok (f := A_f_Bench_init) (n := "__init__") (q := "Bench.__init__") (st := s_Bench_init) (c.defn 25 (d := d25) rfl) (c.fact 211 (f := e211) rfl)
  have k_Bench_init : PySem.W.keepIn K (.ref (A_f_Bench_init K)) = true := (c.fact 212 (f := e212) rfl)
  have a_Bench_contains : PySem.W.findIn K (.ref (A_Cb K)) "__contains__" = some (some (.ref (A_f_Bench_contains K))) := of_decide_eq_true (c.fact 213 (f := e213) rfl)
  have i_Bench_contains : PySem.W.isFn K (.ref (A_f_Bench_contains K)) = true := (c.fact 214 (f := e214) rfl)
  obtain ⟨oc_Bench_contains, od_Bench_contains, sl_Bench_contains, kV_Bench_contains, dc_Bench_contains, pm_Bench_contains, an_Bench_contains, cd_Bench_contains, ct_Bench_contains, l_Bench_contains, c_Bench_contains⟩ := fnV_ok (f := A_f_Bench_contains) (n := "__contains__") (q := "Bench.__contains__") (st := s_Bench_contains) (c.defn 26 (d := d26) rfl) (c.fact 215 (f := e215) rfl)
  have k_Bench_contains : PySem.W.keepIn K (.ref (A_f_Bench_contains K)) = true := (c.fact 216 (f := e216) rfl)
  have a_Bench_len : PySem.W.findIn K (.ref (A_Cb K)) "__len__" = some (some (.ref (A_f_Bench_len K))) := of_decide_eq_true (c.fact 217 (f := e217) rfl)
  have i_Bench_len : PySem.W.isFn K (.ref (A_f_Bench_len K)) = true := (c.fact 218 (f := e218) rfl)
  obtain ⟨oc_Bench_len, od_Bench_len, sl_Bench_len, kV_Bench_len, dc_Bench_len, pm_Bench_len, an_Bench_len, cd_Bench_len, ct_Bench_len, l_Bench_len, c_Bench_len⟩ := fnV_ok (f := A_f_Bench_len) (n := "__len__") (q := "Bench.__len__") (st := s_Bench_len) (c.defn 27 (d := d27) rfl) (c.fact 219 (f := e219) rfl)
  have k_Bench_len : PySem.W.keepIn K (.ref (A_f_Bench_len K)) = true := (c.fact 220 (f := e220) rfl)
  have pa_Bench_names : PySem.W.findIn K (.ref (A_Cb K)) "names" = some (some (.ref (A_pr_Bench_names K))) := of_decide_eq_true (c.fact 221 (f := e221) rfl)
  have pg_Bench_names : PySem.W.specialIn K (.ref (A_pr_Bench_names K)) "__get__" = some (some (.builtin "property.__get__")) := of_decide_eq_true (c.fact 222 (f := e222) rfl)
  have pt_Bench_names : PySem.W.takesIn K (.ref (A_pr_Bench_names K)) = some true := of_decide_eq_true (c.fact 223 (f := e223) rfl)
  obtain ⟨rest_Bench_names, pc_Bench_names⟩ := recB_ok (a := A_pr_Bench_names) (f := A_f_Bench_names) (s := "property") (c.fact 224 (f := e224) rfl)
  obtain ⟨oc_Bench_names, od_Bench_names, sl_Bench_names, kV_Bench_names, dc_Bench_names, pm_Bench_names, an_Bench_names, cd_Bench_names, ct_Bench_names, l_Bench_names, c_Bench_names⟩ := fnV_ok (f := A_f_Bench_names) (n := "names") (q := "Bench.names") (st := s_Bench_names) (c.defn 28 (d := d28) rfl) (c.fact 225 (f := e225) rfl)
  have k_Bench_names : PySem.W.keepIn K (.ref (A_f_Bench_names K)) = true := (c.fact 226 (f := e226) rfl)
  have pa_Bench_claims : PySem.W.findIn K (.ref (A_Cb K)) "claims" = some (some (.ref (A_pr_Bench_claims K))) := of_decide_eq_true (c.fact 227 (f := e227) rfl)
  have pg_Bench_claims : PySem.W.specialIn K (.ref (A_pr_Bench_claims K)) "__get__" = some (some (.builtin "property.__get__")) := of_decide_eq_true (c.fact 228 (f := e228) rfl)
  have pt_Bench_claims : PySem.W.takesIn K (.ref (A_pr_Bench_claims K)) = some true := of_decide_eq_true (c.fact 229 (f := e229) rfl)
  obtain ⟨rest_Bench_claims, pc_Bench_claims⟩ := recB_ok (a := A_pr_Bench_claims) (f := A_f_Bench_claims) (s := "property") (c.fact 230 (f := e230) rfl)
  obtain ⟨oc_Bench_claims, od_Bench_claims, sl_Bench_claims, kV_Bench_claims, dc_Bench_claims, pm_Bench_claims, an_Bench_claims, cd_Bench_claims, ct_Bench_claims, l_Bench_claims, c_Bench_claims⟩ := fnV_ok (f := A_f_Bench_claims) (n := "claims") (q := "Bench.claims") (st := s_Bench_claims) (c.defn 29 (d := d29) rfl) (c.fact 231 (f := e231) rfl)
  have k_Bench_claims : PySem.W.keepIn K (.ref (A_f_Bench_claims K)) = true := (c.fact 232 (f := e232) rfl)
  have pa_Bench_changes : PySem.W.findIn K (.ref (A_Cb K)) "changes" = some (some (.ref (A_pr_Bench_changes K))) := of_decide_eq_true (c.fact 233 (f := e233) rfl)
  have pg_Bench_changes : PySem.W.specialIn K (.ref (A_pr_Bench_changes K)) "__get__" = some (some (.builtin "property.__get__")) := of_decide_eq_true (c.fact 234 (f := e234) rfl)
  have pt_Bench_changes : PySem.W.takesIn K (.ref (A_pr_Bench_changes K)) = some true := of_decide_eq_true (c.fact 235 (f := e235) rfl)
  obtain ⟨rest_Bench_changes, pc_Bench_changes⟩ := recB_ok (a := A_pr_Bench_changes) (f := A_f_Bench_changes) (s := "property") (c.fact 236 (f := e236) rfl)
  obtain ⟨oc_Bench_changes, od_Bench_changes, sl_Bench_changes, kV_Bench_changes, dc_Bench_changes, pm_Bench_changes, an_Bench_changes, cd_Bench_changes, ct_Bench_changes, l_Bench_changes, c_Bench_changes⟩ := fnV_ok (f := A_f_Bench_changes) (n := "changes") (q := "Bench.changes") (st := s_Bench_changes) (c.defn 30 (d := d30) rfl) (c.fact 237 (f := e237) rfl)
  have k_Bench_changes : PySem.W.keepIn K (.ref (A_f_Bench_changes K)) = true := (c.fact 238 (f := e238) rfl)
  have a_Bench_change : PySem.W.findIn K (.ref (A_Cb K)) "change" = some (some (.ref (A_f_Bench_change K))) := of_decide_eq_true (c.fact 239 (f := e239) rfl)
  have i_Bench_change : PySem.W.isFn K (.ref (A_f_Bench_change K)) = true := (c.fact 240 (f := e240) rfl)
  obtain ⟨oc_Bench_change, od_Bench_change, sl_Bench_change, kV_Bench_change, dc_Bench_change, pm_Bench_change, an_Bench_change, cd_Bench_change, ct_Bench_change, l_Bench_change, c_Bench_change⟩ := fnV_ok (f := A_f_Bench_change) (n := "change") (q := "Bench.change") (st := s_Bench_change) (c.defn 31 (d := d31) rfl) (c.fact 241 (f := e241) rfl)
  have k_Bench_change : PySem.W.keepIn K (.ref (A_f_Bench_change K)) = true := (c.fact 242 (f := e242) rfl)
  have a_Bench_setitem : PySem.W.findIn K (.ref (A_Cb K)) "__setitem__" = some (some (.ref (A_f_Bench_setitem K))) := of_decide_eq_true (c.fact 243 (f := e243) rfl)
  have i_Bench_setitem : PySem.W.isFn K (.ref (A_f_Bench_setitem K)) = true := (c.fact 244 (f := e244) rfl)
  obtain ⟨oc_Bench_setitem, od_Bench_setitem, sl_Bench_setitem, kV_Bench_setitem, dc_Bench_setitem, pm_Bench_setitem, an_Bench_setitem, cd_Bench_setitem, ct_Bench_setitem, l_Bench_setitem, c_Bench_setitem⟩ := fnV_ok (f := A_f_Bench_setitem) (n := "__setitem__") (q := "Bench.__setitem__") (st := s_Bench_setitem) (c.defn 32 (d := d32) rfl) (c.fact 245 (f := e245) rfl)
  have k_Bench_setitem : PySem.W.keepIn K (.ref (A_f_Bench_setitem K)) = true := (c.fact 246 (f := e246) rfl)
  have fi_set : PySem.W.fnIn K (A_f_Bench_setitem K) = true := (c.fact 247 (f := e247) rfl)
  have a_Bench_getitem : PySem.W.findIn K (.ref (A_Cb K)) "__getitem__" = some (some (.ref (A_f_Bench_getitem K))) := of_decide_eq_true (c.fact 248 (f := e248) rfl)
  have i_Bench_getitem : PySem.W.isFn K (.ref (A_f_Bench_getitem K)) = true := (c.fact 249 (f := e249) rfl)
  obtain ⟨oc_Bench_getitem, od_Bench_getitem, sl_Bench_getitem, kV_Bench_getitem, dc_Bench_getitem, pm_Bench_getitem, an_Bench_getitem, cd_Bench_getitem, ct_Bench_getitem, l_Bench_getitem, c_Bench_getitem⟩ := fnV_ok (f := A_f_Bench_getitem) (n := "__getitem__") (q := "Bench.__getitem__") (st := s_Bench_getitem) (c.defn 33 (d := d33) rfl) (c.fact 250 (f := e250) rfl)
  have k_Bench_getitem : PySem.W.keepIn K (.ref (A_f_Bench_getitem K)) = true := (c.fact 251 (f := e251) rfl)
  have fi_get : PySem.W.fnIn K (A_f_Bench_getitem K) = true := (c.fact 252 (f := e252) rfl)
  have a_Bench_drop : PySem.W.findIn K (.ref (A_Cb K)) "drop" = some (some (.ref (A_f_Bench_drop K))) := of_decide_eq_true (c.fact 253 (f := e253) rfl)
  have i_Bench_drop : PySem.W.isFn K (.ref (A_f_Bench_drop K)) = true := (c.fact 254 (f := e254) rfl)
  obtain ⟨oc_Bench_drop, od_Bench_drop, sl_Bench_drop, kV_Bench_drop, dc_Bench_drop, pm_Bench_drop, an_Bench_drop, cd_Bench_drop, ct_Bench_drop, l_Bench_drop, c_Bench_drop⟩ := fnV_ok (f := A_f_Bench_drop) (n := "drop") (q := "Bench.drop") (st := s_Bench_drop) (c.defn 34 (d := d34) rfl) (c.fact 255 (f := e255) rfl)
  have k_Bench_drop : PySem.W.keepIn K (.ref (A_f_Bench_drop K)) = true := (c.fact 256 (f := e256) rfl)
  have a_law_cell : PySem.W.nsIn K mainGlobals "_law_cell" = some (some (.ref (A_f_law_cell K))) := of_decide_eq_true (c.fact 257 (f := e257) rfl)
  obtain ⟨oc_law_cell, od_law_cell, sl_law_cell, kV_law_cell, dc_law_cell, pm_law_cell, an_law_cell, cd_law_cell, ct_law_cell, l_law_cell, c_law_cell⟩ := fnV_ok (f := A_f_law_cell) (n := "_law_cell") (q := "_law_cell") (st := s_law_cell) (c.defn 35 (d := d35) rfl) (c.fact 258 (f := e258) rfl)
  have k_law_cell : PySem.W.keepIn K (.ref (A_f_law_cell K)) = true := (c.fact 259 (f := e259) rfl)
  have a_law_src : PySem.W.nsIn K mainGlobals "_law_src" = some (some (.ref (A_f_law_src K))) := of_decide_eq_true (c.fact 260 (f := e260) rfl)
  obtain ⟨oc_law_src, od_law_src, sl_law_src, kV_law_src, dc_law_src, pm_law_src, an_law_src, cd_law_src, ct_law_src, l_law_src, c_law_src⟩ := fnV_ok (f := A_f_law_src) (n := "_law_src") (q := "_law_src") (st := s_law_src) (c.defn 36 (d := d36) rfl) (c.fact 261 (f := e261) rfl)
  have k_law_src : PySem.W.keepIn K (.ref (A_f_law_src K)) = true := (c.fact 262 (f := e262) rfl)
  have a_law_pick : PySem.W.nsIn K mainGlobals "_law_pick" = some (some (.ref (A_f_law_pick K))) := of_decide_eq_true (c.fact 263 (f := e263) rfl)
  obtain ⟨oc_law_pick, od_law_pick, sl_law_pick, kV_law_pick, dc_law_pick, pm_law_pick, an_law_pick, cd_law_pick, ct_law_pick, l_law_pick, c_law_pick⟩ := fnV_ok (f := A_f_law_pick) (n := "_law_pick") (q := "_law_pick") (st := s_law_pick) (c.defn 37 (d := d37) rfl) (c.fact 264 (f := e264) rfl)
  have k_law_pick : PySem.W.keepIn K (.ref (A_f_law_pick K)) = true := (c.fact 265 (f := e265) rfl)
  have a_law_anyrow : PySem.W.nsIn K mainGlobals "_law_anyrow" = some (some (.ref (A_f_law_anyrow K))) := of_decide_eq_true (c.fact 266 (f := e266) rfl)
  obtain ⟨oc_law_anyrow, od_law_anyrow, sl_law_anyrow, kV_law_anyrow, dc_law_anyrow, pm_law_anyrow, an_law_anyrow, cd_law_anyrow, ct_law_anyrow, l_law_anyrow, c_law_anyrow⟩ := fnV_ok (f := A_f_law_anyrow) (n := "_law_anyrow") (q := "_law_anyrow") (st := s_law_anyrow) (c.defn 38 (d := d38) rfl) (c.fact 267 (f := e267) rfl)
  have k_law_anyrow : PySem.W.keepIn K (.ref (A_f_law_anyrow K)) = true := (c.fact 268 (f := e268) rfl)
  have a_law_text : PySem.W.nsIn K mainGlobals "_law_text" = some (some (.ref (A_f_law_text K))) := of_decide_eq_true (c.fact 269 (f := e269) rfl)
  obtain ⟨oc_law_text, od_law_text, sl_law_text, kV_law_text, dc_law_text, pm_law_text, an_law_text, cd_law_text, ct_law_text, l_law_text, c_law_text⟩ := fnV_ok (f := A_f_law_text) (n := "_law_text") (q := "_law_text") (st := s_law_text) (c.defn 39 (d := d39) rfl) (c.fact 270 (f := e270) rfl)
  have k_law_text : PySem.W.keepIn K (.ref (A_f_law_text K)) = true := (c.fact 271 (f := e271) rfl)
  have a_law_pat : PySem.W.nsIn K mainGlobals "_law_pat" = some (some (.ref (A_f_law_pat K))) := of_decide_eq_true (c.fact 272 (f := e272) rfl)
  obtain ⟨oc_law_pat, od_law_pat, sl_law_pat, kV_law_pat, dc_law_pat, pm_law_pat, an_law_pat, cd_law_pat, ct_law_pat, l_law_pat, c_law_pat⟩ := fnV_ok (f := A_f_law_pat) (n := "_law_pat") (q := "_law_pat") (st := s_law_pat) (c.defn 40 (d := d40) rfl) (c.fact 273 (f := e273) rfl)
  have k_law_pat : PySem.W.keepIn K (.ref (A_f_law_pat K)) = true := (c.fact 274 (f := e274) rfl)
  have a_law_is_name : PySem.W.nsIn K mainGlobals "_law_is_name" = some (some (.ref (A_f_law_is_name K))) := of_decide_eq_true (c.fact 275 (f := e275) rfl)
  obtain ⟨oc_law_is_name, od_law_is_name, sl_law_is_name, kV_law_is_name, dc_law_is_name, pm_law_is_name, an_law_is_name, cd_law_is_name, ct_law_is_name, l_law_is_name, c_law_is_name⟩ := fnV_ok (f := A_f_law_is_name) (n := "_law_is_name") (q := "_law_is_name") (st := s_law_is_name) (c.defn 41 (d := d41) rfl) (c.fact 276 (f := e276) rfl)
  have k_law_is_name : PySem.W.keepIn K (.ref (A_f_law_is_name K)) = true := (c.fact 277 (f := e277) rfl)
  have a_law_anyword : PySem.W.nsIn K mainGlobals "_law_anyword" = some (some (.ref (A_f_law_anyword K))) := of_decide_eq_true (c.fact 278 (f := e278) rfl)
  obtain ⟨oc_law_anyword, od_law_anyword, sl_law_anyword, kV_law_anyword, dc_law_anyword, pm_law_anyword, an_law_anyword, cd_law_anyword, ct_law_anyword, l_law_anyword, c_law_anyword⟩ := fnV_ok (f := A_f_law_anyword) (n := "_law_anyword") (q := "_law_anyword") (st := s_law_anyword) (c.defn 42 (d := d42) rfl) (c.fact 279 (f := e279) rfl)
  have k_law_anyword : PySem.W.keepIn K (.ref (A_f_law_anyword K)) = true := (c.fact 280 (f := e280) rfl)
  have a_law_anything : PySem.W.nsIn K mainGlobals "_law_anything" = some (some (.ref (A_f_law_anything K))) := of_decide_eq_true (c.fact 281 (f := e281) rfl)
  obtain ⟨oc_law_anything, od_law_anything, sl_law_anything, kV_law_anything, dc_law_anything, pm_law_anything, an_law_anything, cd_law_anything, ct_law_anything, l_law_anything, c_law_anything⟩ := fnV_ok (f := A_f_law_anything) (n := "_law_anything") (q := "_law_anything") (st := s_law_anything) (c.defn 43 (d := d43) rfl) (c.fact 282 (f := e282) rfl)
  have k_law_anything : PySem.W.keepIn K (.ref (A_f_law_anything K)) = true := (c.fact 283 (f := e283) rfl)
  have a_law_put : PySem.W.nsIn K mainGlobals "_law_put" = some (some (.ref (A_f_law_put K))) := of_decide_eq_true (c.fact 284 (f := e284) rfl)
  obtain ⟨oc_law_put, od_law_put, sl_law_put, kV_law_put, dc_law_put, pm_law_put, an_law_put, cd_law_put, ct_law_put, l_law_put, c_law_put⟩ := fnV_ok (f := A_f_law_put) (n := "_law_put") (q := "_law_put") (st := s_law_put) (c.defn 44 (d := d44) rfl) (c.fact 285 (f := e285) rfl)
  have k_law_put : PySem.W.keepIn K (.ref (A_f_law_put K)) = true := (c.fact 286 (f := e286) rfl)
  have a_law_state_right : PySem.W.nsIn K mainGlobals "_law_state_right" = some (some (.ref (A_f_law_state_right K))) := of_decide_eq_true (c.fact 287 (f := e287) rfl)
  obtain ⟨oc_law_state_right, od_law_state_right, sl_law_state_right, kV_law_state_right, dc_law_state_right, pm_law_state_right, an_law_state_right, cd_law_state_right, ct_law_state_right, l_law_state_right, c_law_state_right⟩ := fnV_ok (f := A_f_law_state_right) (n := "_law_state_right") (q := "_law_state_right") (st := s_law_state_right) (c.defn 45 (d := d45) rfl) (c.fact 288 (f := e288) rfl)
  have k_law_state_right : PySem.W.keepIn K (.ref (A_f_law_state_right K)) = true := (c.fact 289 (f := e289) rfl)
  have a_law_refused_right : PySem.W.nsIn K mainGlobals "_law_refused_right" = some (some (.ref (A_f_law_refused_right K))) := of_decide_eq_true (c.fact 290 (f := e290) rfl)
  obtain ⟨oc_law_refused_right, od_law_refused_right, sl_law_refused_right, kV_law_refused_right, dc_law_refused_right, pm_law_refused_right, an_law_refused_right, cd_law_refused_right, ct_law_refused_right, l_law_refused_right, c_law_refused_right⟩ := fnV_ok (f := A_f_law_refused_right) (n := "_law_refused_right") (q := "_law_refused_right") (st := s_law_refused_right) (c.defn 46 (d := d46) rfl) (c.fact 291 (f := e291) rfl)
  have k_law_refused_right : PySem.W.keepIn K (.ref (A_f_law_refused_right K)) = true := (c.fact 292 (f := e292) rfl)
  have e_law_refused_right := cd_ok (f := A_f_law_refused_right) l_law_refused_right c_law_refused_right
  obtain ⟨ch_law_refused_right, kn_law_refused_right, tt_law_refused_right⟩ := c.tab 0 (p := A_f_law_refused_right) rfl
  obtain ⟨dC_law_refused_right, vC_law_refused_right, sC_law_refused_right, lc_law_refused_right, pl_law_refused_right⟩ := hd_ok ch_law_refused_right
  have a_law_right : PySem.W.nsIn K mainGlobals "_law_right" = some (some (.ref (A_f_law_right K))) := of_decide_eq_true (c.fact 293 (f := e293) rfl)
  obtain ⟨oc_law_right, od_law_right, sl_law_right, kV_law_right, dc_law_right, pm_law_right, an_law_right, cd_law_right, ct_law_right, l_law_right, c_law_right⟩ := fnV_ok (f := A_f_law_right) (n := "_law_right") (q := "_law_right") (st := s_law_right) (c.defn 47 (d := d47) rfl) (c.fact 294 (f := e294) rfl)
  have k_law_right : PySem.W.keepIn K (.ref (A_f_law_right K)) = true := (c.fact 295 (f := e295) rfl)
  have e_law_right := cd_ok (f := A_f_law_right) l_law_right c_law_right
  obtain ⟨ch_law_right, kn_law_right, tt_law_right⟩ := c.tab 1 (p := A_f_law_right) rfl
  obtain ⟨dC_law_right, vC_law_right, sC_law_right, lc_law_right, pl_law_right⟩ := hd_ok ch_law_right
  have a_law : PySem.W.nsIn K mainGlobals "law" = some (some (.ref (A_f_law K))) := of_decide_eq_true (c.fact 296 (f := e296) rfl)
  obtain ⟨oc_law, od_law, sl_law, kV_law, dc_law, pm_law, an_law, cd_law, ct_law, l_law, c_law⟩ := fnV_ok (f := A_f_law) (n := "law") (q := "law") (st := s_law) (c.defn 48 (d := d48) rfl) (c.fact 297 (f := e297) rfl)
  have k_law : PySem.W.keepIn K (.ref (A_f_law K)) = true := (c.fact 298 (f := e298) rfl)
  have e_law := cd_ok (f := A_f_law) l_law c_law
  obtain ⟨ch_law, kn_law, tt_law⟩ := c.tab 2 (p := A_f_law) rfl
  obtain ⟨dC_law, vC_law, sC_law, lc_law, pl_law⟩ := hd_ok ch_law
  have ne_law_refused_right_law_right : (A_PA_law_refused_right K) ≠ (A_PA_law_right K) := of_decide_eq_true (c.fact 299 (f := e299) rfl)
  have ne_law_refused_right_law : (A_PA_law_refused_right K) ≠ (A_PA_law K) := of_decide_eq_true (c.fact 300 (f := e300) rfl)
  have ne_law_right_law_refused_right : (A_PA_law_right K) ≠ (A_PA_law_refused_right K) := of_decide_eq_true (c.fact 301 (f := e301) rfl)
  have ne_law_right_law : (A_PA_law_right K) ≠ (A_PA_law K) := of_decide_eq_true (c.fact 302 (f := e302) rfl)
  have ne_law_law_refused_right : (A_PA_law K) ≠ (A_PA_law_refused_right K) := of_decide_eq_true (c.fact 303 (f := e303) rfl)
  have ne_law_law_right : (A_PA_law K) ≠ (A_PA_law_right K) := of_decide_eq_true (c.fact 304 (f := e304) rfl)
  exact all_mk X G hmg aG aOh aJo aOp laOp aWo laWo aLo aLe z_len z_abs z_int z_bool z_tuple z_isinstance z_divmod z_max z_min z_range z_all z_repr z_str z_enumerate z_list z_sorted z_dict aCm pgCm hdCm poCm saCm mkCm kcCm nCm_stored nCm_stated nCm_before nCm_depth aCb pgCb hdCb poCb saCb mkCb kcCb nCb_present ns_Cb nb_Cb a_is_integer l_is_integer c_is_integer k_is_integer a_is_integer_within l_is_integer_within c_is_integer_within k_is_integer_within a_is_piece l_is_piece c_is_piece k_is_piece a_pair_of l_pair_of c_pair_of k_pair_of a_common_divisor l_common_divisor c_common_divisor k_common_divisor a_lowest_terms l_lowest_terms c_lowest_terms k_lowest_terms a_matrix_and_scale l_matrix_and_scale c_matrix_and_scale k_matrix_and_scale aPi aJ pgJ hdJ poJ saJ mkJ kcJ nJ_row caJ cmJ cn ct aC pgC hdC poC saC mkC kcC nC_row nC_matrix nC_scale nC_four caC cmC kt_J rdC gaC a_checked_row l_checked_row c_checked_row k_checked_row a_lowest_pair l_lowest_pair c_lowest_pair k_lowest_pair a_piece_text l_piece_text c_piece_text k_piece_text a_piece_with_text l_piece_with_text c_piece_with_text k_piece_with_text a_JoinedRow_init i_JoinedRow_init l_JoinedRow_init c_JoinedRow_init k_JoinedRow_init a_Pattern_init i_Pattern_init l_Pattern_init c_Pattern_init k_Pattern_init sa_Pattern_read sc_Pattern_read l_Pattern_read c_Pattern_read k_Pattern_read pa_Pattern_pieces pg_Pattern_pieces pt_Pattern_pieces pc_Pattern_pieces l_Pattern_pieces c_Pattern_pieces k_Pattern_pieces kt_CNoneType kt_Cbool kt_Cint kt_Cstr kt_Clist kt_Cdict kt_Ctuple a_check_pattern l_check_pattern c_check_pattern k_check_pattern a_is_name l_is_name c_is_name k_is_name aX0 aX1 aX2 aX3 aX4 aX5 aX6 aX7 aX8 aX9 aX10 aX11 aX12 aX13 aX14 aX15 aX16 aX17 a_WrongValue_init i_WrongValue_init l_WrongValue_init c_WrongValue_init k_WrongValue_init rd_15 ga_15 fc_15 a_WrongName_init i_WrongName_init l_WrongName_init c_WrongName_init k_WrongName_init rd_16 ga_16 fc_16 a_NotAPattern_init i_NotAPattern_init l_NotAPattern_init c_NotAPattern_init k_NotAPattern_init xb_0 ro_0 any_0 ty_0 no_0 a_InvalidName_init i_InvalidName_init l_InvalidName_init c_InvalidName_init k_InvalidName_init xb_5 ro_5 any_5 ty_5 no_5 a_UnknownName_init i_UnknownName_init l_UnknownName_init c_UnknownName_init k_UnknownName_init xb_9 ro_9 any_9 ty_9 no_9 a_law_error l_law_error c_law_error k_law_error a_law_told l_law_told c_law_told k_law_told a_Moment_init i_Moment_init l_Moment_init c_Moment_init k_Moment_init a_Bench_init i_Bench_init l_Bench_init c_Bench_init k_Bench_init a_Bench_contains i_Bench_contains l_Bench_contains c_Bench_contains k_Bench_contains a_Bench_len i_Bench_len l_Bench_len c_Bench_len k_Bench_len pa_Bench_names pg_Bench_names pt_Bench_names pc_Bench_names l_Bench_names c_Bench_names k_Bench_names pa_Bench_claims pg_Bench_claims pt_Bench_claims pc_Bench_claims l_Bench_claims c_Bench_claims k_Bench_claims pa_Bench_changes pg_Bench_changes pt_Bench_changes pc_Bench_changes l_Bench_changes c_Bench_changes k_Bench_changes a_Bench_change i_Bench_change l_Bench_change c_Bench_change k_Bench_change a_Bench_setitem i_Bench_setitem l_Bench_setitem c_Bench_setitem k_Bench_setitem fi_set a_Bench_getitem i_Bench_getitem l_Bench_getitem c_Bench_getitem k_Bench_getitem fi_get a_Bench_drop i_Bench_drop l_Bench_drop c_Bench_drop k_Bench_drop a_law_cell l_law_cell c_law_cell k_law_cell a_law_src l_law_src c_law_src k_law_src a_law_pick l_law_pick c_law_pick k_law_pick a_law_anyrow l_law_anyrow c_law_anyrow k_law_anyrow a_law_text l_law_text c_law_text k_law_text a_law_pat l_law_pat c_law_pat k_law_pat a_law_is_name l_law_is_name c_law_is_name k_law_is_name a_law_anyword l_law_anyword c_law_anyword k_law_anyword a_law_anything l_law_anything c_law_anything k_law_anything a_law_put l_law_put c_law_put k_law_put a_law_state_right l_law_state_right c_law_state_right k_law_state_right a_law_refused_right l_law_refused_right c_law_refused_right k_law_refused_right e_law_refused_right lc_law_refused_right pl_law_refused_right ch_law_refused_right tt_law_refused_right kn_law_refused_right a_law_right l_law_right c_law_right k_law_right e_law_right lc_law_right pl_law_right ch_law_right tt_law_right kn_law_right a_law l_law c_law k_law e_law lc_law pl_law ch_law tt_law kn_law ne_law_refused_right_law_right ne_law_refused_right_law ne_law_right_law_refused_right ne_law_right_law ne_law_law_refused_right ne_law_law_right
end RL
open PySem PySem.W PySem.Calls PyProof.Rows
set_option maxHeartbeats 0 in
theorem PySem.Challenge.cw_rungladders_k61_patterns_under_names_holds : PySem.Challenge.rw_rungladders_k61_patterns_under_names.Holds := by
  w_on; o_law
  refine HandSHeadRun.head_any (r := OpenLaw.row PySem.Challenge.rw_rungladders_k61_patterns_under_names) (q := view (OpenLaw.row PySem.Challenge.rw_rungladders_k61_patterns_under_names).prog [103]) (H := RL.hkH) (ob := RL.obH) (M := 14000) (loose := RL.loL) (d := HandSHeadRun.topDef (OpenLaw.row PySem.Challenge.rw_rungladders_k61_patterns_under_names).prog 103) (kwd := []) RL.obH_eq
    (by kernel_rfl) (fun s => by kernel_rfl) RL.runH (by kernel_rfl) (by kernel_rfl) (by kernel_rfl) (by rfl) (by first | assumption | decide +kernel) (by decide +kernel) ⟨rfl, rfl, rfl, rfl, rfl, by decide +kernel⟩ ?hw ?hc
  case hw => w_witness2
  case hc =>
    refine RL.walk_ofZ (l := PySem.Challenge.rw_rungladders_k61_patterns_under_names) (n := 63) (k := 15) (x := "_law_script") rfl (by decide) (by kernel_rfl) ⟨rfl, by decide, by decide⟩ ?F
    intro w mg fa h Y G hmg0
    obtain ⟨K, KX, c⟩ := Y
    have hmg : mg ("law" : PySem.Str) = some (.ref fa) := by
      have e : (HandSHeadRun.topDef (OpenLaw.row PySem.Challenge.rw_rungladders_k61_patterns_under_names).prog 103).name = ("law" : PySem.Str) := by kernel_rfl
      rw [← e]
      exact hmg0
    exact ⟨K, KX, RL.factsH KX G hmg c⟩


