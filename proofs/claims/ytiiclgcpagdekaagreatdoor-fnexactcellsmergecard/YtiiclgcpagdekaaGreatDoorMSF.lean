/-
 Samples: what is right of each part, of the program.
-/
import Derived.Test.YtiiclgcpagdekaaGreatDoorMSE
namespace Go.Proofs.YtiiclgcpagdekaaGreatDoor
set_option linter.unusedVariables false
set_option linter.unusedSimpArgs false
open Go.ChangeShapes Go.WideShapes Go.ChangeAt Go.RowKit Go.PlainAid
set_option maxRecDepth 10000
def smpV (k:Int) (se:ByteArray) (v:Int) (wd:ByteArray) (wt:Int) (tm:Bool) (ti:Int):Value:=.agg #[.int .i64 k,.string se,.int .i64 v,.string wd,.int .u64 wt,.bool tm,.int .i64 ti]
def kindB (k:Int):Bool:=decide (1≤k) && decide (k≤4)
def valB (v:Int):Bool:=decide (-999999999999999999≤v) && decide (v≤999999999999999999)
def whatB (k v:Int) (wd:ByteArray):Bool:=if k=4 then decide (v=0) && tagB wd else valB v && decide (wd.size=0)
def weightB (k wt:Int):Bool:=decide (wt=1) || (decide (k=1) || decide (k=3)) && decide (0<wt) && decide (wt≤1000000)
def timeB (tm:Bool) (ti:Int):Bool:=if tm=true then decide (0≤ti) && decide (ti≤1000000000) else decide (ti=0)
noncomputable def smpB (k:Int) (se:ByteArray) (v:Int) (wd:ByteArray) (wt:Int) (tm:Bool) (ti:Int):Bool:=kindB k && serRB se && whatB k v wd && weightB k wt && timeB tm ti
structure SBox (w0 w:World) (g:Nat) (k:Int) (se:ByteArray) (v:Int) (wd:ByteArray) (wt:Int) (tm:Bool) (ti:Int) (T:TypeId):Prop where
 row:w.heap[g]?=some (.cells #[.int .i64 k,.string se,.int .i64 v,.string wd,.int .u64 wt,.bool tm,.int .i64 ti] T (0,0))
 bel:Below w0.heap.size w0 w
section
variable {w0 w:World} {g:Nat} {k:Int} {se:ByteArray} {v:Int} {wd:ByteArray} {wt:Int} {tm:Bool} {ti:Int} {T:TypeId}
end
structure Sx where
 k:Int
 se:ByteArray
 v:Int
 wd:ByteArray
 wt:Int
 tm:Bool
 ti:Int
noncomputable def Sx.B (x:Sx):Bool:=smpB x.k x.se x.v x.wd x.wt x.tm x.ti
structure Sx.Ok (x:Sx):Prop where
 k:I64 x.k
 v:I64 x.v
 wt:U64 x.wt
 ti:I64 x.ti
 se:x.se.size≤maxLen
 wd:x.wd.size≤maxLen
abbrev sxArr (x:Sx):Array Value:=#[.int .i64 x.k,.string x.se,.int .i64 x.v,.string x.wd,.int .u64 x.wt,.bool x.tm,.int .i64 x.ti]
set_option maxRecDepth 512
def hx (s:ByteArray):Nat→Int
 | 0=>14695981039346656037
 | n+1=>IntKind.u64.wrap (bits BinOp.xor IntKind.u64 (hx s n) (bt s n)*1099511628211)
def hashT (s:ByteArray):Int:=hx s s.size
def hashF (s:ByteArray):Int:=if s.size≤20000 then hashT s else 0
end Go.Proofs.YtiiclgcpagdekaaGreatDoor
