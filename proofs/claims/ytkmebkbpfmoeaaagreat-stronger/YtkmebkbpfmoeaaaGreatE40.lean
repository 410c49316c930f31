import Derived.Test.YtkmebkbpfmoeaaaGreatE39
set_option linter.unusedVariables false
set_option linter.unusedSimpArgs false
set_option maxHeartbeats 12800000
namespace Go.Proofs.YtkmebkbpfmoeaaaGreat
open Go Go.RowKit
set_option maxRecDepth 100000
namespace P
def kn0:List UInt8 × List Int × Bool × Bool:=([116,104,114,101,97,100,32,48,10,115,116,111,114,101,32,120,32,49,32,114,101,108,97,120,101,100,32,100,101,118,105,99,101,10,115,116,111,114,101,32,121,32,49,32,114,101,108,97,120,101,100,32,100,101,118,105,99,101,10,116,104,114,101,97,100,32,49,10,114,48,32,61,32,108,111,97,100,32,121,32,114,101,108,97,120,101,100,32,100,101,118,105,99,101,10,114,49,32,61,32,108,111,97,100,32,120,32,114,101,108,97,120,101,100,32,100,101,118,105,99,101,10],[1,0,1,1,1,0],true,false)
def kn1:List UInt8 × List Int × Bool × Bool:=([116,104,114,101,97,100,32,48,10,115,116,111,114,101,32,120,32,49,32,114,101,108,97,120,101,100,32,100,101,118,105,99,101,10,102,101,110,99,101,32,97,99,113,114,101,108,32,100,101,118,105,99,101,10,115,116,111,114,101,32,121,32,49,32,114,101,108,97,120,101,100,32,100,101,118,105,99,101,10,116,104,114,101,97,100,32,49,10,114,48,32,61,32,108,111,97,100,32,121,32,114,101,108,97,120,101,100,32,100,101,118,105,99,101,10,102,101,110,99,101,32,97,99,113,114,101,108,32,100,101,118,105,99,101,10,114,49,32,61,32,108,111,97,100,32,120,32,114,101,108,97,120,101,100,32,100,101,118,105,99,101,10],[1,0,1,1,1,0],false,false)
def kn2:List UInt8 × List Int × Bool × Bool:=([116,104,114,101,97,100,32,48,10,115,116,111,114,101,32,120,32,49,32,114,101,108,97,120,101,100,32,100,101,118,105,99,101,10,102,101,110,99,101,32,97,99,113,114,101,108,32,100,101,118,105,99,101,10,115,116,111,114,101,32,121,32,49,32,114,101,108,97,120,101,100,32,100,101,118,105,99,101,10,116,104,114,101,97,100,32,49,10,114,48,32,61,32,108,111,97,100,32,121,32,114,101,108,97,120,101,100,32,100,101,118,105,99,101,10,114,49,32,61,32,108,111,97,100,32,120,32,114,101,108,97,120,101,100,32,100,101,118,105,99,101,10],[1,0,1,1,1,0],true,false)
def kn3:List UInt8 × List Int × Bool × Bool:=([116,104,114,101,97,100,32,48,10,115,116,111,114,101,32,120,32,49,32,114,101,108,97,120,101,100,32,100,101,118,105,99,101,10,115,116,111,114,101,32,121,32,49,32,114,101,108,97,120,101,100,32,100,101,118,105,99,101,10,116,104,114,101,97,100,32,49,10,114,48,32,61,32,108,111,97,100,32,121,32,114,101,108,97,120,101,100,32,100,101,118,105,99,101,10,102,101,110,99,101,32,97,99,113,114,101,108,32,100,101,118,105,99,101,10,114,49,32,61,32,108,111,97,100,32,120,32,114,101,108,97,120,101,100,32,100,101,118,105,99,101,10],[1,0,1,1,1,0],true,false)
def kn4:List UInt8 × List Int × Bool × Bool:=([116,104,114,101,97,100,32,48,10,115,116,111,114,101,32,120,32,49,32,114,101,108,97,120,101,100,32,100,101,118,105,99,101,10,102,101,110,99,101,32,115,99,32,100,101,118,105,99,101,10,115,116,111,114,101,32,121,32,49,32,114,101,108,97,120,101,100,32,100,101,118,105,99,101,10,116,104,114,101,97,100,32,49,10,114,48,32,61,32,108,111,97,100,32,121,32,114,101,108,97,120,101,100,32,100,101,118,105,99,101,10,102,101,110,99,101,32,115,99,32,100,101,118,105,99,101,10,114,49,32,61,32,108,111,97,100,32,120,32,114,101,108,97,120,101,100,32,100,101,118,105,99,101,10],[1,0,1,1,1,0],false,false)
def kn5:List UInt8 × List Int × Bool × Bool:=([116,104,114,101,97,100,32,48,10,115,116,111,114,101,32,120,32,49,32,114,101,108,97,120,101,100,32,100,101,118,105,99,101,10,102,101,110,99,101,32,97,99,113,114,101,108,32,98,108,111,99,107,10,115,116,111,114,101,32,121,32,49,32,114,101,108,97,120,101,100,32,100,101,118,105,99,101,10,116,104,114,101,97,100,32,49,10,114,48,32,61,32,108,111,97,100,32,121,32,114,101,108,97,120,101,100,32,100,101,118,105,99,101,10,102,101,110,99,101,32,97,99,113,114,101,108,32,100,101,118,105,99,101,10,114,49,32,61,32,108,111,97,100,32,120,32,114,101,108,97,120,101,100,32,100,101,118,105,99,101,10],[1,0,1,1,1,0],true,false)
def kn6:List UInt8 × List Int × Bool × Bool:=([116,104,114,101,97,100,32,48,10,115,116,111,114,101,32,120,32,49,32,119,101,97,107,10,102,101,110,99,101,32,97,99,113,114,101,108,32,100,101,118,105,99,101,10,115,116,111,114,101,32,121,32,49,32,114,101,108,97,120,101,100,32,100,101,118,105,99,101,10,116,104,114,101,97,100,32,49,10,114,48,32,61,32,108,111,97,100,32,121,32,114,101,108,97,120,101,100,32,100,101,118,105,99,101,10,102,101,110,99,101,32,97,99,113,114,101,108,32,100,101,118,105,99,101,10,114,49,32,61,32,108,111,97,100,32,120,32,119,101,97,107,10],[1,0,1,1,1,0],false,true)
def kn7:List UInt8 × List Int × Bool × Bool:=([116,104,114,101,97,100,32,48,10,115,116,111,114,101,32,120,32,49,32,119,101,97,107,10,115,116,111,114,101,32,121,32,49,32,114,101,108,101,97,115,101,32,100,101,118,105,99,101,10,116,104,114,101,97,100,32,49,10,114,48,32,61,32,108,111,97,100,32,121,32,97,99,113,117,105,114,101,32,100,101,118,105,99,101,10,105,102,32,114,48,10,114,49,32,61,32,108,111,97,100,32,120,32,119,101,97,107,10,101,110,100,10],[1,0,1,1,1,0],false,false)
def kn8:List UInt8 × List Int × Bool × Bool:=([116,104,114,101,97,100,32,48,10,115,116,111,114,101,32,120,32,49,32,119,101,97,107,10,115,116,111,114,101,32,121,32,49,32,114,101,108,101,97,115,101,32,98,108,111,99,107,10,116,104,114,101,97,100,32,49,10,114,48,32,61,32,108,111,97,100,32,121,32,97,99,113,117,105,114,101,32,100,101,118,105,99,101,10,105,102,32,114,48,10,114,49,32,61,32,108,111,97,100,32,120,32,119,101,97,107,10,101,110,100,10],[1,0,1,1,1,0],true,true)
def kn9:List UInt8 × List Int × Bool × Bool:=([116,104,114,101,97,100,32,49,10,115,116,111,114,101,32,120,32,49,32,119,101,97,107,10,115,116,111,114,101,32,121,32,49,32,114,101,108,101,97,115,101,32,98,108,111,99,107,10,116,104,114,101,97,100,32,49,10,114,48,32,61,32,108,111,97,100,32,121,32,97,99,113,117,105,114,101,32,98,108,111,99,107,10,105,102,32,114,48,10,114,49,32,61,32,108,111,97,100,32,120,32,119,101,97,107,10,101,110,100,10],[1,0,1,1,1,0],false,false)
def kn10:List UInt8 × List Int × Bool × Bool:=([116,104,114,101,97,100,32,48,10,115,116,111,114,101,32,120,32,49,32,114,101,108,97,120,101,100,32,100,101,118,105,99,101,10,114,48,32,61,32,108,111,97,100,32,121,32,114,101,108,97,120,101,100,32,100,101,118,105,99,101,10,116,104,114,101,97,100,32,49,10,115,116,111,114,101,32,121,32,49,32,114,101,108,97,120,101,100,32,100,101,118,105,99,101,10,114,48,32,61,32,108,111,97,100,32,120,32,114,101,108,97,120,101,100,32,100,101,118,105,99,101,10],[0,0,0,1,0,0],true,false)
def kn11:List UInt8 × List Int × Bool × Bool:=([116,104,114,101,97,100,32,48,10,115,116,111,114,101,32,120,32,49,32,114,101,108,97,120,101,100,32,100,101,118,105,99,101,10,102,101,110,99,101,32,97,99,113,114,101,108,32,100,101,118,105,99,101,10,114,48,32,61,32,108,111,97,100,32,121,32,114,101,108,97,120,101,100,32,100,101,118,105,99,101,10,116,104,114,101,97,100,32,49,10,115,116,111,114,101,32,121,32,49,32,114,101,108,97,120,101,100,32,100,101,118,105,99,101,10,102,101,110,99,101,32,97,99,113,114,101,108,32,100,101,118,105,99,101,10,114,48,32,61,32,108,111,97,100,32,120,32,114,101,108,97,120,101,100,32,100,101,118,105,99,101,10],[0,0,0,1,0,0],true,false)
def kn12:List UInt8 × List Int × Bool × Bool:=([116,104,114,101,97,100,32,48,10,115,116,111,114,101,32,120,32,49,32,114,101,108,97,120,101,100,32,100,101,118,105,99,101,10,102,101,110,99,101,32,115,99,32,100,101,118,105,99,101,10,114,48,32,61,32,108,111,97,100,32,121,32,114,101,108,97,120,101,100,32,100,101,118,105,99,101,10,116,104,114,101,97,100,32,49,10,115,116,111,114,101,32,121,32,49,32,114,101,108,97,120,101,100,32,100,101,118,105,99,101,10,102,101,110,99,101,32,115,99,32,100,101,118,105,99,101,10,114,48,32,61,32,108,111,97,100,32,120,32,114,101,108,97,120,101,100,32,100,101,118,105,99,101,10],[0,0,0,1,0,0],false,false)
def kn13:List UInt8 × List Int × Bool × Bool:=([116,104,114,101,97,100,32,48,10,115,116,111,114,101,32,120,32,49,32,114,101,108,97,120,101,100,32,100,101,118,105,99,101,10,102,101,110,99,101,32,115,99,32,98,108,111,99,107,10,114,48,32,61,32,108,111,97,100,32,121,32,114,101,108,97,120,101,100,32,100,101,118,105,99,101,10,116,104,114,101,97,100,32,49,10,115,116,111,114,101,32,121,32,49,32,114,101,108,97,120,101,100,32,100,101,118,105,99,101,10,102,101,110,99,101,32,115,99,32,98,108,111,99,107,10,114,48,32,61,32,108,111,97,100,32,120,32,114,101,108,97,120,101,100,32,100,101,118,105,99,101,10],[0,0,0,1,0,0],true,false)
def kn14:List UInt8 × List Int × Bool × Bool:=([116,104,114,101,97,100,32,48,10,114,48,32,61,32,108,111,97,100,32,121,32,114,101,108,97,120,101,100,32,100,101,118,105,99,101,10,115,116,111,114,101,32,120,32,49,32,114,101,108,97,120,101,100,32,100,101,118,105,99,101,10,116,104,114,101,97,100,32,49,10,114,48,32,61,32,108,111,97,100,32,120,32,114,101,108,97,120,101,100,32,100,101,118,105,99,101,10,115,116,111,114,101,32,121,32,49,32,114,101,108,97,120,101,100,32,100,101,118,105,99,101,10],[0,0,1,1,0,1],true,false)
def kn15:List UInt8 × List Int × Bool × Bool:=([116,104,114,101,97,100,32,48,10,114,48,32,61,32,108,111,97,100,32,121,32,114,101,108,97,120,101,100,32,100,101,118,105,99,101,10,115,116,111,114,101,32,120,32,114,48,32,114,101,108,97,120,101,100,32,100,101,118,105,99,101,10,116,104,114,101,97,100,32,49,10,114,48,32,61,32,108,111,97,100,32,120,32,114,101,108,97,120,101,100,32,100,101,118,105,99,101,10,115,116,111,114,101,32,121,32,114,48,32,114,101,108,97,120,101,100,32,100,101,118,105,99,101,10],[0,0,1,1,0,1],false,false)
def kn16:List UInt8 × List Int × Bool × Bool:=([116,104,114,101,97,100,32,48,10,114,48,32,61,32,108,111,97,100,32,121,32,97,99,113,117,105,114,101,32,100,101,118,105,99,101,10,115,116,111,114,101,32,120,32,49,32,114,101,108,101,97,115,101,32,100,101,118,105,99,101,10,116,104,114,101,97,100,32,49,10,114,48,32,61,32,108,111,97,100,32,120,32,97,99,113,117,105,114,101,32,100,101,118,105,99,101,10,115,116,111,114,101,32,121,32,49,32,114,101,108,101,97,115,101,32,100,101,118,105,99,101,10],[0,0,1,1,0,1],false,false)
def kn17:List UInt8 × List Int × Bool × Bool:=([116,104,114,101,97,100,32,48,10,115,116,111,114,101,32,120,32,49,32,114,101,108,97,120,101,100,32,100,101,118,105,99,101,10,116,104,114,101,97,100,32,49,10,115,116,111,114,101,32,120,32,50,32,114,101,108,97,120,101,100,32,100,101,118,105,99,101,10,116,104,114,101,97,100,32,48,10,114,48,32,61,32,108,111,97,100,32,120,32,114,101,108,97,120,101,100,32,100,101,118,105,99,101,10,114,49,32,61,32,108,111,97,100,32,120,32,114,101,108,97,120,101,100,32,100,101,118,105,99,101,10,116,104,114,101,97,100,32,49,10,114,48,32,61,32,108,111,97,100,32,120,32,114,101,108,97,120,101,100,32,100,101,118,105,99,101,10,114,49,32,61,32,108,111,97,100,32,120,32,114,101,108,97,120,101,100,32,100,101,118,105,99,101,10],[2,0,1,2,1,2,3,0,2,3,1,1],false,false)
def kn18:List UInt8 × List Int × Bool × Bool:=([116,104,114,101,97,100,32,48,10,115,116,111,114,101,32,120,32,49,32,114,101,108,97,120,101,100,32,100,101,118,105,99,101,10,116,104,114,101,97,100,32,49,10,115,116,111,114,101,32,121,32,49,32,114,101,108,97,120,101,100,32,100,101,118,105,99,101,10,116,104,114,101,97,100,32,48,10,114,48,32,61,32,108,111,97,100,32,120,32,114,101,108,97,120,101,100,32,100,101,118,105,99,101,10,102,101,110,99,101,32,97,99,113,114,101,108,32,100,101,118,105,99,101,10,114,49,32,61,32,108,111,97,100,32,121,32,114,101,108,97,120,101,100,32,100,101,118,105,99,101,10,116,104,114,101,97,100,32,49,10,114,48,32,61,32,108,111,97,100,32,121,32,114,101,108,97,120,101,100,32,100,101,118,105,99,101,10,102,101,110,99,101,32,97,99,113,114,101,108,32,100,101,118,105,99,101,10,114,49,32,61,32,108,111,97,100,32,120,32,114,101,108,97,120,101,100,32,100,101,118,105,99,101,10],[2,0,1,2,1,0,3,0,1,3,1,0],true,false)
def kn19:List UInt8 × List Int × Bool × Bool:=([116,104,114,101,97,100,32,48,10,115,116,111,114,101,32,120,32,49,32,114,101,108,97,120,101,100,32,100,101,118,105,99,101,10,116,104,114,101,97,100,32,49,10,115,116,111,114,101,32,121,32,49,32,114,101,108,97,120,101,100,32,100,101,118,105,99,101,10,116,104,114,101,97,100,32,48,10,114,48,32,61,32,108,111,97,100,32,120,32,114,101,108,97,120,101,100,32,100,101,118,105,99,101,10,102,101,110,99,101,32,115,99,32,100,101,118,105,99,101,10,114,49,32,61,32,108,111,97,100,32,121,32,114,101,108,97,120,101,100,32,100,101,118,105,99,101,10,116,104,114,101,97,100,32,49,10,114,48,32,61,32,108,111,97,100,32,121,32,114,101,108,97,120,101,100,32,100,101,118,105,99,101,10,102,101,110,99,101,32,115,99,32,100,101,118,105,99,101,10,114,49,32,61,32,108,111,97,100,32,120,32,114,101,108,97,120,101,100,32,100,101,118,105,99,101,10],[2,0,1,2,1,0,3,0,1,3,1,0],false,false)
def kn20:List UInt8 × List Int × Bool × Bool:=([116,104,114,101,97,100,32,48,10,114,48,32,61,32,97,100,100,32,120,32,49,32,114,101,108,97,120,101,100,32,100,101,118,105,99,101,10,116,104,114,101,97,100,32,49,10,114,48,32,61,32,97,100,100,32,120,32,49,32,114,101,108,97,120,101,100,32,100,101,118,105,99,101,10],[0,0,0,1,0,0],false,false)
def kn21:List UInt8 × List Int × Bool × Bool:=([116,104,114,101,97,100,32,48,10,114,48,32,61,32,115,119,97,112,32,120,32,49,32,114,101,108,97,120,101,100,32,100,101,118,105,99,101,10,116,104,114,101,97,100,32,49,10,114,48,32,61,32,115,119,97,112,32,120,32,50,32,114,101,108,97,120,101,100,32,100,101,118,105,99,101,10],[0,0,2,1,0,1],false,false)
def kn22:List UInt8 × List Int × Bool × Bool:=([116,104,114,101,97,100,32,48,10,115,116,111,114,101,32,120,32,49,32,119,101,97,107,10,98,97,114,114,105,101,114,10,116,104,114,101,97,100,32,48,10,98,97,114,114,105,101,114,10,114,48,32,61,32,108,111,97,100,32,120,32,119,101,97,107,10],[1,0,0],false,false)
def kn23:List UInt8 × List Int × Bool × Bool:=([116,104,114,101,97,100,32,48,10,115,116,111,114,101,32,120,32,49,32,119,101,97,107,10,98,97,114,114,105,101,114,10,116,104,114,101,97,100,32,49,10,98,97,114,114,105,101,114,10,114,48,32,61,32,108,111,97,100,32,120,32,119,101,97,107,10],[1,0,0],true,true)
def kn24:List UInt8 × List Int × Bool × Bool:=([116,104,114,101,97,100,32,48,10,115,116,111,114,101,32,120,32,49,32,119,101,97,107,10,115,116,111,114,101,32,121,32,49,32,114,101,108,101,97,115,101,32,100,101,118,105,99,101,10,116,104,114,101,97,100,32,49,10,114,48,32,61,32,97,100,100,32,121,32,49,32,114,101,108,97,120,101,100,32,100,101,118,105,99,101,10,116,104,114,101,97,100,32,48,10,114,48,32,61,32,108,111,97,100,32,121,32,97,99,113,117,105,114,101,32,100,101,118,105,99,101,10,114,49,32,61,32,114,48,32,61,61,32,50,10,105,102,32,114,49,10,114,50,32,61,32,108,111,97,100,32,120,32,119,101,97,107,10,101,110,100,10],[2,0,2,2,2,0],false,false)
def kn25:List UInt8 × List Int × Bool × Bool:=([116,104,114,101,97,100,32,48,10,115,116,111,114,101,32,120,32,49,32,119,101,97,107,10,114,48,32,61,32,108,111,97,100,32,120,32,119,101,97,107,10],[0,0,0],false,false)
def kn26:List UInt8 × List Int × Bool × Bool:=([116,104,114,101,97,100,32,48,10,115,116,111,114,101,32,120,32,49,32,114,101,108,101,97,115,101,32,100,101,118,105,99,101,10,116,104,114,101,97,100,32,49,10,114,48,32,61,32,108,111,97,100,32,120,32,97,99,113,117,105,114,101,32,100,101,118,105,99,101,10,105,102,32,114,48,10,114,49,32,61,32,108,111,97,100,32,120,32,119,101,97,107,10,101,110,100,10],[1,0,1,1,1,0],false,false)
def kn27:List UInt8 × List Int × Bool × Bool:=([116,104,114,101,97,100,32,48,10,114,48,32,61,32,115,119,97,112,32,120,32,49,32,114,101,108,101,97,115,101,32,100,101,118,105,99,101,10,116,104,114,101,97,100,32,49,10,114,48,32,61,32,108,111,97,100,32,120,32,97,99,113,117,105,114,101,32,100,101,118,105,99,101,10,105,102,32,114,48,10,114,49,32,61,32,108,111,97,100,32,120,32,114,101,108,97,120,101,100,32,98,108,111,99,107,10,101,110,100,10],[1,0,1,1,1,0],false,false)
def kn28:List UInt8 × List Int × Bool × Bool:=([116,104,114,101,97,100,32,49,10,114,51,32,61,32,115,119,97,112,32,121,32,49,32,97,99,113,114,101,108,32,100,101,118,105,99,101,10,116,104,114,101,97,100,32,48,10,114,48,32,61,32,108,111,97,100,32,121,32,97,99,113,117,105,114,101,32,100,101,118,105,99,101,10,115,116,111,114,101,32,120,32,49,32,114,101,108,97,120,101,100,32,100,101,118,105,99,101,10,116,104,114,101,97,100,32,49,10,114,48,32,61,32,108,111,97,100,32,120,32,114,101,108,97,120,101,100,32,100,101,118,105,99,101,10,102,101,110,99,101,32,97,99,113,114,101,108,32,98,108,111,99,107,10,115,116,111,114,101,32,121,32,50,32,114,101,108,97,120,101,100,32,100,101,118,105,99,101,10],[0,3,2,1,0,1,2,0,1],false,false)
end P
def zDF (w:World) (l:List Obj):World:=l.foldl World.alloc w
theorem zDG:∀ (l:List Obj) (w:World),(zDF w l).heap.size=w.heap.size+l.length∧Below w.heap.size w (zDF w l)∧∀ j (h:j<l.length),(zDF w l).heap[w.heap.size+j]?=some l[j]
 | [],w=>⟨rfl,Below.refl _ _,fun j h=>by simp at h⟩
 | o::l,w=>by
  obtain⟨h1,h2,h3⟩:=zDG l (w.alloc o)
  have hs:(w.alloc o).heap.size=w.heap.size+1:=by simp
  have hb:Below w.heap.size w (w.alloc o):=(Below.refl _ _).alloc (Nat.le_refl _) _
  refine⟨by show (zDF (w.alloc o) l).heap.size=_;rw[h1,hs];simp;omega,zAo hb (Nat.le_refl _) h2,fun j hj=>?_⟩
  cases j with
  | zero=>exact (h2.block _ (by omega)).trans (heap_alloc_new w o)
  | succ j =>
   have:=h3 j (by simpa using hj)
   rw[hs] at this
   rw[show w.heap.size+(j+1)=w.heap.size+1+j by omega]
   simp only[List.getElem_cons_succ]
   exact this
namespace P
def kns:List (List UInt8 × List Int × Bool × Bool):=[kn0,kn1,kn2,kn3,kn4,kn5,kn6,kn7,kn8,kn9,kn10,kn11,kn12,kn13,kn14,kn15,kn16,kn17,kn18,kn19,kn20,kn21,kn22,kn23,kn24,kn25,kn26,kn27,kn28]
end P
def zIc (W:World) (g i:Nat) (x:List UInt8 × List Int × Bool × Bool):Prop:=∃ (s:ByteArray) (gw:Nat),s.toList=x.1∧W.cell? ⟨g,i*4,none⟩=some (.string s)∧W.cell? ⟨g,i*4+1,none⟩=some (.slice (some ⟨gw,0,none⟩) x.2.1.length x.2.1.length)∧W.cell? ⟨g,i*4+2,none⟩=some (.bool x.2.2.1)∧W.cell? ⟨g,i*4+3,none⟩=some (.bool x.2.2.2)∧zBF W (.slice (some ⟨gw,0,none⟩) x.2.1.length x.2.1.length) x.2.1
def zCT (b:Nat) (s0 s1 s2 s3 s4 s5 s6 s7 s8 s9 s10 s11 s12 s13 s14 s15 s16 s17 s18 s19 s20 s21 s22 s23 s24 s25 s26 s27 s28:ByteArray):Array Value:=#[.string s0,.slice (some ⟨b+0,0,none⟩) 6 6,.bool true,.bool false,.string s1,.slice (some ⟨b+0,0,none⟩) 6 6,.bool false,.bool false,.string s2,.slice (some ⟨b+0,0,none⟩) 6 6,.bool true,.bool false,.string s3,.slice (some ⟨b+0,0,none⟩) 6 6,.bool true,.bool false,.string s4,.slice (some ⟨b+0,0,none⟩) 6 6,.bool false,.bool false,.string s5,.slice (some ⟨b+0,0,none⟩) 6 6,.bool true,.bool false,.string s6,.slice (some ⟨b+0,0,none⟩) 6 6,.bool false,.bool true,.string s7,.slice (some ⟨b+0,0,none⟩) 6 6,.bool false,.bool false,.string s8,.slice (some ⟨b+0,0,none⟩) 6 6,.bool true,.bool true,.string s9,.slice (some ⟨b+0,0,none⟩) 6 6,.bool false,.bool false,.string s10,.slice (some ⟨b+1,0,none⟩) 6 6,.bool true,.bool false,.string s11,.slice (some ⟨b+1,0,none⟩) 6 6,.bool true,.bool false,.string s12,.slice (some ⟨b+1,0,none⟩) 6 6,.bool false,.bool false,.string s13,.slice (some ⟨b+1,0,none⟩) 6 6,.bool true,.bool false,.string s14,.slice (some ⟨b+2,0,none⟩) 6 6,.bool true,.bool false,.string s15,.slice (some ⟨b+3,0,none⟩) 6 6,.bool false,.bool false,.string s16,.slice (some ⟨b+4,0,none⟩) 6 6,.bool false,.bool false,.string s17,.slice (some ⟨b+5,0,none⟩) 12 12,.bool false,.bool false,.string s18,.slice (some ⟨b+6,0,none⟩) 12 12,.bool true,.bool false,.string s19,.slice (some ⟨b+7,0,none⟩) 12 12,.bool false,.bool false,.string s20,.slice (some ⟨b+1,0,none⟩) 6 6,.bool false,.bool false,.string s21,.slice (some ⟨b+8,0,none⟩) 6 6,.bool false,.bool false,.string s22,.slice (some ⟨b+9,0,none⟩) 3 3,.bool false,.bool false,.string s23,.slice (some ⟨b+10,0,none⟩) 3 3,.bool true,.bool true,.string s24,.slice (some ⟨b+11,0,none⟩) 6 6,.bool false,.bool false,.string s25,.slice (some ⟨b+12,0,none⟩) 3 3,.bool false,.bool false,.string s26,.slice (some ⟨b+0,0,none⟩) 6 6,.bool false,.bool false,.string s27,.slice (some ⟨b+0,0,none⟩) 6 6,.bool false,.bool false,.string s28,.slice (some ⟨b+13,0,none⟩) 9 9,.bool false,.bool false]
theorem zId {W:World} {b:Nat} {s0 s1 s2 s3 s4 s5 s6 s7 s8 s9 s10 s11 s12 s13 s14 s15 s16 s17 s18 s19 s20 s21 s22 s23 s24 s25 s26 s27 s28:ByteArray} (hg:W.heap[b+14]?=some (.cells (zCT b s0 s1 s2 s3 s4 s5 s6 s7 s8 s9 s10 s11 s12 s13 s14 s15 s16 s17 s18 s19 s20 s21 s22 s23 s24 s25 s26 s27 s28) 33 (0,0)))
  (h0:s0.toList=P.kn0.1) (h1:s1.toList=P.kn1.1) (h2:s2.toList=P.kn2.1) (h3:s3.toList=P.kn3.1) (h4:s4.toList=P.kn4.1) (h5:s5.toList=P.kn5.1) (h6:s6.toList=P.kn6.1) (h7:s7.toList=P.kn7.1) (h8:s8.toList=P.kn8.1) (h9:s9.toList=P.kn9.1) (h10:s10.toList=P.kn10.1) (h11:s11.toList=P.kn11.1) (h12:s12.toList=P.kn12.1) (h13:s13.toList=P.kn13.1) (h14:s14.toList=P.kn14.1) (h15:s15.toList=P.kn15.1) (h16:s16.toList=P.kn16.1) (h17:s17.toList=P.kn17.1) (h18:s18.toList=P.kn18.1) (h19:s19.toList=P.kn19.1) (h20:s20.toList=P.kn20.1) (h21:s21.toList=P.kn21.1) (h22:s22.toList=P.kn22.1) (h23:s23.toList=P.kn23.1) (h24:s24.toList=P.kn24.1) (h25:s25.toList=P.kn25.1) (h26:s26.toList=P.kn26.1) (h27:s27.toList=P.kn27.1) (h28:s28.toList=P.kn28.1)
  (r0:zAq W (b+0) [1,0,1,1,1,0]) (r1:zAq W (b+1) [0,0,0,1,0,0]) (r2:zAq W (b+2) [0,0,1,1,0,1]) (r3:zAq W (b+3) [0,0,1,1,0,1]) (r4:zAq W (b+4) [0,0,1,1,0,1]) (r5:zAq W (b+5) [2,0,1,2,1,2,3,0,2,3,1,1]) (r6:zAq W (b+6) [2,0,1,2,1,0,3,0,1,3,1,0]) (r7:zAq W (b+7) [2,0,1,2,1,0,3,0,1,3,1,0]) (r8:zAq W (b+8) [0,0,2,1,0,1]) (r9:zAq W (b+9) [1,0,0]) (r10:zAq W (b+10) [1,0,0]) (r11:zAq W (b+11) [2,0,2,2,2,0]) (r12:zAq W (b+12) [0,0,0]) (r13:zAq W (b+13) [0,3,2,1,0,1,2,0,1]):∀ i x,P.kns[i]?=some x→zIc W (b+14) i x:=by
 have hc:∀ j (v:Value),(zCT b s0 s1 s2 s3 s4 s5 s6 s7 s8 s9 s10 s11 s12 s13 s14 s15 s16 s17 s18 s19 s20 s21 s22 s23 s24 s25 s26 s27 s28)[j]?=some v→W.cell? ⟨b+14,j,none⟩=some v:=fun j v hv=>by simp only[World.cell?,hg];simpa using hv
 intro i x hx
 match i,hx with
 | 0,hx =>
  obtain rfl:P.kn0=x:=Option.some.inj hx
  exact⟨s0,b+0,h0,hc 0 _ rfl,hc 1 _ rfl,hc 2 _ rfl,hc 3 _ rfl,r0.rowI 6⟩
 | 1,hx =>
  obtain rfl:P.kn1=x:=Option.some.inj hx
  exact⟨s1,b+0,h1,hc 4 _ rfl,hc 5 _ rfl,hc 6 _ rfl,hc 7 _ rfl,r0.rowI 6⟩
 | 2,hx =>
  obtain rfl:P.kn2=x:=Option.some.inj hx
  exact⟨s2,b+0,h2,hc 8 _ rfl,hc 9 _ rfl,hc 10 _ rfl,hc 11 _ rfl,r0.rowI 6⟩
 | 3,hx =>
  obtain rfl:P.kn3=x:=Option.some.inj hx
  exact⟨s3,b+0,h3,hc 12 _ rfl,hc 13 _ rfl,hc 14 _ rfl,hc 15 _ rfl,r0.rowI 6⟩
 | 4,hx =>
  obtain rfl:P.kn4=x:=Option.some.inj hx
  exact⟨s4,b+0,h4,hc 16 _ rfl,hc 17 _ rfl,hc 18 _ rfl,hc 19 _ rfl,r0.rowI 6⟩
 | 5,hx =>
  obtain rfl:P.kn5=x:=Option.some.inj hx
  exact⟨s5,b+0,h5,hc 20 _ rfl,hc 21 _ rfl,hc 22 _ rfl,hc 23 _ rfl,r0.rowI 6⟩
 | 6,hx =>
  obtain rfl:P.kn6=x:=Option.some.inj hx
  exact⟨s6,b+0,h6,hc 24 _ rfl,hc 25 _ rfl,hc 26 _ rfl,hc 27 _ rfl,r0.rowI 6⟩
 | 7,hx =>
  obtain rfl:P.kn7=x:=Option.some.inj hx
  exact⟨s7,b+0,h7,hc 28 _ rfl,hc 29 _ rfl,hc 30 _ rfl,hc 31 _ rfl,r0.rowI 6⟩
 | 8,hx =>
  obtain rfl:P.kn8=x:=Option.some.inj hx
  exact⟨s8,b+0,h8,hc 32 _ rfl,hc 33 _ rfl,hc 34 _ rfl,hc 35 _ rfl,r0.rowI 6⟩
 | 9,hx =>
  obtain rfl:P.kn9=x:=Option.some.inj hx
  exact⟨s9,b+0,h9,hc 36 _ rfl,hc 37 _ rfl,hc 38 _ rfl,hc 39 _ rfl,r0.rowI 6⟩
 | 10,hx =>
  obtain rfl:P.kn10=x:=Option.some.inj hx
  exact⟨s10,b+1,h10,hc 40 _ rfl,hc 41 _ rfl,hc 42 _ rfl,hc 43 _ rfl,r1.rowI 6⟩
 | 11,hx =>
  obtain rfl:P.kn11=x:=Option.some.inj hx
  exact⟨s11,b+1,h11,hc 44 _ rfl,hc 45 _ rfl,hc 46 _ rfl,hc 47 _ rfl,r1.rowI 6⟩
 | 12,hx =>
  obtain rfl:P.kn12=x:=Option.some.inj hx
  exact⟨s12,b+1,h12,hc 48 _ rfl,hc 49 _ rfl,hc 50 _ rfl,hc 51 _ rfl,r1.rowI 6⟩
 | 13,hx =>
  obtain rfl:P.kn13=x:=Option.some.inj hx
  exact⟨s13,b+1,h13,hc 52 _ rfl,hc 53 _ rfl,hc 54 _ rfl,hc 55 _ rfl,r1.rowI 6⟩
 | 14,hx =>
  obtain rfl:P.kn14=x:=Option.some.inj hx
  exact⟨s14,b+2,h14,hc 56 _ rfl,hc 57 _ rfl,hc 58 _ rfl,hc 59 _ rfl,r2.rowI 6⟩
 | 15,hx =>
  obtain rfl:P.kn15=x:=Option.some.inj hx
  exact⟨s15,b+3,h15,hc 60 _ rfl,hc 61 _ rfl,hc 62 _ rfl,hc 63 _ rfl,r3.rowI 6⟩
 | 16,hx =>
  obtain rfl:P.kn16=x:=Option.some.inj hx
  exact⟨s16,b+4,h16,hc 64 _ rfl,hc 65 _ rfl,hc 66 _ rfl,hc 67 _ rfl,r4.rowI 6⟩
 | 17,hx =>
  obtain rfl:P.kn17=x:=Option.some.inj hx
  exact⟨s17,b+5,h17,hc 68 _ rfl,hc 69 _ rfl,hc 70 _ rfl,hc 71 _ rfl,r5.rowI 12⟩
 | 18,hx =>
  obtain rfl:P.kn18=x:=Option.some.inj hx
  exact⟨s18,b+6,h18,hc 72 _ rfl,hc 73 _ rfl,hc 74 _ rfl,hc 75 _ rfl,r6.rowI 12⟩
 | 19,hx =>
  obtain rfl:P.kn19=x:=Option.some.inj hx
  exact⟨s19,b+7,h19,hc 76 _ rfl,hc 77 _ rfl,hc 78 _ rfl,hc 79 _ rfl,r7.rowI 12⟩
 | 20,hx =>
  obtain rfl:P.kn20=x:=Option.some.inj hx
  exact⟨s20,b+1,h20,hc 80 _ rfl,hc 81 _ rfl,hc 82 _ rfl,hc 83 _ rfl,r1.rowI 6⟩
 | 21,hx =>
  obtain rfl:P.kn21=x:=Option.some.inj hx
  exact⟨s21,b+8,h21,hc 84 _ rfl,hc 85 _ rfl,hc 86 _ rfl,hc 87 _ rfl,r8.rowI 6⟩
 | 22,hx =>
  obtain rfl:P.kn22=x:=Option.some.inj hx
  exact⟨s22,b+9,h22,hc 88 _ rfl,hc 89 _ rfl,hc 90 _ rfl,hc 91 _ rfl,r9.rowI 3⟩
 | 23,hx =>
  obtain rfl:P.kn23=x:=Option.some.inj hx
  exact⟨s23,b+10,h23,hc 92 _ rfl,hc 93 _ rfl,hc 94 _ rfl,hc 95 _ rfl,r10.rowI 3⟩
 | 24,hx =>
  obtain rfl:P.kn24=x:=Option.some.inj hx
  exact⟨s24,b+11,h24,hc 96 _ rfl,hc 97 _ rfl,hc 98 _ rfl,hc 99 _ rfl,r11.rowI 6⟩
 | 25,hx =>
  obtain rfl:P.kn25=x:=Option.some.inj hx
  exact⟨s25,b+12,h25,hc 100 _ rfl,hc 101 _ rfl,hc 102 _ rfl,hc 103 _ rfl,r12.rowI 3⟩
 | 26,hx =>
  obtain rfl:P.kn26=x:=Option.some.inj hx
  exact⟨s26,b+0,h26,hc 104 _ rfl,hc 105 _ rfl,hc 106 _ rfl,hc 107 _ rfl,r0.rowI 6⟩
 | 27,hx =>
  obtain rfl:P.kn27=x:=Option.some.inj hx
  exact⟨s27,b+0,h27,hc 108 _ rfl,hc 109 _ rfl,hc 110 _ rfl,hc 111 _ rfl,r0.rowI 6⟩
 | 28,hx =>
  obtain rfl:P.kn28=x:=Option.some.inj hx
  exact⟨s28,b+13,h28,hc 112 _ rfl,hc 113 _ rfl,hc 114 _ rfl,hc 115 _ rfl,r13.rowI 9⟩
 | n+29,hx=>exact absurd hx (by simp[P.kns])
theorem zGi (w:World) (s0 s1 s2 s3 s4 s5 s6 s7 s8 s9 s10 s11 s12 s13 s14 s15 s16 s17 s18 s19 s20 s21 s22 s23 s24 s25 s26 s27 s28:ByteArray) (h0:s0.toList=P.kn0.1) (h1:s1.toList=P.kn1.1) (h2:s2.toList=P.kn2.1) (h3:s3.toList=P.kn3.1) (h4:s4.toList=P.kn4.1) (h5:s5.toList=P.kn5.1) (h6:s6.toList=P.kn6.1) (h7:s7.toList=P.kn7.1) (h8:s8.toList=P.kn8.1) (h9:s9.toList=P.kn9.1) (h10:s10.toList=P.kn10.1) (h11:s11.toList=P.kn11.1) (h12:s12.toList=P.kn12.1) (h13:s13.toList=P.kn13.1) (h14:s14.toList=P.kn14.1) (h15:s15.toList=P.kn15.1) (h16:s16.toList=P.kn16.1) (h17:s17.toList=P.kn17.1) (h18:s18.toList=P.kn18.1) (h19:s19.toList=P.kn19.1) (h20:s20.toList=P.kn20.1) (h21:s21.toList=P.kn21.1) (h22:s22.toList=P.kn22.1) (h23:s23.toList=P.kn23.1) (h24:s24.toList=P.kn24.1) (h25:s25.toList=P.kn25.1) (h26:s26.toList=P.kn26.1) (h27:s27.toList=P.kn27.1) (h28:s28.toList=P.kn28.1):(∀ i x,P.kns[i]?=some x→zIc (zDF w [.cells (zAL [1,0,1,1,1,0]) 3,.cells (zAL [0,0,0,1,0,0]) 3,.cells (zAL [0,0,1,1,0,1]) 3,.cells (zAL [0,0,1,1,0,1]) 3,.cells (zAL [0,0,1,1,0,1]) 3,.cells (zAL [2,0,1,2,1,2,3,0,2,3,1,1]) 3,.cells (zAL [2,0,1,2,1,0,3,0,1,3,1,0]) 3,.cells (zAL [2,0,1,2,1,0,3,0,1,3,1,0]) 3,.cells (zAL [0,0,2,1,0,1]) 3,.cells (zAL [1,0,0]) 3,.cells (zAL [1,0,0]) 3,.cells (zAL [2,0,2,2,2,0]) 3,.cells (zAL [0,0,0]) 3,.cells (zAL [0,3,2,1,0,1,2,0,1]) 3,.cells (zCT w.heap.size s0 s1 s2 s3 s4 s5 s6 s7 s8 s9 s10 s11 s12 s13 s14 s15 s16 s17 s18 s19 s20 s21 s22 s23 s24 s25 s26 s27 s28) 33]) (w.heap.size+14) i x)∧w.heap.size+14<(zDF w [.cells (zAL [1,0,1,1,1,0]) 3,.cells (zAL [0,0,0,1,0,0]) 3,.cells (zAL [0,0,1,1,0,1]) 3,.cells (zAL [0,0,1,1,0,1]) 3,.cells (zAL [0,0,1,1,0,1]) 3,.cells (zAL [2,0,1,2,1,2,3,0,2,3,1,1]) 3,.cells (zAL [2,0,1,2,1,0,3,0,1,3,1,0]) 3,.cells (zAL [2,0,1,2,1,0,3,0,1,3,1,0]) 3,.cells (zAL [0,0,2,1,0,1]) 3,.cells (zAL [1,0,0]) 3,.cells (zAL [1,0,0]) 3,.cells (zAL [2,0,2,2,2,0]) 3,.cells (zAL [0,0,0]) 3,.cells (zAL [0,3,2,1,0,1,2,0,1]) 3,.cells (zCT w.heap.size s0 s1 s2 s3 s4 s5 s6 s7 s8 s9 s10 s11 s12 s13 s14 s15 s16 s17 s18 s19 s20 s21 s22 s23 s24 s25 s26 s27 s28) 33]).heap.size∧Below w.heap.size w (zDF w [.cells (zAL [1,0,1,1,1,0]) 3,.cells (zAL [0,0,0,1,0,0]) 3,.cells (zAL [0,0,1,1,0,1]) 3,.cells (zAL [0,0,1,1,0,1]) 3,.cells (zAL [0,0,1,1,0,1]) 3,.cells (zAL [2,0,1,2,1,2,3,0,2,3,1,1]) 3,.cells (zAL [2,0,1,2,1,0,3,0,1,3,1,0]) 3,.cells (zAL [2,0,1,2,1,0,3,0,1,3,1,0]) 3,.cells (zAL [0,0,2,1,0,1]) 3,.cells (zAL [1,0,0]) 3,.cells (zAL [1,0,0]) 3,.cells (zAL [2,0,2,2,2,0]) 3,.cells (zAL [0,0,0]) 3,.cells (zAL [0,3,2,1,0,1,2,0,1]) 3,.cells (zCT w.heap.size s0 s1 s2 s3 s4 s5 s6 s7 s8 s9 s10 s11 s12 s13 s14 s15 s16 s17 s18 s19 s20 s21 s22 s23 s24 s25 s26 s27 s28) 33]):=by
 have hsp:=zDG [.cells (zAL [1,0,1,1,1,0]) 3,.cells (zAL [0,0,0,1,0,0]) 3,.cells (zAL [0,0,1,1,0,1]) 3,.cells (zAL [0,0,1,1,0,1]) 3,.cells (zAL [0,0,1,1,0,1]) 3,.cells (zAL [2,0,1,2,1,2,3,0,2,3,1,1]) 3,.cells (zAL [2,0,1,2,1,0,3,0,1,3,1,0]) 3,.cells (zAL [2,0,1,2,1,0,3,0,1,3,1,0]) 3,.cells (zAL [0,0,2,1,0,1]) 3,.cells (zAL [1,0,0]) 3,.cells (zAL [1,0,0]) 3,.cells (zAL [2,0,2,2,2,0]) 3,.cells (zAL [0,0,0]) 3,.cells (zAL [0,3,2,1,0,1,2,0,1]) 3,.cells (zCT w.heap.size s0 s1 s2 s3 s4 s5 s6 s7 s8 s9 s10 s11 s12 s13 s14 s15 s16 s17 s18 s19 s20 s21 s22 s23 s24 s25 s26 s27 s28) 33] w
 refine⟨zId (b:=w.heap.size) (hsp.2.2 14 (by simp)) h0 h1 h2 h3 h4 h5 h6 h7 h8 h9 h10 h11 h12 h13 h14 h15 h16 h17 h18 h19 h20 h21 h22 h23 h24 h25 h26 h27 h28 (hsp.2.2 0 (by simp)) (hsp.2.2 1 (by simp)) (hsp.2.2 2 (by simp)) (hsp.2.2 3 (by simp)) (hsp.2.2 4 (by simp)) (hsp.2.2 5 (by simp)) (hsp.2.2 6 (by simp)) (hsp.2.2 7 (by simp)) (hsp.2.2 8 (by simp)) (hsp.2.2 9 (by simp)) (hsp.2.2 10 (by simp)) (hsp.2.2 11 (by simp)) (hsp.2.2 12 (by simp)) (hsp.2.2 13 (by simp)),?_,hsp.2.1⟩
 have h9:=hsp.1
 simp only[List.length_cons,List.length_nil] at h9
 rw[h9];omega
theorem zGj (w:World) :
  Calls Tryz.prog 12 #[] w fun e w'=>e=.returned (.slice (some ⟨w.heap.size+14,0,none⟩) 29 29)∧(∀ i x,P.kns[i]?=some x→zIc w' (w.heap.size+14) i x)∧w.heap.size+14<w'.heap.size∧Below w.heap.size w w':=by
 go_enter Tryz.func12,Tryz.ntmps12
 go_wp2_with (first
  | (go_at_call 22;refine (zFe _ _ _ _ _ (by simp[zAO]) (by simp[zAO]) (by simp[zAO]) (by simp[zAO])).mono ?_;rintro e wp ⟨s0,rfl,hs0,rfl⟩;have hba:=zHD s0 _ ((zAI s0).symm.trans hs0);clear hs0;subst hba)
  | (go_at_call 23;refine (zED _ _ _ (by simp[zAO]) (by simp[zAO])).mono ?_;rintro e wp ⟨s1,rfl,hs1,rfl⟩;have hba:=zHD s1 _ ((zAI s1).symm.trans hs1);clear hs1;subst hba))
 go_ret
 refine⟨rfl,?_⟩
 exact zGi wp _ _ _ _ _ _ _ _ _ _ _ _ _ _ _ _ _ _ _ _ _ _ _ _ _ _ _ _ _ (by first | (simp only[zAr,zAc,zAj];rfl) | (rw[zAj];simp only[zAc];rfl) | (rw[zAc];rfl)) (by first | (simp only[zAr,zAc,zAj];rfl) | (rw[zAj];simp only[zAc];rfl) | (rw[zAc];rfl)) (by first | (simp only[zAr,zAc,zAj];rfl) | (rw[zAj];simp only[zAc];rfl) | (rw[zAc];rfl)) (by first | (simp only[zAr,zAc,zAj];rfl) | (rw[zAj];simp only[zAc];rfl) | (rw[zAc];rfl)) (by first | (simp only[zAr,zAc,zAj];rfl) | (rw[zAj];simp only[zAc];rfl) | (rw[zAc];rfl)) (by first | (simp only[zAr,zAc,zAj];rfl) | (rw[zAj];simp only[zAc];rfl) | (rw[zAc];rfl)) (by first | (simp only[zAr,zAc,zAj];rfl) | (rw[zAj];simp only[zAc];rfl) | (rw[zAc];rfl)) (by first | (simp only[zAr,zAc,zAj];rfl) | (rw[zAj];simp only[zAc];rfl) | (rw[zAc];rfl)) (by first | (simp only[zAr,zAc,zAj];rfl) | (rw[zAj];simp only[zAc];rfl) | (rw[zAc];rfl)) (by first | (simp only[zAr,zAc,zAj];rfl) | (rw[zAj];simp only[zAc];rfl) | (rw[zAc];rfl)) (by first | (simp only[zAr,zAc,zAj];rfl) | (rw[zAj];simp only[zAc];rfl) | (rw[zAc];rfl)) (by first | (simp only[zAr,zAc,zAj];rfl) | (rw[zAj];simp only[zAc];rfl) | (rw[zAc];rfl)) (by first | (simp only[zAr,zAc,zAj];rfl) | (rw[zAj];simp only[zAc];rfl) | (rw[zAc];rfl)) (by first | (simp only[zAr,zAc,zAj];rfl) | (rw[zAj];simp only[zAc];rfl) | (rw[zAc];rfl)) (by first | (simp only[zAr,zAc,zAj];rfl) | (rw[zAj];simp only[zAc];rfl) | (rw[zAc];rfl)) (by first | (simp only[zAr,zAc,zAj];rfl) | (rw[zAj];simp only[zAc];rfl) | (rw[zAc];rfl)) (by first | (simp only[zAr,zAc,zAj];rfl) | (rw[zAj];simp only[zAc];rfl) | (rw[zAc];rfl)) (by first | (simp only[zAr,zAc,zAj];rfl) | (rw[zAj];simp only[zAc];rfl) | (rw[zAc];rfl)) (by first | (simp only[zAr,zAc,zAj];rfl) | (rw[zAj];simp only[zAc];rfl) | (rw[zAc];rfl)) (by first | (simp only[zAr,zAc,zAj];rfl) | (rw[zAj];simp only[zAc];rfl) | (rw[zAc];rfl)) (by first | (simp only[zAr,zAc,zAj];rfl) | (rw[zAj];simp only[zAc];rfl) | (rw[zAc];rfl)) (by first | (simp only[zAr,zAc,zAj];rfl) | (rw[zAj];simp only[zAc];rfl) | (rw[zAc];rfl)) (by first | (simp only[zAr,zAc,zAj];rfl) | (rw[zAj];simp only[zAc];rfl) | (rw[zAc];rfl)) (by first | (simp only[zAr,zAc,zAj];rfl) | (rw[zAj];simp only[zAc];rfl) | (rw[zAc];rfl)) (by first | (simp only[zAr,zAc,zAj];rfl) | (rw[zAj];simp only[zAc];rfl) | (rw[zAc];rfl)) (by first | (simp only[zAr,zAc,zAj];rfl) | (rw[zAj];simp only[zAc];rfl) | (rw[zAc];rfl)) (by first | (simp only[zAr,zAc,zAj];rfl) | (rw[zAj];simp only[zAc];rfl) | (rw[zAc];rfl)) (by first | (simp only[zAr,zAc,zAj];rfl) | (rw[zAj];simp only[zAc];rfl) | (rw[zAc];rfl)) (by first | (simp only[zAr,zAc,zAj];rfl) | (rw[zAj];simp only[zAc];rfl) | (rw[zAc];rfl))
end Go.Proofs.YtkmebkbpfmoeaaaGreat
