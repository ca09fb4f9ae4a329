import Derived.Test.YtncnkiabjhhclaaGreatDoorBgJa03
set_option maxRecDepth 100000
set_option maxHeartbeats 8000000
set_option linter.all false
namespace Go.Proofs.YtncnkiabjhhclaaGreatDoor
variable{M:Nat}{w':World}
def ou:=@Go.RowKit.Below.heap_setCell
def oV:=@Go.Addr.add_lit
open Go.RowKit
section
open NT
structure wU (M:Nat) (w w':World):Prop where
 os:w'.os=w.os
 tape:w'.tape=w.tape
 output:w'.output=w.output
 size:w.heap.size<=w'.heap.size
 block:∀g,g≠M->g<w.heap.size->w'.heap[g]? =w.heap[g]?
theorem wU.trans{a b c}(h:wU M a b)(k:wU M b c):wU M a c:=
 ⟨k.os.trans h.os,k.tape.trans h.tape,k.output.trans h.output,om h.size k.size,λg hg hl=>(k.block g hg (oU hl h.size)).trans (h.block g hg hl)⟩
def wU.vZ{w}(h:vV w w'):wU M w w':=⟨h.os,h.tape,h.output,h.size,λg _ hl=>h.block g hl⟩
theorem wU.alloc(M)(w)(o):wU M w (w.alloc o):=wU.vZ ((nW _ _).alloc (nV _) o)
def wU.set(M)(w)(o)(v):wU M w (w.setCell ⟨M,o,none⟩ v):=
 ⟨rfl,rfl,rfl,by simp[World.setCell],λg hg _=>ou _ _ _ _ hg⟩
theorem wU.cell{w}(h:wU M w w'){g o:Nat}{v:Value}(hg:g≠M)(hc:w.cell? ⟨g,o,none⟩=some v):w'.cell? ⟨g,o,none⟩=some v:=
 (pK (w:=w) (h.block g hg (oH _ _ hc))).trans hc
def wU.obj{w}(h:wU M w w'){g:Nat}{o:Obj}(hg:g≠M)(hc:w.heap[g]? =some o):w'.heap[g]? =some o:=
 (h.block g hg (wo hc)).trans hc
end
def opens(w:RW):Int:=if ZgD w [40]then 1 else if ZgD w [41]then -1 else 0
def Y2(n:Int):List RW->Bool
 | []=>false
 |w::r=>if 16<n+opens w then true else Y2 (n+opens w) r
def deep(l:List RW):Bool:=Y2 0 l
def ZGR{n}{w:RW}{r:List RW}:Y2 n (w::r)=if 16<n+opens w then true else Y2 (n+opens w) r:=by rw[Y2]
def ZIC{w:World}{B e size n:Nat}{v:Value}{xs:List Value}(h:w.ownsRow B e size v n xs)(hb:vV w w'):w'.ownsRow B e size v n xs:=by
 refine⟨h.1,?_⟩;rcases h.2 with h0|⟨g,cap,cur,rfl,hg,hh,r⟩
 ·exact jg
 ·exact lh
def Y8{w:World}{T:Nat}{cv pv rv:Value}{ty:TypeId}(h:w.heap[T]? =some (.cells #[cv,pv,rv] ty)):
  w.cell? ⟨T,0,none⟩=some cv/\w.cell? ⟨T,1,none⟩=some pv/\w.cell? ⟨T,2,none⟩=some rv/\(∀k,w.frozen? ⟨T,k,none⟩=false):=
 ⟨bq,bq,bq,λk=>dO⟩
def WR{w:World}{b k:Nat}{u:Value}{cur:Array Value}{e:TypeId}{fr:Nat×Nat}(h:w.heap[b]? =some (.cells cur e fr)):(w.setCell ⟨b,k,none⟩ u).heap[b]? =some (.cells (cur.setIfInBounds k u) e fr):=by
 simp[World.setCell,tY,h]
def ZF4(w:World)(a b c)(ty):∀j u, [a,b,c][j]? =some u->(w.alloc (.cells #[a,b,c] ty)).cell? ((⟨w.heap.size,0,none⟩:Addr).add j)=some u:=by
 intro j u h;obtain⟨q0,q1,q2,_⟩:=Y8 (oK w (.cells #[a,b,c] ty));rw[oV];rcases j with _|_|_|j
 ·cases h;exact q0
 ·cases h;exact q1
 ·cases h;exact q2
 ·simp at h
def ZtC(w:World)(o)(a b c)(ty):∀j u, [a,b,c][j]? =some u->((w.alloc o).alloc (.cells #[a,b,c] ty)).cell? ((⟨w.heap.size+1,0,none⟩:Addr).add j)=some u:=by
 have h:=ZF4 (w.alloc o) a b c ty;have e:(w.alloc o).heap.size=w.heap.size+1:=ae
 rw[e]at h;exact h
def map_id'{l:Except Nat (List RW)}:l.map (λx=> []++x)=l:=by cases l<;>rfl
def ZOI{l:Except Nat (List RW)}{a:List RW}{w:RW}:(l.map λx=>w::x).map (λx=>a++x)=l.map λx=>(a++ [w])++x:=by
 cases l
 ·rfl
 ·show Except.ok _=Except.ok _;simp
end Go.Proofs.YtncnkiabjhhclaaGreatDoor
