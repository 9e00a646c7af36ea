import Derived.Test.YtpapdkhjdelfcabGreatHAA
import Derived.Deep.RegionWith
import Derived.Deep.DeepCutAuto
import Derived.Deep.LoopGhost
set_option maxRecDepth 100000
set_option maxHeartbeats 4000000
namespace Go.Proofs.YtpapdkhjdelfcabGreat
open Go.RowKit
/-! The changes of a pool,as the code makes them. -/
theorem atName_lt {id:ByteArray} {B:List BK} (h:∃b∈B,b.1=id):atName id B<B.length:=by
 unfold atName;rw [List.findIdx_lt_length];obtain ⟨b,hb,e⟩:=h;exact ⟨b,hb,str_eq.2 e⟩
theorem atName_is {id:ByteArray} {B:List BK} (h:atName id B<B.length):(B[atName id B]).1=id:=by
 exact str_eq.1 (List.findIdx_getElem (p:=fun b:BK=>b.1.toList==id.toList) (w:=h))
theorem atName_at {B:List BK} (hs:Srt B) {i:Nat} (hi:i<B.length):atName B[i].1 B=i:=by
 have hlt:atName B[i].1 B<B.length:=atName_lt ⟨B[i],List.getElem_mem hi,rfl⟩;have he:=atName_is hlt;by_cases h:atName B[i].1 B=i
 ·exact h
 ·exact absurd he (hs.ne hlt hi h)
def addE (B:List BK) (id:ByteArray) (n:Int):Int:=
 if id.size<1∨8<id.size then 2 else if n<0∨6<n then 5 else if atName id B<B.length then 3 else if 8≤B.length then 6 else 0
def addB (B:List BK) (id:ByteArray) (n:Int):List BK:=if addE B id n=0 then ins (id,n) B else B
def remE (B:List BK) (id:ByteArray):Int:=if atName id B<B.length then 0 else 4
def remB (B:List BK) (id:ByteArray):List BK:=if remE B id=0 then B.eraseIdx (atName id B) else B
def setE (B:List BK) (id:ByteArray) (n:Int):Int:=if n<0∨6<n then 5 else if atName id B<B.length then 0 else 4
def setB (B:List BK) (id:ByteArray) (n:Int):List BK:=if setE B id n=0 then B.set (atName id B) (id,n) else B
def Good (B:List BK):Prop:=PoolOK B∧Srt B
theorem Good.nil:Good []:=⟨⟨by simp,fun b hb=>by cases hb⟩,List.Pairwise.nil⟩
theorem not_there {id:ByteArray} {B:List BK} (h:¬atName id B<B.length):∀b∈B,b.1≠id:=fun b hb e=>h (atName_lt ⟨b,hb,e⟩)
theorem Good.add {B:List BK} (h:Good B) (id:ByteArray) (n:Int):Good (addB B id n):=by
 unfold addB;split
 ·rename_i he;unfold addE at he;split at he
  ·cases he
  split at he
  ·cases he
  split at he
  ·cases he
  split at he
  ·cases he
  rename_i h1 h2 h3 h4;refine ⟨⟨by rw [ins_len];omega,fun b hb=>?_⟩,ins_srt h.2 (not_there h3)⟩;rcases ins_mem.1 hb with rfl|hb
  ·exact ⟨by simp only;omega,by simp only;omega,by simp only;omega,by simp only;omega⟩
  ·exact h.1.2 b hb
 ·exact h
theorem Good.erase {B:List BK} (h:Good B) (p:Nat):Good (B.eraseIdx p):=
 ⟨⟨Nat.le_trans (List.length_eraseIdx_le _ _) h.1.1,fun b hb=>h.1.2 b (List.mem_of_mem_eraseIdx hb)⟩,erase_srt h.2 p⟩
theorem Good.rem {B:List BK} (h:Good B) (id:ByteArray):Good (remB B id):=by
 unfold remB;split
 ·exact h.erase _
 ·exact h
theorem Good.set {B:List BK} (h:Good B) (id:ByteArray) (n:Int):Good (setB B id n):=by
 unfold setB;split
 ·rename_i he;unfold setE at he;split at he
  ·cases he
  split at he
  ·rename_i h1 h2;refine ⟨⟨by simpa using h.1.1,fun b hb=>?_⟩,?_⟩
   ·rcases List.mem_or_eq_of_mem_set hb with hb|rfl
    ·exact h.1.2 b hb
    ·have:=h.1.2 _ (List.getElem_mem h2);rw [atName_is h2] at this;exact ⟨this.1,this.2.1,by simp only;omega,by simp only;omega⟩
   ·have:=set_srt h.2 h2 n;rw [atName_is h2] at this;exact this
  ·cases he
 ·exact h
def offW (b:BK):BK:=(b.1,(b.2+1) % 7)
theorem offW_len (B:List BK) (i:Nat):((B.drop i).map offW).length=B.length - i:=by simp
theorem fresh_add {B:List BK} (h:Good B) {i:Nat} (hi:i<B.length):addB ((B.drop (i+1)).map offW) B[i].1 ((B[i].2+1) % 7)=(B.drop i).map offW:=by
 obtain ⟨⟨h8,hall⟩,hs⟩:=h;have hb:=hall _ (List.getElem_mem hi)
 have hgt:∀b∈(B.drop (i+1)).map offW,less B[i].1 b.1=true:=by
  intro b hb;obtain ⟨x,hx,rfl⟩:=List.mem_map.1 hb;obtain ⟨j,hj,rfl⟩:=List.getElem_of_mem hx;simp only [List.length_drop] at hj;rw [List.getElem_drop];exact List.pairwise_iff_getElem.1 hs i (i+1+j) hi (by omega) (by omega)
 have hno:¬atName B[i].1 ((B.drop (i+1)).map offW)<((B.drop (i+1)).map offW).length:=by
  intro hlt;have h1:=atName_is hlt;have h2:=hgt _ (List.getElem_mem hlt);rw [h1,less_irrefl] at h2;cases h2
 have he:addE ((B.drop (i+1)).map offW) B[i].1 ((B[i].2+1) % 7)=0:=by
  unfold addE;rw [if_neg (by omega),if_neg (by omega),if_neg hno,if_neg (by rw [offW_len];omega)]
 rw [addB,if_pos he,ins_first (m:=(B[i].1,(B[i].2+1) % 7)) hgt];rw [List.drop_eq_getElem_cons hi,List.map_cons];rfl
theorem there_in_out {B:List BK} (h:Srt B) (id:ByteArray) (n:Int) (ha:addE B id n=0):remB (addB B id n) id=B:=by
 have hno:¬atName id B<B.length:=by
  intro hlt;unfold addE at ha;split at ha
  ·cases ha
  split at ha
  ·cases ha
  first|(rw [if_pos hlt] at ha;cases ha)|cases ha
 have hsrt:=ins_srt (m:=(id,n)) h (not_there hno);obtain ⟨p,hp,⟨h1,h2⟩,h3⟩:=ins_place (id,n) B
 have hat:atName id (ins (id,n) B)=p:=by
  have:=atName_at hsrt h1;rw [h2] at this;exact this
 rw [addB,if_pos ha,remB,remE,hat,if_pos (by rw [if_pos h1]),h3]
theorem fresh_set {B:List BK} (h:Good B) {i:Nat} (hi:i<B.length):
  setE (B.take i++(B.drop i).map offW) B[i].1 B[i].2=0∧setB (B.take i++(B.drop i).map offW) B[i].1 B[i].2=B.take (i+1)++(B.drop (i+1)).map offW:=by
 obtain ⟨⟨h8,hall⟩,hs⟩:=h;have hb:=hall _ (List.getElem_mem hi)
 have hnames:(B.take i++(B.drop i).map offW).map (·.1)=B.map (·.1):=by
  rw [List.map_append,List.map_map];have:(fun b:BK=>b.1) ∘ offW=fun b:BK=>b.1:=rfl
  rw [this,←List.map_append,List.take_append_drop]
 have hat:∀(X Y:List BK) (id:ByteArray),X.map (·.1)=Y.map (·.1)→atName id X=atName id Y:=by
  intro X Y id e
  have hf:∀Z:List BK,atName id Z=(Z.map (·.1)).findIdx (fun x=>x.toList==id.toList):=fun Z=>by
   unfold atName;rw [List.findIdx_map];rfl
  rw [hf,hf,e]
 have ha:atName B[i].1 (B.take i++(B.drop i).map offW)=i:=by rw [hat _ _ _ hnames];exact atName_at hs hi
 have hlen:(B.take i++(B.drop i).map offW).length=B.length:=by simp;omega
 have he:setE (B.take i++(B.drop i).map offW) B[i].1 B[i].2=0:=by
  unfold setE;rw [if_neg (by omega),ha,if_pos (by omega)]
 refine ⟨he,?_⟩;rw [setB,if_pos he,ha,List.set_append_right _ _ (by simp;omega)];rw [List.drop_eq_getElem_cons hi,List.map_cons];have hz:i - (B.take i).length=0:=by simp;omega
 rw [hz,List.set_cons_zero,List.take_succ_eq_append_getElem hi,List.append_assoc];rfl
end Go.Proofs.YtpapdkhjdelfcabGreat
namespace Go.Proofs.YtpapdkhjdelfcabGreat
open Go.RowKit
/-! What the code's functions come to,as functions. -/
def rotF (x:Int) (n:Nat):Int:=bits .or .u64 (x * 2 ^ n % 18446744073709551616) (x / 2 ^ (64 - n))
structure S4 where
 a:Int
 b:Int
 c:Int
 d:Int
def S4.round (s:S4):S4:=
 let a1:=(s.a+s.b) % 18446744073709551616
 let b1:=bits .xor .u64 (rotF s.b 13) a1
 let a2:=rotF a1 32
 let c1:=(s.c+s.d) % 18446744073709551616
 let d1:=bits .xor .u64 (rotF s.d 16) c1
 let a3:=(a2+d1) % 18446744073709551616
 let d2:=bits .xor .u64 (rotF d1 21) a3
 let c2:=(c1+b1) % 18446744073709551616
 let b2:=bits .xor .u64 (rotF b1 17) c2
 ⟨a3,b2,rotF c2 32,d2⟩
def S4.take (s:S4) (m:Int):S4:=
 let s1:=S4.round (S4.round ⟨s.a,s.b,s.c,bits .xor .u64 s.d m⟩)
 ⟨bits .xor .u64 s1.a m,s1.b,s1.c,s1.d⟩
def byteAt (t:ByteArray) (i:Nat):Int:=if h:i<t.size then (t[i].toNat:Int) else 0
def wordTo (t:ByteArray) (f:Nat):Nat→Int
 |0=>0
 |n+1=>let v:=wordTo t f n * 256 % 18446744073709551616
  if f+(7 - n)<t.size then bits .or .u64 v (byteAt t (f+(7 - n))) else v
def wordF (t:ByteArray) (f:Nat):Int:=wordTo t f 8
def sipBegin (k l:Int):S4:=⟨bits .xor .u64 k 8317987319222330741,bits .xor .u64 l 7237128888997146477,bits .xor .u64 k 7816392313619706465,bits .xor .u64 l 8387220255154660723⟩
def sipTo (t:ByteArray) (s:S4):Nat→S4
 |0=>s
 |n+1=>(sipTo t s n).take (wordF t (8 * n))
def sipSum (key t:ByteArray):Int:=
 let s:=sipTo t (sipBegin (wordF key 0) (wordF key 8)) (t.size / 8)
 let s:=s.take (bits .or .u64 (wordF t (8 * (t.size / 8))) ((t.size:Int) * 72057594037927936 % 18446744073709551616))
 let s:S4:=⟨s.a,s.b,bits .xor .u64 s.c 255,s.d⟩
 let s:=s.round.round.round.round
 bits .xor .u64 (bits .xor .u64 (bits .xor .u64 s.a s.b) s.c) s.d
def headOf (letter:UInt8) (nums:List Nat):List UInt8:=letter::nums.flatMap fun n=>[UInt8.ofNat (n / 256),UInt8.ofNat n]
def hsh (key:ByteArray) (letter:UInt8) (nums:List Nat) (t:ByteArray):Int:=sipSum key (ByteArray.mk (headOf letter nums).toArray++t)
def restF (h m:Int):Int:=if m<1 then 0 else h % m
def wSum (B:List BK):Int:=(B.map (·.2)).sum
def wayOf (c:Cfg) (b:BK):Int×Int:=(restF (hsh c.key 111 [] b.1) c.slots,restF (hsh c.key 115 [] b.1) (c.slots - 1)+1)
def stepOf (n:Nat) (w:Int×Int) (i:Nat):Nat:=((w.1+i * w.2) % n).toNat
def freeF (S:List Int) (w:Int×Int):Option Nat:=((List.range S.length).map (stepOf S.length w)).find? fun s=>S.getD s 0<0
def bestTo (R:List Int):Nat→Int×Int
 |0=>(-1, -1)
 |n+1=>if (bestTo R n).2<R.getD n 0 then ((n:Int),R.getD n 0) else bestTo R n
def bestF (R:List Int):Int:=(bestTo R R.length).1
def giveF:Nat→List Int→List Int→List Int
 |0,s,_=>s
 |n+1,s,r=>if bestF r<0 then s else giveF n (s.set (bestF r).toNat (s.getD (bestF r).toNat 0+1)) (r.set (bestF r).toNat (-1))
def lowF (M:Int) (B:List BK):List Int:=B.map fun b=>M * b.2 / wSum B
def remF (M:Int) (B:List BK):List Int:=B.map fun b=>M * b.2 % wSum B
def sharesF (M:Int) (B:List BK):List Int:=if wSum B<1 then [] else giveF (M - (lowF M B).sum).toNat (lowF M B) (remF M B)
def turnF (W:List (Int×Int)) (S:List Int) (i:Nat):List Int:=match freeF S (W.getD i (0,0)) with
 |some k=>S.set k i
 |none=>S
def roundTo (W:List (Int×Int)) (sh:List Int) (r:Nat) (S:List Int):Nat→List Int
 |0=>S
 |n+1=>if sh.getD n 0≤r then roundTo W sh r S n else turnF W (roundTo W sh r S n) n
def fillTo (W:List (Int×Int)) (sh:List Int) (S:List Int):Nat→List Int
 |0=>S
 |r+1=>roundTo W sh r (fillTo W sh S r) sh.length
abbrev EI:=Int×Int
def maglevF (c:Cfg) (B:List BK):List Int:=fillTo (B.map (wayOf c)) (sharesF c.slots B) (List.replicate c.slots.toNat (-1)) c.slots.toNat
def winTo (key:ByteArray) (s:Nat) (i:Nat) (id:ByteArray) (m:Int×Int):Nat→Int×Int
 |0=>m
 |k+1=>let h:=hsh key 104 [s,k] id
  let p:=winTo key s i id m k
  if p.1<0∨p.2<h then ((i:Int),h) else p
def winnerTo (key:ByteArray) (s:Nat) (B:List BK):Nat→Int×Int
 |0=>(-1,0)
 |i+1=>match B[i]? with
  |some b=>winTo key s i b.1 (winnerTo key s B i) b.2.toNat
  |none=>winnerTo key s B i
def winnerF (key:ByteArray) (B:List BK) (s:Nat):Int:=(winnerTo key s B B.length).1
def ptsOf (key:ByteArray) (letter:UInt8) (each:Int) (i:Nat) (b:BK):List EI:=(List.range (each * b.2).toNat).map fun k=>(hsh key letter [k] b.1,(i:Int))
def ptsTo (key:ByteArray) (letter:UInt8) (each:Int) (B:List BK):Nat→List EI
 |0=>[]
 |i+1=>match B[i]? with
  |some b=>ptsTo key letter each B i++ptsOf key letter each i b
  |none=>ptsTo key letter each B i
def insE (e:EI):List EI→List EI
 |[]=>[e]
 |x::l=>if e.1<x.1 then e::x::l else x::insE e l
def sortTo (L:List EI):Nat→List EI
 |0=>[]
 |n+1=>match L[n]? with
  |some e=>insE e (sortTo L n)
  |none=>sortTo L n
def pointsF (key:ByteArray) (letter:UInt8) (each:Int) (B:List BK):List EI:=sortTo (ptsTo key letter each B B.length) (ptsTo key letter each B B.length).length
def mkF (c:Cfg) (B:List BK):List EI:=
 if wSum B<1 then []
 else if c.alg=1 then (maglevF c B).map fun o=>(0,o)
 else if c.alg=2 then pointsF c.key 114 c.points B
 else if c.alg=3 then (List.range c.slots.toNat).map fun s=>(0,winnerF c.key B s)
 else if c.alg=4 then pointsF c.key 109 1 B
 else []
def nameF (B:List BK) (i:Int):ByteArray:=if i<0 then ByteArray.empty else ((B[i.toNat]?).map (·.1)).getD ByteArray.empty
def nextF (E:List EI) (h:Int):Nat:=if E.findIdx (fun e=>h≤e.1)<E.length then E.findIdx (fun e=>h≤e.1) else 0
def probeTo (c:Cfg) (E:List EI) (k:ByteArray):Nat→Nat×Int
 |0=>(0,0)
 |n+1=>let h:=hsh c.key 112 [n] k
  let d:=((E.getD (nextF E h) (0,0)).1 - h) % 18446744073709551616
  if n=0∨d<(probeTo c E k n).2 then (nextF E h,d) else probeTo c E k n
def findF (c:Cfg) (E:List EI) (k:ByteArray):Nat:=
 if E.length=0 then 0
 else if c.alg=4 then (probeTo c E k c.probes.toNat).1
 else if c.alg=2 then nextF E (hsh c.key 107 [] k)
 else (hsh c.key 107 [] k % E.length).toNat
def ownerF (c:Cfg) (B:List BK) (k:ByteArray):ByteArray×Int:=match (mkF c B)[findF c (mkF c B) k]? with
 |some e=>(nameF B e.2,0)
 |none=>(ByteArray.empty,8)
end Go.Proofs.YtpapdkhjdelfcabGreat
namespace Go.Proofs.YtpapdkhjdelfcabGreat
open Go.RowKit
def mask (M:List Nat) (w:World):World:={w with heap:=w.heap.mapIdx fun i o=>if i∈M then Obj.cells #[] 0 else o}
theorem mask_size (M:List Nat) (w:World):(mask M w).heap.size=w.heap.size:=by simp [mask]
theorem mask_block (M:List Nat) (w:World) (k:Nat) (h:k∉M):(mask M w).heap[k]?=w.heap[k]?:=by
 simp only [mask,Array.getElem?_mapIdx];cases w.heap[k]? <;>simp [h]
theorem mask_in (M:List Nat) (w:World) (k:Nat) (h:k∈M) (hk:k<w.heap.size):(mask M w).heap[k]?=some (Obj.cells #[] 0):=by
 simp only [mask,Array.getElem?_mapIdx];rw [Array.getElem?_eq_getElem hk];simp [h]
theorem mask_cell {M:List Nat} {w:World} {a:Addr} {v:Value}:(mask M w).cell? a=some v↔w.cell? a=some v∧a.block∉M:=by
 constructor
 ·intro h;by_cases hm:a.block∈M
  ·exfalso;have hlt:=World.block_lt_of_cell? _ _ h;rw [mask_size] at hlt;simp only [World.cell?,mask_in M w _ hm hlt] at h;split at h <;>simp at h
  ·refine ⟨?_,hm⟩;rw [←World.cell?_of_block (w:=w) (mask_block M w a.block hm)];exact h
 ·intro ⟨h,hm⟩;rw [World.cell?_of_block (w:=w) (mask_block M w a.block hm)];exact h
def But (M:List Nat) (w w':World):Prop:=Bel (mask M w) (mask M w')
theorem But.refl (M:List Nat) (w:World):But M w w:=Bel.refl _
theorem But.trans {M:List Nat} {a b c:World} (h:But M a b) (k:But M b c):But M a c:=Bel.trans h k
theorem But.mk {M:List Nat} {w w':World} (h1:w'.os=w.os) (h2:w'.tape=w.tape) (h3:w'.output=w.output) (h4:w.heap.size≤w'.heap.size) (h5:∀k,k<w.heap.size→k∉M→w'.heap[k]?=w.heap[k]?):But M w w':=by
 refine ⟨h1,h2,h3,by rw [mask_size,mask_size];exact h4,fun k hk=>?_⟩;rw [mask_size] at hk;by_cases hm:k∈M
 ·rw [mask_in M w k hm hk,mask_in M w' k hm (by omega)]
 ·rw [mask_block _ _ _ hm,mask_block _ _ _ hm];exact h5 k hk hm
theorem But.os {M:List Nat} {w w':World} (h:But M w w'):w'.os=w.os:=h.below.os
theorem But.tape {M:List Nat} {w w':World} (h:But M w w'):w'.tape=w.tape:=h.below.tape
theorem But.output {M:List Nat} {w w':World} (h:But M w w'):w'.output=w.output:=h.below.output
theorem But.size {M:List Nat} {w w':World} (h:But M w w'):w.heap.size≤w'.heap.size:=by
 have:=Bel.size h;rw [mask_size,mask_size] at this;exact this
theorem But.block {M:List Nat} {w w':World} (h:But M w w') (k:Nat) (hk:k<w.heap.size) (hm:k∉M):w'.heap[k]?=w.heap[k]?:=by
 have:=Bel.block h k (by rw [mask_size];exact hk);rw [mask_block _ _ _ hm,mask_block _ _ _ hm] at this;exact this
theorem But.mono {M M':List Nat} {w w':World} (h:But M w w') (hm:∀k∈M,k∈M'∨w.heap.size≤k):But M' w w':=
 But.mk h.os h.tape h.output h.size (fun k hk hn=>h.block k hk (fun hh=>by rcases hm k hh with h1|h1;exact hn h1;omega))
theorem But.of_bel {M:List Nat} {w w':World} (h:Bel w w'):But M w w':=
 But.mk h.below.os h.below.tape h.below.output h.size (fun k hk _=>h.block k hk)
theorem But.bel {M:List Nat} {w w':World} (h:But M w w') (hm:∀k∈M,w.heap.size≤k):Bel w w':=
 ⟨h.os,h.tape,h.output,h.size,fun k hk=>h.block k hk (fun hh=>by have:=hm k hh;omega)⟩
theorem But.belTo {M:List Nat} {a w w':World} (k:Bel a w) (h:But M w w') (hm:∀j∈M,a.heap.size≤j):Bel a w':=
 ⟨h.os.trans k.below.os, h.tape.trans k.below.tape, h.output.trans k.below.output, Nat.le_trans k.size h.size, fun j hj =>
   (h.block j (by have := k.size; omega) (fun hh => by have := hm j hh; omega)).trans (k.block j hj)⟩
theorem But.cell {M:List Nat} {w w':World} (h:But M w w') {p:Addr} {v:Value} (hc:w.cell? p=some v) (hp:p.block∉M):w'.cell? p=some v:=
 (mask_cell.1 (Bel.cell h (mask_cell.2 ⟨hc,hp⟩))).1
theorem But.frozen {M:List Nat} {w w':World} (h:But M w w') {p:Addr} {v:Value} (hc:w.cell? p=some v) (hp:p.block∉M) (hf:w.frozen? p=false):w'.frozen? p=false:=by
 rw [World.frozen?_of_block (w:=w) (h.block p.block (World.block_lt_of_cell? w p hc) hp)];exact hf
theorem But.set {M:List Nat} {a w:World} (h:But M a w) {p:Addr} (hp:p.block∈M) (u:Value):But M a (w.setCell p u):=
 h.trans (But.mk rfl rfl rfl (by simp [World.setCell]) (fun k _ hk=>Below.heap_setCell _ _ _ _ (fun e=>hk (e ▸ hp))))
theorem But.alloc {M:List Nat} {a w:World} (h:But M a w) (o:Obj):But M a (w.alloc o):=h.trans (But.of_bel ((Bel.refl w).step_alloc o))
theorem But.drew {M:List Nat} {a w:World} (h:But M a w):But M a w.drew:=h.trans (But.of_bel (Bel.refl w).step_drew)
theorem But.drewN {M:List Nat} {a w:World} (h:But M a w) (n:Nat):But M a (w.drewN n):=h.trans (But.of_bel ((Bel.refl w).step_drewN n))
theorem But.step {M:List Nat} {a w w':World} (h:But M a w) (k:Bel w w'):But M a w':=h.trans (But.of_bel k)
theorem mask_cell_new {M:List Nat} {base:Nat} {w:World} (hM:∀k∈M,k<base) {a:Addr} {v:Value} (ha:base≤a.block) (h:w.cell? a=some v):(mask M w).cell? a=some v:=
 mask_cell.2 ⟨h,fun hm=>by have:=hM _ hm;omega⟩
end Go.Proofs.YtpapdkhjdelfcabGreat
namespace Go.Proofs.YtpapdkhjdelfcabGreat
open Go.RowKit
theorem Tryz.infoBK:(Tryz.prog.info? 75).map (fun i=>(i.zero,i.size,i.bytes))=some (some (.agg #[.string ByteArray.empty,.int .i64 0]),2,24):=by kernel_rfl
theorem Tryz.infoEI:(Tryz.prog.info? 116).map (fun i=>(i.zero,i.size,i.bytes))=some (some (.agg #[.int .u64 0,.int .i64 0]),2,16):=by kernel_rfl
theorem Tryz.infoWay:(Tryz.prog.info? 211).map (fun i=>(i.zero,i.size,i.bytes))=some (some (.agg #[.int .i64 0,.int .i64 0]),2,16):=by kernel_rfl
theorem Tryz.infoInt:(Tryz.prog.info? 3).map (fun i=>(i.zero,i.size,i.bytes))=some (some (.int .i64 0),1,8):=by kernel_rfl
theorem Tryz.infoStr:(Tryz.prog.info? 9).map (fun i=>(i.zero,i.size,i.bytes))=some (some (.string ByteArray.empty),1,16):=by kernel_rfl
theorem Tryz.infoByte:(Tryz.prog.info? 5).map (fun i=>(i.zero,i.size,i.bytes))=some (some (.int .u8 0),1,1):=by kernel_rfl
theorem two_new (w:World) (a b:Value) (t:TypeId) (n:Nat) (hn:n=w.heap.size):∀j u,[a,b][j]?=some u→(w.alloc (.cells #[a,b] t)).cell? ((⟨n,0,none⟩:Addr).add j)=some u:=by
 subst hn;intro j u hu;have hadd:(⟨w.heap.size,0,none⟩:Addr).add j=⟨w.heap.size,j,none⟩:=by unfold Addr.add;split <;>simp_all
 rw [hadd];have hl:j<2:=(List.getElem?_eq_some_iff.1 hu).1;rcases (show j=0∨j=1 by omega) with rfl|rfl
 ·simp at hu;subst hu;simp
 ·simp at hu;subst hu;simp
theorem one_new (w:World) (a:Value) (t:TypeId) (n:Nat) (hn:n=w.heap.size):∀j u,[a][j]?=some u→(w.alloc (.cells #[a] t)).cell? ((⟨n,0,none⟩:Addr).add j)=some u:=by
 subst hn;intro j u hu;have hadd:(⟨w.heap.size,0,none⟩:Addr).add j=⟨w.heap.size,j,none⟩:=by unfold Addr.add;split <;>simp_all
 rw [hadd];have hl:j<1:=(List.getElem?_eq_some_iff.1 hu).1;rcases (show j=0 by omega) with rfl;simp at hu;subst hu;simp
theorem two_one {a b:Value} (ha:a.oneCell'=true) (hb:b.oneCell'=true):∀u∈[a,b],u.oneCell'=true:=by
 intro u hu;simp at hu;rcases hu with rfl|rfl
 ·exact ha
 ·exact hb
theorem pcells_snoc (L:List BK) (b:BK):pcells (L++[b])=pcells L++[.string b.1,.int .i64 b.2]:=by simp [pcells]
theorem Hid.mk {p:Prop} (h:p):Hid p:=h
theorem PoolAt.open {w:World} {v:Value} {B:List BK} (h:PoolAt w v B):∃ao cap,v= .slice ao B.length cap∧∀j (hj:j<B.length),∃g,ao=some ⟨g,0,none⟩∧w.cell? ⟨g,j * 2,none⟩=some (.string B[j].1)∧w.cell? ⟨g,j * 2+1,none⟩=some (.int .i64 B[j].2):=by
 rcases h.form with ⟨rfl,rfl⟩|⟨g,cap,rfl,_,_,hc⟩
 ·exact ⟨_,_,rfl,fun j hj=>by simp at hj⟩
 ·exact ⟨_,_,rfl,fun j hj=>⟨g,rfl,hc j hj⟩⟩
def OwnB (base:Nat) (w:World) (v:Value) (B:List BK):Prop:=w.ownsRow base 75 2 v B.length (pcells B)
def RPool (w:World) (B:List BK) (e:Ending) (w':World):Prop:=∃v,e= .returned v∧Bel w w'∧OwnB w.heap.size w' v B
theorem OwnB.pool {base:Nat} {w:World} {v:Value} {B:List BK} (h:OwnB base w v B):PoolAt w v B:=RowAt.of_owns h
theorem OwnB.mono {b c:Nat} {w:World} {v:Value} {B:List BK} (h:OwnB b w v B) (hc:c≤b):OwnB c w v B:=by
 obtain ⟨h1,h2⟩:=h;refine ⟨h1,?_⟩;rcases h2 with h2|⟨g,cap,cur,hv,hg,r⟩
 ·exact Or.inl h2
 ·exact Or.inr ⟨g,cap,cur,hv,Nat.le_trans hc hg,r⟩
end Go.Proofs.YtpapdkhjdelfcabGreat
