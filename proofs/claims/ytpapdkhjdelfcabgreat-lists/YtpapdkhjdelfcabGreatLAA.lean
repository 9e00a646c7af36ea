import Derived.Test.YtpapdkhjdelfcabGreatProg
import Derived.WalkKit
import Derived.WalkSpells
import Derived.WalkLawsBesides
import Derived.BigQuiet
import Derived.Deep.QuietTactic
import Derived.Laws.BitsAllLaws
import Derived.Deep.RegionWith
import Derived.Deep.DeepCutAuto
import Derived.Deep.LoopGhost
namespace Go.Proofs.YtpapdkhjdelfcabGreat
open Go.RowKit
set_option maxRecDepth 100000
set_option maxHeartbeats 4000000
def Aa (w w':World):Prop:=Below w.heap.size w w'
theorem Aa.refl (w:World):Aa w w:=Below.refl _ _
theorem Aa.below {a b:World} (h:Aa a b):Below a.heap.size a b:=h
theorem Aa.trans {a b c:World} (h:Aa a b) (k:Aa b c):Aa a c:=Below.trans h.below (k.below.mono h.below.size)
theorem Aa.step_alloc {a w:World} (h:Aa a w) (o:Obj):Aa a (w.alloc o):=h.below.alloc h.below.size o
theorem Aa.step_drew {a w:World} (h:Aa a w):Aa a w.drew:=h.below.drew
theorem Aa.step_drewN {a w:World} (h:Aa a w) (n:Nat):Aa a (w.drewN n):=below_drewN h.below n
theorem Aa.size {a w:World} (h:Aa a w):a.heap.size≤w.heap.size:=h.below.size
theorem Aa.block {a w:World} (h:Aa a w):∀k,k<a.heap.size→w.heap[k]?=a.heap[k]?:=h.below.block
theorem Aa.step_set {a w:World} (h:Aa a w) {p:Addr} (hp:a.heap.size≤p.block) (u:Value):Aa a (w.setCell p u):=h.below.setCell hp u
theorem Aa.grown {a w w':World} {row:Option Nat} (h:Aa a w) (hg:w.grownBy w' row) (hr:∀k,row=some k→a.heap.size≤k):Aa a w':=h.below.grown hg h.below.size hr
theorem Aa.of_below {B:Nat} {a w:World} (h:Below B a w) (hB:a.heap.size≤B):Aa a w:=h.mono hB
theorem Aa.cells {a w:World} (h:Aa a w):(∀b o,b<a.heap.size→w.cell? ⟨b,o,none⟩=a.cell? ⟨b,o,none⟩)∧(∀b o,b<a.heap.size→w.frozen? ⟨b,o,none⟩=a.frozen? ⟨b,o,none⟩):=
 ⟨fun b o hb=>h.below.cell (p:=⟨b,o,none⟩) hb,fun b o hb=>h.below.frozen (p:=⟨b,o,none⟩) hb⟩
theorem Aa.cellsTo {a w:World} (h:Aa a w) (N:Nat) (hN:N≤a.heap.size):(∀b o,b<N→w.cell? ⟨b,o,none⟩=a.cell? ⟨b,o,none⟩)∧(∀b o,b<N→w.frozen? ⟨b,o,none⟩=a.frozen? ⟨b,o,none⟩):=
 ⟨fun b o hb=>h.below.cell (p:=⟨b,o,none⟩) (Nat.lt_of_lt_of_le hb hN),fun b o hb=>h.below.frozen (p:=⟨b,o,none⟩) (Nat.lt_of_lt_of_le hb hN)⟩
theorem Aa.cell {a w:World} (h:Aa a w) {p:Addr} {v:Value} (hc:a.cell? p=some v):w.cell? p=some v:=cell_later h.below hc
theorem BO {k:IntKind} {a b:Int} (h:a=b):Ending.returned (.int k a)= .returned (.int k b):=by rw [h]
def Aj (x:Int):Prop:= -9223372036854775808≤x∧x≤9223372036854775807
def Af (a:Int):Prop:=0≤a∧a<4294967296
def KG (w:World) (f:Int→Prop) (e:Ending) (w':World):Prop:=∃x,e= .returned (.int .i64 x)∧Aa w w'∧f x
def Ew (w:World) (f:Bool→Prop) (e:Ending) (w':World):Prop:=∃x,e= .returned (.bool x)∧Aa w w'∧f x
def En (w:World) (f:ByteArray→Prop) (e:Ending) (w':World):Prop:=∃x,e= .returned (.string x)∧Aa w w'∧f x
def Gx (w:World) (f:Int→Int→Prop) (e:Ending) (w':World):Prop:=∃x y,e= .returned (.agg #[.int .i64 x,.int .i64 y])∧Aa w w'∧Af x∧Af y∧f x y
def YI (w:World) (f:ByteArray→Bool→Prop) (e:Ending) (w':World):Prop:=∃x y,e= .returned (.tuple #[.string x,.bool y])∧Aa w w'∧f x y
def Kz {α:Type} (_:α):Prop:=True
def Oa {α β:Type} (_:α) (_:β):Prop:=True
def LA (n:Int) (x:Int):Prop:=0≤x∧x<n
def BM (base:Nat) (w:World) (v:Value):Prop:=∃(p:Nat) (x y:Int),v= .pointer (some ⟨p,0,none⟩)∧base≤p∧w.cell? ⟨p,0,none⟩=some (.int .i64 x)∧w.cell? ⟨p,1,none⟩=some (.int .i64 y)∧w.frozen? ⟨p,0,none⟩=false∧w.frozen? ⟨p,1,none⟩=false∧Af x∧Af y
theorem Aa.frozen {a w:World} (h:Aa a w) {p:Addr} {v:Value} (hc:a.cell? p=some v) (hf:a.frozen? p=false):w.frozen? p=false:=by
 rw [h.below.frozen (World.block_lt_of_cell? a p hc)];exact hf
theorem BM.later {B:Nat} {a w:World} {v:Value} (k:BM B a v) (h:Aa a w):BM B w v:=by
 obtain ⟨p,x,y,rfl,hp,c0,c1,f0,f1,hx,hy⟩:=k;exact ⟨p,x,y,rfl,hp,h.cell c0,h.cell c1,h.frozen c0 f0,h.frozen c1 f1,hx,hy⟩
theorem L1 {w:World} {a b:Addr} {v u:Value} (h:w.cell? a=some v):(w.setCell b u).cell? a=some v∨(w.setCell b u).cell? a=some u:=by
 obtain ⟨u',hu⟩:=cell?_setCell_some (w:=w) (p:=b) (x:=u) (q:=a) (v:=v) h;simp only [World.cell?,World.setCell] at h hu ⊢;rw [Array.getElem?_modify] at hu ⊢;by_cases hb:b.block=a.block
 ·rw [if_pos hb] at hu ⊢;cases hh:w.heap[a.block]? with
  |none=>rw [hh] at h;cases h
  |some o=>
   rw [hh] at h;cases o <;>simp at h ⊢;rename_i c e f;by_cases hs:b.spot.isSome
   ·simp [hs];exact Or.inl h
   ·simp [hs,Array.getElem?_setIfInBounds];by_cases ho:b.off=a.off
    ·have hlt:a.off<c.size:=(Array.getElem?_eq_some_iff.1 h.2).1;simp [ho,hlt,h.1]
    ·simp [ho];exact Or.inl h
 ·rw [if_neg hb];exact Or.inl h
theorem Ag (w:World) (a b:Addr) (u:Value):(w.setCell b u).frozen? a=w.frozen? a:=by simp
theorem Bc {w:World} {b o:Nat} {v u:Value} (h:w.cell? ⟨b,o,none⟩=some v):(w.setCell ⟨b,o,none⟩ u).cell? ⟨b,o,none⟩=some u:=by
 simp only [World.cell?,World.setCell] at h ⊢;rw [Array.getElem?_modify,if_pos rfl];cases hh:w.heap[b]? with
 |none=>rw [hh] at h;cases h
 |some x=>
  rw [hh] at h;cases x <;>simp at h ⊢;have hlt:=(Array.getElem?_eq_some_iff.1 h).1;simp [hlt]
theorem Ad {w:World} {a b:Addr} {u:Value} (h:b.block≠a.block∨b.off≠a.off):(w.setCell b u).cell? a=w.cell? a:=by
 simp only [World.cell?,World.setCell];rw [Array.getElem?_modify];by_cases hb:b.block=a.block
 ·rw [if_pos hb];cases hh:w.heap[a.block]? with
  |none=>rfl
  |some x=>
   cases x <;>simp;rename_i c e f;by_cases ha:a.spot.isSome
   ·simp [ha]
   ·by_cases hs:b.spot.isSome
    ·simp [hs]
    ·have hne:b.off≠a.off:=by
      rcases h with h|h
      ·exact absurd hb h
      ·exact h
     simp [ha,hs,hne]
 ·rw [if_neg hb]
theorem BM.stored {B:Nat} {w:World} {p:Nat} {u0 u1:Value} (hp:B≤p) (h0:w.cell? ⟨p,0,none⟩=some u0) (h1:w.cell? ⟨p,1,none⟩=some u1) (f0:w.frozen? ⟨p,0,none⟩=false) (f1:w.frozen? ⟨p,1,none⟩=false) {x y:Int} (hx:Af x) (hy:Af y):
  BM B ((w.setCell ⟨p,0,none⟩ (.int .i64 x)).setCell ⟨p,1,none⟩ (.int .i64 y)) (.pointer (some ⟨p,0,none⟩)):=by
 refine ⟨p,x,y,rfl,hp,?_,?_,by rw [Ag,Ag];exact f0,by rw [Ag,Ag];exact f1,hx,hy⟩
 ·rw [Ad (by simp)];exact Bc h0
 ·exact Bc (v:=u1) (by rw [Ad (by simp)];exact h1)
theorem BM.set {B:Nat} {w:World} {v:Value} (k:BM B w v) (a:Addr) {z:Int} (hz:Af z):BM B (w.setCell a (.int .i64 z)) v:=by
 obtain ⟨p,x,y,rfl,hp,c0,c1,f0,f1,hx,hy⟩:=k;rcases L1 (b:=a) (u:= .int .i64 z) c0 with d0|d0 <;>rcases L1 (b:=a) (u:= .int .i64 z) c1 with d1|d1
 ·exact ⟨p,x,y,rfl,hp,d0,d1,by rw [Ag];exact f0,by rw [Ag];exact f1,hx,hy⟩
 ·exact ⟨p,x,z,rfl,hp,d0,d1,by rw [Ag];exact f0,by rw [Ag];exact f1,hx,hz⟩
 ·exact ⟨p,z,y,rfl,hp,d0,d1,by rw [Ag];exact f0,by rw [Ag];exact f1,hz,hy⟩
 ·exact ⟨p,z,z,rfl,hp,d0,d1,by rw [Ag];exact f0,by rw [Ag];exact f1,hz,hz⟩
theorem Va (a b:Nat) (ha:a<4294967296) (hb:b<4294967296):bits .xor .i64 (a:Int) (b:Int)=((a ^^^ b:Nat):Int):=by
 have hx:a ^^^ b<2 ^ 32:=Nat.xor_lt_two_pow (by omega) (by omega);show IntKind.i64.wrap ((BitVec.ofInt 64 (a:Int) ^^^ BitVec.ofInt 64 (b:Int)).toNat:Int)=_;rw [BitVec.toNat_xor,ofInt_u64 a (by omega),ofInt_u64 b (by omega),IntKind.wrap_i64];omega
theorem MQ (a b:Int) (h1:Af a) (h2:Af b):bits .xor .i64 a b=((a.toNat ^^^ b.toNat:Nat):Int):=by
 obtain ⟨A,rfl⟩:=Int.eq_ofNat_of_zero_le h1.1;obtain ⟨B,rfl⟩:=Int.eq_ofNat_of_zero_le h2.1;have:=h1.2;have:=h2.2;simpa using Va A B (by omega) (by omega)
theorem Af.xor {a b:Int} (h1:Af a) (h2:Af b):Af (bits .xor .i64 a b):=by
 rw [MQ a b h1 h2];obtain ⟨A,rfl⟩:=Int.eq_ofNat_of_zero_le h1.1;obtain ⟨B,rfl⟩:=Int.eq_ofNat_of_zero_le h2.1;have h3:=h1.2;have h4:=h2.2;have hx:A ^^^ B<2 ^ 32:=Nat.xor_lt_two_pow (by omega) (by omega);simp only [Int.toNat_natCast];exact ⟨by omega,by omega⟩
theorem Oi (a b:Nat) (ha:a<9223372036854775808) (hb:b<9223372036854775808):bits .and .i64 (a:Int) (b:Int)=((a &&& b:Nat):Int):=by
 have hx:a &&& b<2 ^ 63:=Nat.and_lt_two_pow _ (by omega);show IntKind.i64.wrap ((BitVec.ofInt 64 (a:Int) &&& BitVec.ofInt 64 (b:Int)).toNat:Int)=_;rw [BitVec.toNat_and,ofInt_u64 a (by omega),ofInt_u64 b (by omega),IntKind.wrap_i64];omega
theorem jG:type_of% @List.getElem?_eq_getElem:=@List.getElem?_eq_getElem
theorem jH:type_of% @Nat.le_refl:=@Nat.le_refl
theorem jI:type_of% @beq_eq_false_iff_ne:=@beq_eq_false_iff_ne
theorem jJ:type_of% @List.getElem_mem:=@List.getElem_mem
theorem jK:type_of% @decide_eq_false:=@decide_eq_false
theorem jL:type_of% @decide_eq_true:=@decide_eq_true
theorem jM:type_of% @Int.eq_ofNat_of_zero_le:=@Int.eq_ofNat_of_zero_le
theorem jN:type_of% @Nat.lt_of_lt_of_le:=@Nat.lt_of_lt_of_le
theorem jO:type_of% @List.length_append:=@List.length_append
theorem jP:type_of% @List.mem_singleton:=@List.mem_singleton
theorem jQ:type_of% @List.take_succ_eq_append_getElem:=@List.take_succ_eq_append_getElem
theorem jR:type_of% @List.take_of_length_le:=@List.take_of_length_le
theorem jS:type_of% @List.eq_nil_of_length_eq_zero:=@List.eq_nil_of_length_eq_zero
theorem jT:type_of% @List.mem_append:=@List.mem_append
theorem jU:type_of% @List.mem_append_right:=@List.mem_append_right
theorem jV:type_of% @List.getD_eq_getElem?_getD:=@List.getD_eq_getElem?_getD
theorem jW:type_of% @List.mem_cons_of_mem:=@List.mem_cons_of_mem
theorem jX:type_of% @Nat.le_trans:=@Nat.le_trans
theorem jY:type_of% @ByteArray.size_append:=@ByteArray.size_append
theorem jZ:type_of% @Nat.eq_zero_of_not_pos:=@Nat.eq_zero_of_not_pos
theorem ja:type_of% @List.mem_cons:=@List.mem_cons
theorem jb:type_of% @List.count_pos_iff:=@List.count_pos_iff
theorem jc:type_of% @bne_eq_false_iff_eq:=@bne_eq_false_iff_eq
theorem jd:type_of% @List.mem_flatMap:=@List.mem_flatMap
theorem je:type_of% @List.length_map:=@List.length_map
theorem jg:type_of% @List.mem_append_left:=@List.mem_append_left
theorem jh:type_of% @List.length_drop:=@List.length_drop
theorem jk:type_of% @List.length_take:=@List.length_take
theorem jF {w:World} {a:Addr} {v:Value} (h:w.cell? a=some v):a.block<w.heap.size:=World.block_lt_of_cell? w a h
theorem jD (a:World):Aa a a:=Aa.refl a
theorem jE {a b c:World} (h:Aa a b) (k:Aa b c):Aa a c:=h.trans k
theorem jA {a w:World} {o:Obj} (h:Aa a w):Aa a (w.alloc o):=h.step_alloc o
theorem jB {a w:World} (h:Aa a w):Aa a w.drew:=h.step_drew
theorem jC {a w:World} {n:Nat} (h:Aa a w):Aa a (w.drewN n):=h.step_drewN n
def Ap (w:World) (v:Value) (n:Nat) (cs:List Value):Prop:=
 (v= .slice none 0 0∧n=0∧cs=[])∨∃g cap,v= .slice (some ⟨g,0,none⟩) n cap∧n≤cap∧g<w.heap.size∧∀j u,cs[j]?=some u→w.cell? ⟨g,j,none⟩=some u
theorem Ap.later {a w:World} {v:Value} {n:Nat} {cs:List Value} (h:Ap a v n cs) (k:Aa a w):Ap w v n cs:=by
 rcases h with h|⟨g,cap,hv,hn,hg,hc⟩
 ·exact Or.inl h
 ·exact Or.inr ⟨g,cap,hv,hn,jN hg k.size,fun j u hu=>k.cell (hc j u hu)⟩
theorem Ap.of_owns {w:World} {base:Nat} {e:TypeId} {size:Nat} {v:Value} {n:Nat} {xs:List Value} (h:w.ownsRow base e size v n xs):Ap w v n xs:=by
 rcases h.2 with ⟨h1,h2⟩|⟨g,cap,cur,hv,hg,hh,r1,r2,r3,r4⟩
 ·exact Or.inl ⟨h1,h2,by have:=h.1;subst h2;simpa using this⟩
 ·refine Or.inr ⟨g,cap,hv,r1,(Array.getElem?_eq_some_iff.1 hh).1,fun j u hu=>?_⟩;have:=h.cells (g:=g) (by rw [hv];rfl) j u hu;have hadd:(⟨g,0,none⟩:Addr).add j=⟨g,j,none⟩:=by unfold Addr.add;split <;>simp_all
  rwa [hadd] at this
abbrev BK:=ByteArray×Int
def AC (l:List BK):List Value:=l.flatMap fun b=>[.string b.1,.int .i64 b.2]
theorem Jn (l:List BK):(AC l).length=l.length * 2:=by
 induction l with
 |nil=>rfl
 |cons b l ih=>simp only [AC,List.flatMap_cons,jO,List.length_cons,List.length_nil] at ih ⊢;omega
theorem JU (l:List BK) (j:Nat) (h:j<l.length):(AC l)[j * 2]?=some (.string l[j].1)∧(AC l)[j * 2+1]?=some (.int .i64 l[j].2):=by
 induction l generalizing j with
 |nil=>simp at h
 |cons b l ih=>
  cases j with
  |zero=>simp [AC]
  |succ j=>
   obtain ⟨h1,h2⟩:=ih j (by simpa using h);have e1:(j+1) * 2=j * 2+1+1:=by omega
   rw [e1];simp only [AC,List.flatMap_cons,List.cons_append,List.nil_append,List.getElem?_cons_succ] at h1 h2 ⊢;exact ⟨h1,h2⟩
abbrev EN:=ByteArray×Int×Int
def Av (l:List EN):List Value:=l.flatMap fun b=>[.string b.1,.int .i64 b.2.1,.int .i64 b.2.2]
theorem Iv (l:List EN):(Av l).length=l.length * 3:=by
 induction l with
 |nil=>rfl
 |cons b l ih=>simp only [Av,List.flatMap_cons,jO,List.length_cons,List.length_nil] at ih ⊢;omega
theorem Ig (l:List EN) (j:Nat) (h:j<l.length):(Av l)[j * 3]?=some (.string l[j].1)∧(Av l)[j * 3+1]?=some (.int .i64 l[j].2.1)∧(Av l)[j * 3+2]?=some (.int .i64 l[j].2.2):=by
 induction l generalizing j with
 |nil=>simp at h
 |cons b l ih=>
  cases j with
  |zero=>simp [Av]
  |succ j=>
   obtain ⟨h1,h2,h3⟩:=ih j (by simpa using h);have e1:(j+1) * 3=j * 3+1+1+1:=by omega
   rw [e1];simp only [Av,List.flatMap_cons,List.cons_append,List.nil_append,List.getElem?_cons_succ] at h1 h2 h3 ⊢;exact ⟨h1,h2,h3⟩
def Am (w:World) (v:Value) (l:List BK):Prop:=Ap w v l.length (AC l)
def Cl (w:World) (v:Value) (l:List EN):Prop:=Ap w v l.length (Av l)
theorem Am.later {a w:World} {v:Value} {l:List BK} (h:Am a v l) (k:Aa a w):Am w v l:=Ap.later h k
theorem Cl.later {a w:World} {v:Value} {l:List EN} (h:Cl a v l) (k:Aa a w):Cl w v l:=Ap.later h k
theorem Am.form {w:World} {v:Value} {l:List BK} (h:Am w v l):(v= .slice none 0 0∧l=[])∨∃g cap,v= .slice (some ⟨g,0,none⟩) l.length cap∧l.length≤cap∧g<w.heap.size∧
  ∀j (hj:j<l.length),w.cell? ⟨g,j * 2,none⟩=some (.string l[j].1)∧w.cell? ⟨g,j * 2+1,none⟩=some (.int .i64 l[j].2):=by
 rcases h with ⟨h1,h2,_⟩|⟨g,cap,hv,hn,hg,hc⟩
 ·exact Or.inl ⟨h1,jS h2⟩
 ·exact Or.inr ⟨g,cap,hv,hn,hg,fun j hj=>⟨hc _ _ (JU l j hj).1,hc _ _ (JU l j hj).2⟩⟩
theorem Cl.form {w:World} {v:Value} {l:List EN} (h:Cl w v l):(v= .slice none 0 0∧l=[])∨∃g cap,v= .slice (some ⟨g,0,none⟩) l.length cap∧l.length≤cap∧g<w.heap.size∧
  ∀j (hj:j<l.length),w.cell? ⟨g,j * 3,none⟩=some (.string l[j].1)∧w.cell? ⟨g,j * 3+1,none⟩=some (.int .i64 l[j].2.1)∧w.cell? ⟨g,j * 3+2,none⟩=some (.int .i64 l[j].2.2):=by
 rcases h with ⟨h1,h2,_⟩|⟨g,cap,hv,hn,hg,hc⟩
 ·exact Or.inl ⟨h1,jS h2⟩
 ·exact Or.inr ⟨g,cap,hv,hn,hg,fun j hj=>⟨hc _ _ (Ig l j hj).1,hc _ _ (Ig l j hj).2.1,hc _ _ (Ig l j hj).2.2⟩⟩
def Dz (base:Nat) (w:World) (v:Value) (l:List EN):Prop:=Cl w v l∧∀g,v.ownBlock=some g→base≤g
theorem Dz.later {base:Nat} {a w:World} {v:Value} {l:List EN} (h:Dz base a v l) (k:Aa a w):Dz base w v l:=⟨h.1.later k,h.2⟩
def AL (l:List BK):Prop:=l.length≤8∧∀b∈l,1≤b.1.size∧b.1.size≤8∧0≤b.2∧b.2≤6
structure Ac where
 alg:Int
 slots:Int
 points:Int
 probes:Int
 key:ByteArray
 formats:Int
def Ac.cells (c:Ac):Array Value:=#[.int .i64 c.alg,.int .i64 c.slots,.int .i64 c.points,.int .i64 c.probes,.string c.key,.int .i64 c.formats]
def Ac.OK (c:Ac):Prop:=1≤c.alg∧c.alg≤4∧3≤c.slots∧c.slots≤211∧(∀d:Nat,2≤d→(d:Int)<c.slots→c.slots % d≠0)∧1≤c.points∧c.points≤3∧1≤c.probes∧c.probes≤5∧c.key.size=16∧1≤c.formats∧c.formats≤3
def Ac.Fit (c:Ac):Prop:=Aj c.alg∧Aj c.slots∧Aj c.points∧Aj c.probes∧Aj c.formats∧c.key.size≤maxLen
def Co (p:Prop) (x:Bool):Prop:=x=true↔p
theorem FE {a b:ByteArray}:(a.toList==b.toList)=true↔a=b:=by
 rw [ByteArray.toList_eq,ByteArray.toList_eq];constructor
 ·intro h;exact ByteArray.ext (Array.toList_inj.mp (by simpa using h))
 ·intro h;subst h;simp
theorem Rw {a b:ByteArray} (h:¬a=b):(a.toList==b.toList)=false:=by
 cases hh:a.toList==b.toList
 ·rfl
 ·exact absurd (FE.1 hh) h
def AO (a b:ByteArray):Bool:=Op.bytesLess a.toList b.toList
theorem Mz:∀(x y:List UInt8),Op.bytesLess x y=decide (x<y)
 |[],[]=>by simp [Op.bytesLess]
 |_::_,[]=>by simp [Op.bytesLess]
 |[],_::_=>by simp [Op.bytesLess]
 |a::x,b::y=>by
  rw [Op.bytesLess,Mz x y];simp only [List.cons_lt_cons_iff];by_cases h1:a<b
  ·simp [h1]
  ·by_cases h2:a=b
   ·simp [h2]
   ·simp [h1,h2]
theorem J6 {a b:ByteArray}:AO a b=true↔a.toList<b.toList:=by rw [AO,Mz];simp
theorem KL {a b:ByteArray}:AO a b=false↔¬a.toList<b.toList:=by rw [AO,Mz];simp
theorem Ln (a:ByteArray):AO a a=false:=KL.2 (List.lt_irrefl _)
theorem Pm {a b c:ByteArray} (h:AO a b=true) (k:AO b c=true):AO a c=true:=J6.2 (List.lt_trans (J6.1 h) (J6.1 k))
theorem Qj {a b:ByteArray} (h:AO a b=true):AO b a=false:=KL.2 (fun k=>List.lt_irrefl _ (List.lt_trans (J6.1 h) k))
theorem toList_inj {a b:ByteArray} (h:a.toList=b.toList):a=b:=by
 rw [ByteArray.toList_eq,ByteArray.toList_eq] at h;exact ByteArray.ext (Array.toList_inj.mp h)
theorem Pi {a b:ByteArray} (h:AO a b=false) (k:AO b a=false):a=b:=
 toList_inj (List.le_antisymm (List.not_lt.1 (KL.1 k)) (List.not_lt.1 (KL.1 h)))
def Ep (B:List BK):Prop:=B.Pairwise fun a b=>AO a.1 b.1=true
def Bg (m:BK):List BK→List BK
 |[]=>[m]
 |b::B=>if AO m.1 b.1 then m::b::B else b::Bg m B
theorem Qa (m:BK) (B:List BK):(Bg m B).length=B.length+1:=by
 induction B with
 |nil=>rfl
 |cons b B ih=>simp only [Bg];split <;>simp [ih]
theorem Ol {m x:BK} {B:List BK}:x∈Bg m B↔x=m∨x∈B:=by
 induction B with
 |nil=>simp [Bg]
 |cons b B ih=>
  simp only [Bg];split
  ·simp
  ·simp only [ja,ih];constructor
   ·rintro (h|h|h)
    ·exact Or.inr (Or.inl h)
    ·exact Or.inl h
    ·exact Or.inr (Or.inr h)
   ·rintro (h|h|h)
    ·exact Or.inr (Or.inl h)
    ·exact Or.inl h
    ·exact Or.inr (Or.inr h)
theorem Tv {m:BK} {B:List BK} (h:Ep B) (hn:∀b∈B,b.1≠m.1):Ep (Bg m B):=by
 induction B with
 |nil=>exact List.pairwise_singleton _ _
 |cons b B ih=>
  obtain ⟨h1,h2⟩:=List.pairwise_cons.1 h;simp only [Bg];cases hl:AO m.1 b.1
  ·simp only [Bool.false_eq_true,if_false];refine List.pairwise_cons.2 ⟨fun x hx=>?_,ih h2 (fun y hy=>hn y (jW _ hy))⟩;rcases Ol.1 hx with rfl|hx
   ·cases hb:AO b.1 x.1
    ·exact absurd (Pi hb hl) (hn b List.mem_cons_self)
    ·rfl
   ·exact h1 x hx
  ·simp only [if_true];refine List.pairwise_cons.2 ⟨fun x hx=>?_,h⟩;rcases ja.1 hx with rfl|hx
   ·exact hl
   ·exact Pm hl (h1 x hx)
theorem Ep.ne {B:List BK} (h:Ep B) {i j:Nat} (hi:i<B.length) (hj:j<B.length) (hij:i≠j):B[i].1≠B[j].1:=by
 intro e;have hp:=List.pairwise_iff_getElem.1 h;rcases Nat.lt_or_gt_of_ne hij with hlt|hlt
 ·have:=hp i j hi hj hlt;rw [e,Ln] at this;cases this
 ·have:=hp j i hj hi hlt;rw [e,Ln] at this;cases this
theorem Vc {B:List BK} (h:Ep B) (p:Nat):Ep (B.eraseIdx p):=List.Pairwise.sublist (List.eraseIdx_sublist B p) h
theorem Ua {B:List BK} (h:Ep B) {p:Nat} (hp:p<B.length) (n:Int):Ep (B.set p (B[p].1,n)):=by
 rw [Ep,List.pairwise_iff_getElem] at h ⊢;intro i j hi hj hij;simp only [List.length_set] at hi hj;have:=h i j hi hj hij;simp only [List.getElem_set];split <;>split <;>simp_all
def Bq (id:ByteArray) (B:List BK):Nat:=B.findIdx fun b=>b.1.toList==id.toList
/-! The changes of a pool,as the code makes them. -/
theorem Lh {id:ByteArray} {B:List BK} (h:∃b∈B,b.1=id):Bq id B<B.length:=by
 unfold Bq;rw [List.findIdx_lt_length];obtain ⟨b,hb,e⟩:=h;exact ⟨b,hb,FE.2 e⟩
theorem Ho {id:ByteArray} {B:List BK} (h:Bq id B<B.length):(B[Bq id B]).1=id:=by
 exact FE.1 (List.findIdx_getElem (p:=fun b:BK=>b.1.toList==id.toList) (w:=h))
theorem RM {B:List BK} (hs:Ep B) {i:Nat} (hi:i<B.length):Bq B[i].1 B=i:=by
 have hlt:Bq B[i].1 B<B.length:=Lh ⟨B[i],jJ hi,rfl⟩;have he:=Ho hlt;by_cases h:Bq B[i].1 B=i
 ·exact h
 ·exact absurd he (hs.ne hlt hi h)
def Cw (B:List BK) (id:ByteArray) (n:Int):Int:=
 if id.size<1∨8<id.size then 2 else if n<0∨6<n then 5 else if Bq id B<B.length then 3 else if 8≤B.length then 6 else 0
def Dj (B:List BK) (id:ByteArray) (n:Int):List BK:=if Cw B id n=0 then Bg (id,n) B else B
def Ej (B:List BK) (id:ByteArray):Int:=if Bq id B<B.length then 0 else 4
def EQ (B:List BK) (id:ByteArray):List BK:=if Ej B id=0 then B.eraseIdx (Bq id B) else B
def Dy (B:List BK) (id:ByteArray) (n:Int):Int:=if n<0∨6<n then 5 else if Bq id B<B.length then 0 else 4
def Er (B:List BK) (id:ByteArray) (n:Int):List BK:=if Dy B id n=0 then B.set (Bq id B) (id,n) else B
def AH (B:List BK):Prop:=AL B∧Ep B
theorem AH.nil:AH []:=⟨⟨by simp,fun b hb=>by cases hb⟩,List.Pairwise.nil⟩
theorem W6 {id:ByteArray} {B:List BK} (h:¬Bq id B<B.length):∀b∈B,b.1≠id:=fun b hb e=>h (Lh ⟨b,hb,e⟩)
theorem AH.add {B:List BK} (h:AH B) (id:ByteArray) (n:Int):AH (Dj B id n):=by
 unfold Dj;split
 ·rename_i he;unfold Cw at he;split at he
  ·cases he
  split at he
  ·cases he
  split at he
  ·cases he
  split at he
  ·cases he
  rename_i h1 h2 h3 h4;refine ⟨⟨by rw [Qa];omega,fun b hb=>?_⟩,Tv h.2 (W6 h3)⟩;rcases Ol.1 hb with rfl|hb
  ·exact ⟨by simp only;omega,by simp only;omega,by simp only;omega,by simp only;omega⟩
  ·exact h.1.2 b hb
 ·exact h
theorem AH.erase {B:List BK} (h:AH B) (p:Nat):AH (B.eraseIdx p):=
 ⟨⟨jX (List.length_eraseIdx_le _ _) h.1.1,fun b hb=>h.1.2 b (List.mem_of_mem_eraseIdx hb)⟩,Vc h.2 p⟩
theorem AH.rem {B:List BK} (h:AH B) (id:ByteArray):AH (EQ B id):=by
 unfold EQ;split
 ·exact h.erase _
 ·exact h
theorem AH.set {B:List BK} (h:AH B) (id:ByteArray) (n:Int):AH (Er B id n):=by
 unfold Er;split
 ·rename_i he;unfold Dy at he;split at he
  ·cases he
  split at he
  ·rename_i h1 h2;refine ⟨⟨by simpa using h.1.1,fun b hb=>?_⟩,?_⟩
   ·rcases List.mem_or_eq_of_mem_set hb with hb|rfl
    ·exact h.1.2 b hb
    ·have:=h.1.2 _ (jJ h2);rw [Ho h2] at this;exact ⟨this.1,this.2.1,by simp only;omega,by simp only;omega⟩
   ·have:=Ua h.2 h2 n;rw [Ho h2] at this;exact this
  ·cases he
 ·exact h
/-! What the code's functions come to,as functions. -/
def Ca (x:Int) (n:Nat):Int:=bits .or .u64 (x * 2 ^ n % 18446744073709551616) (x / 2 ^ (64 - n))
structure S4 where
 a:Int
 b:Int
 c:Int
 d:Int
def S4.round (s:S4):S4:=
 let a1:=(s.a+s.b) % 18446744073709551616
 let b1:=bits .xor .u64 (Ca s.b 13) a1
 let a2:=Ca a1 32
 let c1:=(s.c+s.d) % 18446744073709551616
 let d1:=bits .xor .u64 (Ca s.d 16) c1
 let a3:=(a2+d1) % 18446744073709551616
 let d2:=bits .xor .u64 (Ca d1 21) a3
 let c2:=(c1+b1) % 18446744073709551616
 let b2:=bits .xor .u64 (Ca b1 17) c2
 ⟨a3,b2,Ca c2 32,d2⟩
def S4.take (s:S4) (m:Int):S4:=
 let s1:=S4.round (S4.round ⟨s.a,s.b,s.c,bits .xor .u64 s.d m⟩)
 ⟨bits .xor .u64 s1.a m,s1.b,s1.c,s1.d⟩
def AQ (t:ByteArray) (i:Nat):Int:=if h:i<t.size then (t[i].toNat:Int) else 0
def BI (t:ByteArray) (f:Nat):Nat→Int
 |0=>0
 |n+1=>let v:=BI t f n * 256 % 18446744073709551616
  if f+(7 - n)<t.size then bits .or .u64 v (AQ t (f+(7 - n))) else v
def BE (t:ByteArray) (f:Nat):Int:=BI t f 8
def Dt (k l:Int):S4:=⟨bits .xor .u64 k 8317987319222330741,bits .xor .u64 l 7237128888997146477,bits .xor .u64 k 7816392313619706465,bits .xor .u64 l 8387220255154660723⟩
def CH (t:ByteArray) (s:S4):Nat→S4
 |0=>s
 |n+1=>(CH t s n).take (BE t (8 * n))
def Cs (key t:ByteArray):Int:=
 let s:=CH t (Dt (BE key 0) (BE key 8)) (t.size / 8)
 let s:=s.take (bits .or .u64 (BE t (8 * (t.size / 8))) ((t.size:Int) * 72057594037927936 % 18446744073709551616))
 let s:S4:=⟨s.a,s.b,bits .xor .u64 s.c 255,s.d⟩
 let s:=s.round.round.round.round
 bits .xor .u64 (bits .xor .u64 (bits .xor .u64 s.a s.b) s.c) s.d
def CK (letter:UInt8) (nums:List Nat):List UInt8:=letter::nums.flatMap fun n=>[UInt8.ofNat (n / 256),UInt8.ofNat n]
def Al (key:ByteArray) (letter:UInt8) (nums:List Nat) (t:ByteArray):Int:=Cs key (ByteArray.mk (CK letter nums).toArray++t)
def Cv (h m:Int):Int:=if m<1 then 0 else h % m
def As (B:List BK):Int:=(B.map (·.2)).sum
def Cr (c:Ac) (b:BK):Int×Int:=(Cv (Al c.key 111 [] b.1) c.slots,Cv (Al c.key 115 [] b.1) (c.slots - 1)+1)
def A0 (n:Nat) (w:Int×Int) (i:Nat):Nat:=((w.1+i * w.2) % n).toNat
def EF (S:List Int) (w:Int×Int):Option Nat:=((List.range S.length).map (A0 S.length w)).find? fun s=>S.getD s 0<0
def A5 (R:List Int):Nat→Int×Int
 |0=>(-1, -1)
 |n+1=>if (A5 R n).2<R.getD n 0 then ((n:Int),R.getD n 0) else A5 R n
def C1 (R:List Int):Int:=(A5 R R.length).1
def CI:Nat→List Int→List Int→List Int
 |0,s,_=>s
 |n+1,s,r=>if C1 r<0 then s else CI n (s.set (C1 r).toNat (s.getD (C1 r).toNat 0+1)) (r.set (C1 r).toNat (-1))
def Bi (M:Int) (B:List BK):List Int:=B.map fun b=>M * b.2 / As B
def CF (M:Int) (B:List BK):List Int:=B.map fun b=>M * b.2 % As B
def CJ (M:Int) (B:List BK):List Int:=if As B<1 then [] else CI (M - (Bi M B).sum).toNat (Bi M B) (CF M B)
def FP (W:List (Int×Int)) (S:List Int) (i:Nat):List Int:=match EF S (W.getD i (0,0)) with
 |some k=>S.set k i
 |none=>S
def Bu (W:List (Int×Int)) (sh:List Int) (r:Nat) (S:List Int):Nat→List Int
 |0=>S
 |n+1=>if sh.getD n 0≤r then Bu W sh r S n else FP W (Bu W sh r S n) n
def CD (W:List (Int×Int)) (sh:List Int) (S:List Int):Nat→List Int
 |0=>S
 |r+1=>Bu W sh r (CD W sh S r) sh.length
abbrev EI:=Int×Int
def F3 (c:Ac) (B:List BK):List Int:=CD (B.map (Cr c)) (CJ c.slots B) (List.replicate c.slots.toNat (-1)) c.slots.toNat
def A6 (key:ByteArray) (s:Nat) (i:Nat) (id:ByteArray) (m:Int×Int):Nat→Int×Int
 |0=>m
 |k+1=>let h:=Al key 104 [s,k] id
  let p:=A6 key s i id m k
  if p.1<0∨p.2<h then ((i:Int),h) else p
def AV (key:ByteArray) (s:Nat) (B:List BK):Nat→Int×Int
 |0=>(-1,0)
 |i+1=>match B[i]? with
  |some b=>A6 key s i b.1 (AV key s B i) b.2.toNat
  |none=>AV key s B i
def CS (key:ByteArray) (B:List BK) (s:Nat):Int:=(AV key s B B.length).1
def DD (key:ByteArray) (letter:UInt8) (each:Int) (i:Nat) (b:BK):List EI:=(List.range (each * b.2).toNat).map fun k=>(Al key letter [k] b.1,(i:Int))
def AW (key:ByteArray) (letter:UInt8) (each:Int) (B:List BK):Nat→List EI
 |0=>[]
 |i+1=>match B[i]? with
  |some b=>AW key letter each B i++DD key letter each i b
  |none=>AW key letter each B i
def Ck (e:EI):List EI→List EI
 |[]=>[e]
 |x::l=>if e.1<x.1 then e::x::l else x::Ck e l
def BN (L:List EI):Nat→List EI
 |0=>[]
 |n+1=>match L[n]? with
  |some e=>Ck e (BN L n)
  |none=>BN L n
def Dk (key:ByteArray) (letter:UInt8) (each:Int) (B:List BK):List EI:=BN (AW key letter each B B.length) (AW key letter each B B.length).length
def An (c:Ac) (B:List BK):List EI:=
 if As B<1 then []
 else if c.alg=1 then (F3 c B).map fun o=>(0,o)
 else if c.alg=2 then Dk c.key 114 c.points B
 else if c.alg=3 then (List.range c.slots.toNat).map fun s=>(0,CS c.key B s)
 else if c.alg=4 then Dk c.key 109 1 B
 else []
def A7 (B:List BK) (i:Int):ByteArray:=if i<0 then ByteArray.empty else ((B[i.toNat]?).map (·.1)).getD ByteArray.empty
def A8 (E:List EI) (h:Int):Nat:=if E.findIdx (fun e=>h≤e.1)<E.length then E.findIdx (fun e=>h≤e.1) else 0
def C9 (c:Ac) (E:List EI) (k:ByteArray):Nat→Nat×Int
 |0=>(0,0)
 |n+1=>let h:=Al c.key 112 [n] k
  let d:=((E.getD (A8 E h) (0,0)).1 - h) % 18446744073709551616
  if n=0∨d<(C9 c E k n).2 then (A8 E h,d) else C9 c E k n
def Dc (c:Ac) (E:List EI) (k:ByteArray):Nat:=
 if E.length=0 then 0
 else if c.alg=4 then (C9 c E k c.probes.toNat).1
 else if c.alg=2 then A8 E (Al c.key 107 [] k)
 else (Al c.key 107 [] k % E.length).toNat
def Ee (c:Ac) (B:List BK) (k:ByteArray):ByteArray×Int:=match (An c B)[Dc c (An c B) k]? with
 |some e=>(A7 B e.2,0)
 |none=>(ByteArray.empty,8)
def Ay (M:List Nat) (w:World):World:={w with heap:=w.heap.mapIdx fun i o=>if i∈M then Obj.cells #[] 0 else o}
theorem Eo (M:List Nat) (w:World):(Ay M w).heap.size=w.heap.size:=by simp [Ay]
theorem ID (M:List Nat) (w:World) (k:Nat) (h:k∉M):(Ay M w).heap[k]?=w.heap[k]?:=by
 simp only [Ay,Array.getElem?_mapIdx];cases w.heap[k]? <;>simp [h]
theorem KU (M:List Nat) (w:World) (k:Nat) (h:k∈M) (hk:k<w.heap.size):(Ay M w).heap[k]?=some (Obj.cells #[] 0):=by
 simp only [Ay,Array.getElem?_mapIdx];rw [Array.getElem?_eq_getElem hk];simp [h]
theorem Bn {M:List Nat} {w:World} {a:Addr} {v:Value}:(Ay M w).cell? a=some v↔w.cell? a=some v∧a.block∉M:=by
 constructor
 ·intro h;by_cases hm:a.block∈M
  ·exfalso;have hlt:=jF h;rw [Eo] at hlt;simp only [World.cell?,KU M w _ hm hlt] at h;split at h <;>simp at h
  ·refine ⟨?_,hm⟩;rw [←World.cell?_of_block (w:=w) (ID M w a.block hm)];exact h
 ·intro ⟨h,hm⟩;rw [World.cell?_of_block (w:=w) (ID M w a.block hm)];exact h
def Ab (M:List Nat) (w w':World):Prop:=Aa (Ay M w) (Ay M w')
theorem Ab.refl (M:List Nat) (w:World):Ab M w w:=jD _
theorem Ab.trans {M:List Nat} {a b c:World} (h:Ab M a b) (k:Ab M b c):Ab M a c:=Aa.trans h k
theorem Ab.mk {M:List Nat} {w w':World} (h1:w'.os=w.os) (h2:w'.tape=w.tape) (h3:w'.output=w.output) (h4:w.heap.size≤w'.heap.size) (h5:∀k,k<w.heap.size→k∉M→w'.heap[k]?=w.heap[k]?):Ab M w w':=by
 refine ⟨h1,h2,h3,by rw [Eo,Eo];exact h4,fun k hk=>?_⟩;rw [Eo] at hk;by_cases hm:k∈M
 ·rw [KU M w k hm hk,KU M w' k hm (by omega)]
 ·rw [ID _ _ _ hm,ID _ _ _ hm];exact h5 k hk hm
theorem Ab.os {M:List Nat} {w w':World} (h:Ab M w w'):w'.os=w.os:=h.below.os
theorem Ab.tape {M:List Nat} {w w':World} (h:Ab M w w'):w'.tape=w.tape:=h.below.tape
theorem Ab.output {M:List Nat} {w w':World} (h:Ab M w w'):w'.output=w.output:=h.below.output
theorem Ab.size {M:List Nat} {w w':World} (h:Ab M w w'):w.heap.size≤w'.heap.size:=by
 have:=Aa.size h;rw [Eo,Eo] at this;exact this
theorem Ab.block {M:List Nat} {w w':World} (h:Ab M w w') (k:Nat) (hk:k<w.heap.size) (hm:k∉M):w'.heap[k]?=w.heap[k]?:=by
 have:=Aa.block h k (by rw [Eo];exact hk);rw [ID _ _ _ hm,ID _ _ _ hm] at this;exact this
theorem Ab.mono {M M':List Nat} {w w':World} (h:Ab M w w') (hm:∀k∈M,k∈M'∨w.heap.size≤k):Ab M' w w':=
 Ab.mk h.os h.tape h.output h.size (fun k hk hn=>h.block k hk (fun hh=>by rcases hm k hh with h1|h1;exact hn h1;omega))
theorem Ab.of_bel {M:List Nat} {w w':World} (h:Aa w w'):Ab M w w':=
 Ab.mk h.below.os h.below.tape h.below.output h.size (fun k hk _=>h.block k hk)
theorem Ab.bel {M:List Nat} {w w':World} (h:Ab M w w') (hm:∀k∈M,w.heap.size≤k):Aa w w':=
 ⟨h.os,h.tape,h.output,h.size,fun k hk=>h.block k hk (fun hh=>by have:=hm k hh;omega)⟩
theorem Ab.belTo {M:List Nat} {a w w':World} (k:Aa a w) (h:Ab M w w') (hm:∀j∈M,a.heap.size≤j):Aa a w':=
 ⟨h.os.trans k.below.os, h.tape.trans k.below.tape, h.output.trans k.below.output, jX k.size h.size, fun j hj =>
   (h.block j (by have := k.size; omega) (fun hh => by have := hm j hh; omega)).trans (k.block j hj)⟩
theorem Ab.cell {M:List Nat} {w w':World} (h:Ab M w w') {p:Addr} {v:Value} (hc:w.cell? p=some v) (hp:p.block∉M):w'.cell? p=some v:=
 (Bn.1 (Aa.cell h (Bn.2 ⟨hc,hp⟩))).1
theorem Ab.frozen {M:List Nat} {w w':World} (h:Ab M w w') {p:Addr} {v:Value} (hc:w.cell? p=some v) (hp:p.block∉M) (hf:w.frozen? p=false):w'.frozen? p=false:=by
 rw [World.frozen?_of_block (w:=w) (h.block p.block (World.block_lt_of_cell? w p hc) hp)];exact hf
theorem Ab.set {M:List Nat} {a w:World} (h:Ab M a w) {p:Addr} (hp:p.block∈M) (u:Value):Ab M a (w.setCell p u):=
 h.trans (Ab.mk rfl rfl rfl (by simp [World.setCell]) (fun k _ hk=>Below.heap_setCell _ _ _ _ (fun e=>hk (e ▸ hp))))
theorem Ab.alloc {M:List Nat} {a w:World} (h:Ab M a w) (o:Obj):Ab M a (w.alloc o):=h.trans (Ab.of_bel ((jD w).step_alloc o))
theorem Ab.drew {M:List Nat} {a w:World} (h:Ab M a w):Ab M a w.drew:=h.trans (Ab.of_bel (jD w).step_drew)
theorem Ab.drewN {M:List Nat} {a w:World} (h:Ab M a w) (n:Nat):Ab M a (w.drewN n):=h.trans (Ab.of_bel ((jD w).step_drewN n))
theorem Ab.step {M:List Nat} {a w w':World} (h:Ab M a w) (k:Aa w w'):Ab M a w':=h.trans (Ab.of_bel k)
theorem Tr {M:List Nat} {base:Nat} {w:World} (hM:∀k∈M,k<base) {a:Addr} {v:Value} (ha:base≤a.block) (h:w.cell? a=some v):(Ay M w).cell? a=some v:=
 Bn.2 ⟨h,fun hm=>by have:=hM _ hm;omega⟩
theorem Tryz.infoBK:(Tryz.prog.info? 75).map (fun i=>(i.zero,i.size,i.bytes))=some (some (.agg #[.string ByteArray.empty,.int .i64 0]),2,24):=by kernel_rfl
theorem Tryz.infoEI:(Tryz.prog.info? 116).map (fun i=>(i.zero,i.size,i.bytes))=some (some (.agg #[.int .u64 0,.int .i64 0]),2,16):=by kernel_rfl
theorem Tryz.infoWay:(Tryz.prog.info? 211).map (fun i=>(i.zero,i.size,i.bytes))=some (some (.agg #[.int .i64 0,.int .i64 0]),2,16):=by kernel_rfl
theorem Tryz.infoInt:(Tryz.prog.info? 3).map (fun i=>(i.zero,i.size,i.bytes))=some (some (.int .i64 0),1,8):=by kernel_rfl
theorem Tryz.infoStr:(Tryz.prog.info? 9).map (fun i=>(i.zero,i.size,i.bytes))=some (some (.string ByteArray.empty),1,16):=by kernel_rfl
theorem Tryz.infoByte:(Tryz.prog.info? 5).map (fun i=>(i.zero,i.size,i.bytes))=some (some (.int .u8 0),1,1):=by kernel_rfl
theorem C8 (w:World) (a b:Value) (t:TypeId) (n:Nat) (hn:n=w.heap.size):∀j u,[a,b][j]?=some u→(w.alloc (.cells #[a,b] t)).cell? ((⟨n,0,none⟩:Addr).add j)=some u:=by
 subst hn;intro j u hu;have hadd:(⟨w.heap.size,0,none⟩:Addr).add j=⟨w.heap.size,j,none⟩:=by unfold Addr.add;split <;>simp_all
 rw [hadd];have hl:j<2:=(List.getElem?_eq_some_iff.1 hu).1;rcases (show j=0∨j=1 by omega) with rfl|rfl
 ·simp at hu;subst hu;simp
 ·simp at hu;subst hu;simp
theorem Fz (w:World) (a:Value) (t:TypeId) (n:Nat) (hn:n=w.heap.size):∀j u,[a][j]?=some u→(w.alloc (.cells #[a] t)).cell? ((⟨n,0,none⟩:Addr).add j)=some u:=by
 subst hn;intro j u hu;have hadd:(⟨w.heap.size,0,none⟩:Addr).add j=⟨w.heap.size,j,none⟩:=by unfold Addr.add;split <;>simp_all
 rw [hadd];have hl:j<1:=(List.getElem?_eq_some_iff.1 hu).1;rcases (show j=0 by omega) with rfl;simp at hu;subst hu;simp
theorem Df {a b:Value} (ha:a.oneCell'=true) (hb:b.oneCell'=true):∀u∈[a,b],u.oneCell'=true:=by
 intro u hu;simp at hu;rcases hu with rfl|rfl
 ·exact ha
 ·exact hb
theorem Ve (L:List BK) (b:BK):AC (L++[b])=AC L++[.string b.1,.int .i64 b.2]:=by simp [AC]
theorem jp {p:Prop} (h:p):Hid p:=h
theorem Hid.mk {p:Prop} (h:p):Hid p:=h
theorem Am.open {w:World} {v:Value} {B:List BK} (h:Am w v B):∃ao cap,v= .slice ao B.length cap∧∀j (hj:j<B.length),∃g,ao=some ⟨g,0,none⟩∧w.cell? ⟨g,j * 2,none⟩=some (.string B[j].1)∧w.cell? ⟨g,j * 2+1,none⟩=some (.int .i64 B[j].2):=by
 rcases h.form with ⟨rfl,rfl⟩|⟨g,cap,rfl,_,_,hc⟩
 ·exact ⟨_,_,rfl,fun j hj=>by simp at hj⟩
 ·exact ⟨_,_,rfl,fun j hj=>⟨g,rfl,hc j hj⟩⟩
def AJ (base:Nat) (w:World) (v:Value) (B:List BK):Prop:=w.ownsRow base 75 2 v B.length (AC B)
def KP (w:World) (B:List BK) (e:Ending) (w':World):Prop:=∃v,e= .returned v∧Aa w w'∧AJ w.heap.size w' v B
theorem AJ.pool {base:Nat} {w:World} {v:Value} {B:List BK} (h:AJ base w v B):Am w v B:=Ap.of_owns h
theorem AJ.mono {b c:Nat} {w:World} {v:Value} {B:List BK} (h:AJ b w v B) (hc:c≤b):AJ c w v B:=by
 obtain ⟨h1,h2⟩:=h;refine ⟨h1,?_⟩;rcases h2 with h2|⟨g,cap,cur,hv,hg,r⟩
 ·exact Or.inl h2
 ·exact Or.inr ⟨g,cap,cur,hv,jX hc hg,r⟩
end Go.Proofs.YtpapdkhjdelfcabGreat
