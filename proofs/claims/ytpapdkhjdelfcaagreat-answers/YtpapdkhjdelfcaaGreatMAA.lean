import Derived.Test.YtpapdkhjdelfcaaGreatProg
import Derived.WalkKit
import Derived.WalkSpells
import Derived.WalkLawsBesides
import Derived.BigQuiet
import Derived.Deep.QuietTactic
import Derived.Laws.BitsAllLaws
import Derived.Deep.RegionWith
import Derived.Deep.DeepCutAuto
import Derived.Deep.LoopGhost
namespace Go.Proofs.YtpapdkhjdelfcaaGreat
open Go.RowKit
set_option maxRecDepth 100000
set_option maxHeartbeats 4000000
def Aa (w w':World):Prop:=Below w.heap.size w w'
theorem Aa.refl (w:World):Aa w w:=Below.refl _ _
theorem Aa.below {a b:World} (h:Aa a b):Below a.heap.size a b:=h
theorem Aa.trans {a b c:World} (h:Aa a b) (k:Aa b c):Aa a c:=Below.trans h.below (k.below.mono h.below.size)
theorem Aa.step_alloc {a w:World} (h:Aa a w) (o:Obj):Aa a (w.alloc o):=h.below.alloc h.below.size o
theorem Aa.step_drew {a w:World} (h:Aa a w):Aa a w.drew:=h.below.drew
theorem Aa.step_drewN {a w:World} (h:Aa a w) (n:Nat):Aa a (w.drewN n):=below_drewN h.below n
theorem jG:type_of% @List.getElem?_eq_getElem:=@List.getElem?_eq_getElem
theorem jH:type_of% @Nat.le_refl:=@Nat.le_refl
theorem jI:type_of% @beq_eq_false_iff_ne:=@beq_eq_false_iff_ne
theorem jJ:type_of% @List.getElem_mem:=@List.getElem_mem
theorem jK:type_of% @decide_eq_false:=@decide_eq_false
theorem jL:type_of% @decide_eq_true:=@decide_eq_true
theorem jM:type_of% @Int.eq_ofNat_of_zero_le:=@Int.eq_ofNat_of_zero_le
theorem jN:type_of% @Nat.lt_of_lt_of_le:=@Nat.lt_of_lt_of_le
theorem jO:type_of% @List.length_append:=@List.length_append
theorem jP:type_of% @List.mem_singleton:=@List.mem_singleton
theorem jQ:type_of% @List.take_succ_eq_append_getElem:=@List.take_succ_eq_append_getElem
theorem jR:type_of% @List.take_of_length_le:=@List.take_of_length_le
theorem jS:type_of% @List.eq_nil_of_length_eq_zero:=@List.eq_nil_of_length_eq_zero
theorem jT:type_of% @List.mem_append:=@List.mem_append
theorem jU:type_of% @List.mem_append_right:=@List.mem_append_right
theorem jV:type_of% @List.getD_eq_getElem?_getD:=@List.getD_eq_getElem?_getD
theorem jW:type_of% @List.mem_cons_of_mem:=@List.mem_cons_of_mem
theorem jX:type_of% @Nat.le_trans:=@Nat.le_trans
theorem jY:type_of% @ByteArray.size_append:=@ByteArray.size_append
theorem jZ:type_of% @Nat.eq_zero_of_not_pos:=@Nat.eq_zero_of_not_pos
theorem ja:type_of% @List.mem_cons:=@List.mem_cons
theorem jb:type_of% @List.count_pos_iff:=@List.count_pos_iff
theorem jc:type_of% @bne_eq_false_iff_eq:=@bne_eq_false_iff_eq
theorem jd:type_of% @List.mem_flatMap:=@List.mem_flatMap
theorem je:type_of% @List.length_map:=@List.length_map
theorem jg:type_of% @List.mem_append_left:=@List.mem_append_left
theorem jh:type_of% @List.length_drop:=@List.length_drop
theorem jk:type_of% @List.length_take:=@List.length_take
theorem jF {w:World} {a:Addr} {v:Value} (h:w.cell? a=some v):a.block<w.heap.size:=World.block_lt_of_cell? w a h
theorem jD (a:World):Aa a a:=Aa.refl a
theorem jE {a b c:World} (h:Aa a b) (k:Aa b c):Aa a c:=h.trans k
theorem jA {a w:World} {o:Obj} (h:Aa a w):Aa a (w.alloc o):=h.step_alloc o
theorem jB {a w:World} (h:Aa a w):Aa a w.drew:=h.step_drew
theorem jC {a w:World} {n:Nat} (h:Aa a w):Aa a (w.drewN n):=h.step_drewN n
theorem jq {a b:World} (h:Aa a b:=by repeat (first|exact jD _|assumption|refine jA ?_|refine jB ?_|refine jC ?_|refine Aa.step_set ?_ (by simp <;>omega) _|refine jE ?_ (by assumption))):Aa a b:=h
theorem j8 {a b:World} (h:Aa a b:=by repeat (first|with_reducible assumption|with_reducible exact Aa.refl _|with_reducible refine Aa.step_drew ?_|with_reducible refine Aa.step_drewN ?_ _|with_reducible refine Aa.trans ?_ (by with_reducible assumption))):Aa a b:=h
theorem jo {p:Prop} (h:p:=by omega):p:=h
theorem js {p:Prop} (h:p:=by simp):p:=h
theorem ji {p:Prop} (h:p:=by decide):p:=h
theorem jv {p:Prop} (h:p:=by simp only;omega):p:=h
theorem jw {p:Prop} (h:p:=by simp <;>omega):p:=h
theorem jx {p:Prop} (h:p:=by simp;omega):p:=h
abbrev jj:=World
abbrev jt:=ByteArray
abbrev ju:=Value
abbrev jr:=List Nat
abbrev jy:=List UInt8
abbrev jz:=List Bool
theorem Aa.size {a w:World} (h:Aa a w):a.heap.size<=w.heap.size:=h.below.size
theorem Aa.block {a w:World} (h:Aa a w):∀k,k<a.heap.size->w.heap[k]?=a.heap[k]?:=h.below.block
theorem Aa.step_set {a w:World} (h:Aa a w) {p:Addr} (b:a.heap.size<=p.block) (u:Value):Aa a (w.setCell p u):=h.below.setCell b u
theorem Aa.grown {a w w':World} {row:Option Nat} (h:Aa a w) (b:w.grownBy w' row) (c:∀k,row=some k->a.heap.size<=k):Aa a w':=h.below.grown b h.below.size c
theorem Aa.of_below {B:Nat} {a w:World} (h:Below B a w) (b:a.heap.size<=B):Aa a w:=h.mono b
theorem Aa.cells {a w:World} (h:Aa a w):(∀b o,b<a.heap.size->w.cell? ⟨b,o,none⟩=a.cell? ⟨b,o,none⟩)/\(∀b o,b<a.heap.size->w.frozen? ⟨b,o,none⟩=a.frozen? ⟨b,o,none⟩):=
 ⟨fun b o c=>h.below.cell (p:=⟨b,o,none⟩) c,fun b o c=>h.below.frozen (p:=⟨b,o,none⟩) c⟩
theorem Aa.cellsTo {a w:World} (h:Aa a w) (N:Nat) (d:N<=a.heap.size):(∀b o,b<N->w.cell? ⟨b,o,none⟩=a.cell? ⟨b,o,none⟩)/\(∀b o,b<N->w.frozen? ⟨b,o,none⟩=a.frozen? ⟨b,o,none⟩):=
 ⟨fun b o c=>h.below.cell (p:=⟨b,o,none⟩) (Nat.lt_of_lt_of_le c d),fun b o c=>h.below.frozen (p:=⟨b,o,none⟩) (Nat.lt_of_lt_of_le c d)⟩
theorem Aa.cell {a w:World} (h:Aa a w) {p:Addr} {v:Value} (b:a.cell? p=some v):w.cell? p=some v:=cell_later h.below b
theorem BO {k:IntKind} {a b:Int} (h:a=b):Ending.returned (.int k a)= .returned (.int k b):=by rw [h]
def Aj (x:Int):Prop:= -9223372036854775808<=x/\x<=9223372036854775807
def Af (a:Int):Prop:=0<=a/\a<4294967296
def KG (w:World) (f:Int->Prop) (e:Ending) (w':World):Prop:=∃x,e= .returned (.int .i64 x)/\Aa w w'/\f x
def Ew (w:World) (f:Bool->Prop) (e:Ending) (w':World):Prop:=∃x,e= .returned (.bool x)/\Aa w w'/\f x
def En (w:World) (f:ByteArray->Prop) (e:Ending) (w':World):Prop:=∃x,e= .returned (.string x)/\Aa w w'/\f x
def Gx (w:World) (f:Int->Int->Prop) (e:Ending) (w':World):Prop:=∃x y,e= .returned (.agg #[.int .i64 x,.int .i64 y])/\Aa w w'/\Af x/\Af y/\f x y
def LA (n:Int) (x:Int):Prop:=0<=x/\x<n
def BM (base:Nat) (w:World) (v:Value):Prop:=∃(p:Nat) (x y:Int),v= .pointer (some ⟨p,0,none⟩)/\base<=p/\w.cell? ⟨p,0,none⟩=some (.int .i64 x)/\w.cell? ⟨p,1,none⟩=some (.int .i64 y)/\w.frozen? ⟨p,0,none⟩=false/\w.frozen? ⟨p,1,none⟩=false/\Af x/\Af y
theorem Aa.frozen {a w:World} (h:Aa a w) {p:Addr} {v:Value} (b:a.cell? p=some v) (c:a.frozen? p=false):w.frozen? p=false:=by
 rw [h.below.frozen (World.block_lt_of_cell? a p b)];exact c
theorem BM.later {B:Nat} {a w:World} {v:Value} (k:BM B a v) (h:Aa a w):BM B w v:=by
 obtain ⟨p,x,y,rfl,d,b,c,f,g,hx,i⟩:=k;exact ⟨p,x,y,rfl,d,h.cell b,h.cell c,h.frozen b f,h.frozen c g,hx,i⟩
theorem Ag (w:World) (a b:Addr) (u:Value):(w.setCell b u).frozen? a=w.frozen? a:=by simp
theorem Bc {w:World} {b o:Nat} {v u:Value} (h:w.cell? ⟨b,o,none⟩=some v):(w.setCell ⟨b,o,none⟩ u).cell? ⟨b,o,none⟩=some u:=by
 simp only [World.cell?,World.setCell] at h |-;rw [Array.getElem?_modify,if_pos rfl];cases c:w.heap[b]? with
 |none=>rw [c] at h;cases h
 |some x=>
  rw [c] at h;cases x <;>simp at h |-;have a:=(Array.getElem?_eq_some_iff.1 h).1;simp [a]
theorem Ad {w:World} {a b:Addr} {u:Value} (h:b.block≠a.block\/b.off≠a.off):(w.setCell b u).cell? a=w.cell? a:=by
 simp only [World.cell?,World.setCell];rw [Array.getElem?_modify];by_cases d:b.block=a.block
 .rw [if_pos d];cases l:w.heap[a.block]? with
  |none=>rfl
  |some x=>
   cases x <;>simp;rename_i c e f;by_cases i:a.spot.isSome
   .simp [i]
   .by_cases k:b.spot.isSome
    .simp [k]
    .have g:b.off≠a.off:=by
      rcases h with h|h
      .exact absurd d h
      .exact h
     simp [i,k,g]
 .rw [if_neg d]
theorem Va (a b:Nat) (c:a<4294967296) (d:b<4294967296):bits .xor .i64 (a:Int) (b:Int)=((a ^^^ b:Nat):Int):=by
 have hx:a ^^^ b<2 ^ 32:=Nat.xor_lt_two_pow (by omega) (by omega);show IntKind.i64.wrap ((BitVec.ofInt 64 (a:Int) ^^^ BitVec.ofInt 64 (b:Int)).toNat:Int)=_;rw [BitVec.toNat_xor,ofInt_u64 a (by omega),ofInt_u64 b (by omega),IntKind.wrap_i64];omega
theorem MQ (a b:Int) (c:Af a) (d:Af b):bits .xor .i64 a b=((a.toNat ^^^ b.toNat:Nat):Int):=by
 obtain ⟨A,rfl⟩:=Int.eq_ofNat_of_zero_le c.1;obtain ⟨B,rfl⟩:=Int.eq_ofNat_of_zero_le d.1;have:=c.2;have:=d.2;simpa using Va A B (by omega) (by omega)
theorem Af.xor {a b:Int} (c:Af a) (d:Af b):Af (bits .xor .i64 a b):=by
 rw [MQ a b c d];obtain ⟨A,rfl⟩:=Int.eq_ofNat_of_zero_le c.1;obtain ⟨B,rfl⟩:=Int.eq_ofNat_of_zero_le d.1;have f:=c.2;have g:=d.2;have hx:A ^^^ B<2 ^ 32:=Nat.xor_lt_two_pow (by omega) (by omega);simp only [Int.toNat_natCast];exact ⟨by omega,by omega⟩
theorem Oi (a b:Nat) (c:a<9223372036854775808) (d:b<9223372036854775808):bits .and .i64 (a:Int) (b:Int)=((a &&& b:Nat):Int):=by
 have hx:a &&& b<2 ^ 63:=Nat.and_lt_two_pow _ (by omega);show IntKind.i64.wrap ((BitVec.ofInt 64 (a:Int) &&& BitVec.ofInt 64 (b:Int)).toNat:Int)=_;rw [BitVec.toNat_and,ofInt_u64 a (by omega),ofInt_u64 b (by omega),IntKind.wrap_i64];omega
def Ap (w:jj) (v:ju) (n:Nat) (a:List Value):Prop:=
 (v= .slice none 0 0/\n=0/\a=[])\/∃g cap,v= .slice (some ⟨g,0,none⟩) n cap/\n<=cap/\g<w.heap.size/\∀j u,a[j]?=some u->w.cell? ⟨g,j,none⟩=some u
theorem Ap.later {a w:jj} {v:ju} {n:Nat} {b:List Value} (h:Ap a v n b) (k:Aa a w):Ap w v n b:=by
 rcases h with h|⟨g,cap,c,d,f,i⟩
 .exact Or.inl h
 .exact Or.inr ⟨g,cap,c,d,jN f k.size,fun j u l=>k.cell (i j u l)⟩
theorem Ap.of_owns {w:jj} {base:Nat} {e:TypeId} {a:Nat} {v:ju} {n:Nat} {c:List Value} (h:w.ownsRow base e a v n c):Ap w v n c:=by
 rcases h.2 with ⟨i,d⟩|⟨g,cap,k,f,p,l,m,q,r,s⟩
 .exact Or.inl ⟨i,d,by have:=h.1;subst d;simpa using this⟩
 .refine Or.inr ⟨g,cap,f,m,(Array.getElem?_eq_some_iff.1 l).1,fun j u o=>?_⟩;have:=h.cells (g:=g) (by rw [f];rfl) j u o;have b:(⟨g,0,none⟩:Addr).add j=⟨g,j,none⟩:=by unfold Addr.add;split <;>simp_all
  rwa [b] at this
abbrev BK:=ByteArray×Int
def AC (l:List BK):List Value:=l.flatMap fun b=>[.string b.1,.int .i64 b.2]
theorem Jn (l:List BK):(AC l).length=l.length * 2:=by
 induction l with
 |nil=>rfl
 |cons b l ih=>simp only [AC,List.flatMap_cons,jO,List.length_cons,List.length_nil] at ih |-;omega
theorem JU (l:List BK) (j:Nat) (h:j<l.length):(AC l)[j * 2]?=some (.string l[j].1)/\(AC l)[j * 2+1]?=some (.int .i64 l[j].2):=by
 induction l generalizing j with
 |nil=>simp at h
 |cons b l ih=>
  cases j with
  |zero=>simp [AC]
  |succ j=>
   obtain ⟨a,c⟩:=ih j (by simpa using h);have d:(j+1) * 2=j * 2+1+1:=jo
   rw [d];simp only [AC,List.flatMap_cons,List.cons_append,List.nil_append,List.getElem?_cons_succ] at a c |-;exact ⟨a,c⟩
abbrev EN:=ByteArray×Int×Int
def Av (l:List EN):List Value:=l.flatMap fun b=>[.string b.1,.int .i64 b.2.1,.int .i64 b.2.2]
theorem Iv (l:List EN):(Av l).length=l.length * 3:=by
 induction l with
 |nil=>rfl
 |cons b l ih=>simp only [Av,List.flatMap_cons,jO,List.length_cons,List.length_nil] at ih |-;omega
theorem Ig (l:List EN) (j:Nat) (h:j<l.length):(Av l)[j * 3]?=some (.string l[j].1)/\(Av l)[j * 3+1]?=some (.int .i64 l[j].2.1)/\(Av l)[j * 3+2]?=some (.int .i64 l[j].2.2):=by
 induction l generalizing j with
 |nil=>simp at h
 |cons b l ih=>
  cases j with
  |zero=>simp [Av]
  |succ j=>
   obtain ⟨a,c,d⟩:=ih j (by simpa using h);have f:(j+1) * 3=j * 3+1+1+1:=jo
   rw [f];simp only [Av,List.flatMap_cons,List.cons_append,List.nil_append,List.getElem?_cons_succ] at a c d |-;exact ⟨a,c,d⟩
def Am (w:jj) (v:ju) (l:List BK):Prop:=Ap w v l.length (AC l)
def Cl (w:jj) (v:ju) (l:List EN):Prop:=Ap w v l.length (Av l)
theorem Am.later {a w:jj} {v:ju} {l:List BK} (h:Am a v l) (k:Aa a w):Am w v l:=Ap.later h k
theorem Cl.later {a w:jj} {v:ju} {l:List EN} (h:Cl a v l) (k:Aa a w):Cl w v l:=Ap.later h k
theorem Am.form {w:jj} {v:ju} {l:List BK} (h:Am w v l):(v= .slice none 0 0/\l=[])\/∃g cap,v= .slice (some ⟨g,0,none⟩) l.length cap/\l.length<=cap/\g<w.heap.size/\
  ∀j (a:j<l.length),w.cell? ⟨g,j * 2,none⟩=some (.string l[j].1)/\w.cell? ⟨g,j * 2+1,none⟩=some (.int .i64 l[j].2):=by
 rcases h with ⟨c,d,_⟩|⟨g,cap,f,i,k,b⟩
 .exact Or.inl ⟨c,jS d⟩
 .exact Or.inr ⟨g,cap,f,i,k,fun j a=>⟨b _ _ (JU l j a).1,b _ _ (JU l j a).2⟩⟩
theorem Cl.form {w:jj} {v:ju} {l:List EN} (h:Cl w v l):(v= .slice none 0 0/\l=[])\/∃g cap,v= .slice (some ⟨g,0,none⟩) l.length cap/\l.length<=cap/\g<w.heap.size/\
  ∀j (a:j<l.length),w.cell? ⟨g,j * 3,none⟩=some (.string l[j].1)/\w.cell? ⟨g,j * 3+1,none⟩=some (.int .i64 l[j].2.1)/\w.cell? ⟨g,j * 3+2,none⟩=some (.int .i64 l[j].2.2):=by
 rcases h with ⟨c,d,_⟩|⟨g,cap,f,i,k,b⟩
 .exact Or.inl ⟨c,jS d⟩
 .exact Or.inr ⟨g,cap,f,i,k,fun j a=>⟨b _ _ (Ig l j a).1,b _ _ (Ig l j a).2.1,b _ _ (Ig l j a).2.2⟩⟩
def Dz (base:Nat) (w:jj) (v:ju) (l:List EN):Prop:=Cl w v l/\∀g,v.ownBlock=some g->base<=g
theorem Dz.later {base:Nat} {a w:jj} {v:ju} {l:List EN} (h:Dz base a v l) (k:Aa a w):Dz base w v l:=⟨h.1.later k,h.2⟩
def AL (l:List BK):Prop:=l.length<=8/\∀b∈l,1<=b.1.size/\b.1.size<=8/\0<=b.2/\b.2<=6
structure Ac where
 alg:Int
 slots:Int
 points:Int
 probes:Int
 key:ByteArray
 formats:Int
def Ac.cells (c:Ac):Array Value:=#[.int .i64 c.alg,.int .i64 c.slots,.int .i64 c.points,.int .i64 c.probes,.string c.key,.int .i64 c.formats]
def Ac.OK (c:Ac):Prop:=1<=c.alg/\c.alg<=4/\3<=c.slots/\c.slots<=211/\(∀d:Nat,2<=d->(d:Int)<c.slots->c.slots % d≠0)/\1<=c.points/\c.points<=3/\1<=c.probes/\c.probes<=5/\c.key.size=16/\1<=c.formats/\c.formats<=3
def Ac.Fit (c:Ac):Prop:=Aj c.alg/\Aj c.slots/\Aj c.points/\Aj c.probes/\Aj c.formats/\c.key.size<=maxLen
def Co (p:Prop) (x:Bool):Prop:=x=true↔p
theorem FE {a b:jt}:(a.toList==b.toList)=true↔a=b:=by
 rw [ByteArray.toList_eq,ByteArray.toList_eq];constructor
 .intro h;exact ByteArray.ext (Array.toList_inj.mp (by simpa using h))
 .intro h;subst h;simp
theorem Rw {a b:jt} (h:¬a=b):(a.toList==b.toList)=false:=by
 cases c:a.toList==b.toList
 .rfl
 .exact absurd (FE.1 c) h
def AO (a b:jt):Bool:=Op.bytesLess a.toList b.toList
theorem Mz:∀(x y:jy),Op.bytesLess x y=decide (x<y)
 |[],[]=>by simp [Op.bytesLess]
 |_::_,[]=>by simp [Op.bytesLess]
 |[],_::_=>by simp [Op.bytesLess]
 |a::x,b::y=>by
  rw [Op.bytesLess,Mz x y];simp only [List.cons_lt_cons_iff];by_cases c:a<b
  .simp [c]
  .by_cases d:a=b
   .simp [d]
   .simp [c,d]
theorem J6 {a b:jt}:AO a b=true↔a.toList<b.toList:=by rw [AO,Mz];simp
theorem KL {a b:jt}:AO a b=false↔¬a.toList<b.toList:=by rw [AO,Mz];simp
theorem Ln (a:jt):AO a a=false:=KL.2 (List.lt_irrefl _)
theorem Pm {a b c:jt} (h:AO a b=true) (k:AO b c=true):AO a c=true:=J6.2 (List.lt_trans (J6.1 h) (J6.1 k))
theorem Qj {a b:jt} (h:AO a b=true):AO b a=false:=KL.2 (fun k=>List.lt_irrefl _ (List.lt_trans (J6.1 h) k))
theorem toList_inj {a b:jt} (h:a.toList=b.toList):a=b:=by
 rw [ByteArray.toList_eq,ByteArray.toList_eq] at h;exact ByteArray.ext (Array.toList_inj.mp h)
theorem Pi {a b:jt} (h:AO a b=false) (k:AO b a=false):a=b:=
 toList_inj (List.le_antisymm (List.not_lt.1 (KL.1 k)) (List.not_lt.1 (KL.1 h)))
def Ep (B:List BK):Prop:=B.Pairwise fun a b=>AO a.1 b.1=true
def Bg (m:BK):List BK->List BK
 |[]=>[m]
 |b::B=>if AO m.1 b.1 then m::b::B else b::Bg m B
theorem Qa (m:BK) (B:List BK):(Bg m B).length=B.length+1:=by
 induction B with
 |nil=>rfl
 |cons b B ih=>simp only [Bg];split <;>simp [ih]
theorem Ol {m x:BK} {B:List BK}:x∈Bg m B↔x=m\/x∈B:=by
 induction B with
 |nil=>simp [Bg]
 |cons b B ih=>
  simp only [Bg];split
  .simp
  .simp only [ja,ih];constructor
   .rintro (h|h|h)
    .exact Or.inr (Or.inl h)
    .exact Or.inl h
    .exact Or.inr (Or.inr h)
   .rintro (h|h|h)
    .exact Or.inr (Or.inl h)
    .exact Or.inl h
    .exact Or.inr (Or.inr h)
theorem Tv {m:BK} {B:List BK} (h:Ep B) (c:∀b∈B,b.1≠m.1):Ep (Bg m B):=by
 induction B with
 |nil=>exact List.pairwise_singleton _ _
 |cons b B ih=>
  obtain ⟨d,f⟩:=List.pairwise_cons.1 h;simp only [Bg];cases a:AO m.1 b.1
  .simp only [Bool.false_eq_true,if_false];refine List.pairwise_cons.2 ⟨fun x hx=>?_,ih f (fun y g=>c y (jW _ g))⟩;rcases Ol.1 hx with rfl|hx
   .cases i:AO b.1 x.1
    .exact absurd (Pi i a) (c b List.mem_cons_self)
    .rfl
   .exact d x hx
  .simp only [if_true];refine List.pairwise_cons.2 ⟨fun x hx=>?_,h⟩;rcases ja.1 hx with rfl|hx
   .exact a
   .exact Pm a (d x hx)
theorem Ep.ne {B:List BK} (h:Ep B) {i j:Nat} (c:i<B.length) (d:j<B.length) (b:i≠j):B[i].1≠B[j].1:=by
 intro e;have f:=List.pairwise_iff_getElem.1 h;rcases Nat.lt_or_gt_of_ne b with a|a
 .have:=f i j c d a;rw [e,Ln] at this;cases this
 .have:=f j i d c a;rw [e,Ln] at this;cases this
theorem Vc {B:List BK} (h:Ep B) (p:Nat):Ep (B.eraseIdx p):=List.Pairwise.sublist (List.eraseIdx_sublist B p) h
theorem Ua {B:List BK} (h:Ep B) {p:Nat} (d:p<B.length) (n:Int):Ep (B.set p (B[p].1,n)):=by
 rw [Ep,List.pairwise_iff_getElem] at h |-;intro i j b c a;simp only [List.length_set] at b c;have:=h i j b c a;simp only [List.getElem_set];split <;>split <;>simp_all
def Bq (id:jt) (B:List BK):Nat:=B.findIdx fun b=>b.1.toList==id.toList
/-! The changes of a pool,as the code makes them. -/
theorem Lh {id:jt} {B:List BK} (h:∃b∈B,b.1=id):Bq id B<B.length:=by
 unfold Bq;rw [List.findIdx_lt_length];obtain ⟨b,c,e⟩:=h;exact ⟨b,c,FE.2 e⟩
theorem Ho {id:jt} {B:List BK} (h:Bq id B<B.length):(B[Bq id B]).1=id:=by
 exact FE.1 (List.findIdx_getElem (p:=fun b:BK=>b.1.toList==id.toList) (w:=h))
theorem RM {B:List BK} (c:Ep B) {i:Nat} (b:i<B.length):Bq B[i].1 B=i:=by
 have a:Bq B[i].1 B<B.length:=Lh ⟨B[i],jJ b,rfl⟩;have d:=Ho a;by_cases h:Bq B[i].1 B=i
 .exact h
 .exact absurd d (c.ne a b h)
def Cw (B:List BK) (id:jt) (n:Int):Int:=
 if id.size<1\/8<id.size then 2 else if n<0\/6<n then 5 else if Bq id B<B.length then 3 else if 8<=B.length then 6 else 0
def Dj (B:List BK) (id:jt) (n:Int):List BK:=if Cw B id n=0 then Bg (id,n) B else B
def Ej (B:List BK) (id:jt):Int:=if Bq id B<B.length then 0 else 4
def EQ (B:List BK) (id:jt):List BK:=if Ej B id=0 then B.eraseIdx (Bq id B) else B
def Dy (B:List BK) (id:jt) (n:Int):Int:=if n<0\/6<n then 5 else if Bq id B<B.length then 0 else 4
def Er (B:List BK) (id:jt) (n:Int):List BK:=if Dy B id n=0 then B.set (Bq id B) (id,n) else B
def AH (B:List BK):Prop:=AL B/\Ep B
theorem AH.nil:AH []:=⟨⟨js,fun b a=>by cases a⟩,List.Pairwise.nil⟩
theorem W6 {id:jt} {B:List BK} (h:¬Bq id B<B.length):∀b∈B,b.1≠id:=fun b a e=>h (Lh ⟨b,a,e⟩)
theorem AH.add {B:List BK} (h:AH B) (id:jt) (n:Int):AH (Dj B id n):=by
 unfold Dj;split
 .rename_i a;unfold Cw at a;split at a
  .cases a
  split at a
  .cases a
  split at a
  .cases a
  split at a
  .cases a
  rename_i f g d i;refine ⟨⟨by rw [Qa];omega,fun b c=>?_⟩,Tv h.2 (W6 d)⟩;rcases Ol.1 c with rfl|c
  .exact ⟨jv,jv,jv,jv⟩
  .exact h.1.2 b c
 .exact h
theorem AH.erase {B:List BK} (h:AH B) (p:Nat):AH (B.eraseIdx p):=
 ⟨⟨jX (List.length_eraseIdx_le _ _) h.1.1,fun b a=>h.1.2 b (List.mem_of_mem_eraseIdx a)⟩,Vc h.2 p⟩
theorem AH.rem {B:List BK} (h:AH B) (id:jt):AH (EQ B id):=by
 unfold EQ;split
 .exact h.erase _
 .exact h
theorem AH.set {B:List BK} (h:AH B) (id:jt) (n:Int):AH (Er B id n):=by
 unfold Er;split
 .rename_i a;unfold Dy at a;split at a
  .cases a
  split at a
  .rename_i f c;refine ⟨⟨by simpa using h.1.1,fun b d=>?_⟩,?_⟩
   .rcases List.mem_or_eq_of_mem_set d with d|rfl
    .exact h.1.2 b d
    .have:=h.1.2 _ (jJ c);rw [Ho c] at this;exact ⟨this.1,this.2.1,jv,jv⟩
   .have:=Ua h.2 c n;rw [Ho c] at this;exact this
  .cases a
 .exact h
/-! What the code's functions come to,as functions. -/
def Ca (x:Int) (n:Nat):Int:=bits .or .u64 (x * 2 ^ n % 18446744073709551616) (x / 2 ^ (64 - n))
structure S4 where
 a:Int
 b:Int
 c:Int
 d:Int
def S4.round (s:S4):S4:=
 let f:=(s.a+s.b) % 18446744073709551616
 let g:=bits .xor .u64 (Ca s.b 13) f
 let n:=Ca f 32
 let i:=(s.c+s.d) % 18446744073709551616
 let k:=bits .xor .u64 (Ca s.d 16) i
 let l:=(n+k) % 18446744073709551616
 let o:=bits .xor .u64 (Ca k 21) l
 let m:=(i+g) % 18446744073709551616
 let p:=bits .xor .u64 (Ca g 17) m
 ⟨l,p,Ca m 32,o⟩
def S4.take (s:S4) (m:Int):S4:=
 let f:=S4.round (S4.round ⟨s.a,s.b,s.c,bits .xor .u64 s.d m⟩)
 ⟨bits .xor .u64 f.a m,f.b,f.c,f.d⟩
def AQ (t:jt) (i:Nat):Int:=if h:i<t.size then (t[i].toNat:Int) else 0
def BI (t:jt) (f:Nat):Nat->Int
 |0=>0
 |n+1=>let v:=BI t f n * 256 % 18446744073709551616
  if f+(7 - n)<t.size then bits .or .u64 v (AQ t (f+(7 - n))) else v
def BE (t:jt) (f:Nat):Int:=BI t f 8
def Dt (k l:Int):S4:=⟨bits .xor .u64 k 8317987319222330741,bits .xor .u64 l 7237128888997146477,bits .xor .u64 k 7816392313619706465,bits .xor .u64 l 8387220255154660723⟩
def CH (t:jt) (s:S4):Nat->S4
 |0=>s
 |n+1=>(CH t s n).take (BE t (8 * n))
def Cs (key t:jt):Int:=
 let s:=CH t (Dt (BE key 0) (BE key 8)) (t.size / 8)
 let s:=s.take (bits .or .u64 (BE t (8 * (t.size / 8))) ((t.size:Int) * 72057594037927936 % 18446744073709551616))
 let s:S4:=⟨s.a,s.b,bits .xor .u64 s.c 255,s.d⟩
 let s:=s.round.round.round.round
 bits .xor .u64 (bits .xor .u64 (bits .xor .u64 s.a s.b) s.c) s.d
def CK (letter:UInt8) (a:jr):List UInt8:=letter::a.flatMap fun n=>[UInt8.ofNat (n / 256),UInt8.ofNat n]
def Al (key:jt) (letter:UInt8) (a:jr) (t:jt):Int:=Cs key (ByteArray.mk (CK letter a).toArray++t)
def Cv (h m:Int):Int:=if m<1 then 0 else h % m
def As (B:List BK):Int:=(B.map (·.2)).sum
def Cr (c:Ac) (b:BK):Int×Int:=(Cv (Al c.key 111 [] b.1) c.slots,Cv (Al c.key 115 [] b.1) (c.slots - 1)+1)
def A0 (n:Nat) (w:Int×Int) (i:Nat):Nat:=((w.1+i * w.2) % n).toNat
def EF (S:List Int) (w:Int×Int):Option Nat:=((List.range S.length).map (A0 S.length w)).find? fun s=>S.getD s 0<0
def A5 (R:List Int):Nat->Int×Int
 |0=>(-1, -1)
 |n+1=>if (A5 R n).2<R.getD n 0 then ((n:Int),R.getD n 0) else A5 R n
def C1 (R:List Int):Int:=(A5 R R.length).1
def CI:Nat->List Int->List Int->List Int
 |0,s,_=>s
 |n+1,s,r=>if C1 r<0 then s else CI n (s.set (C1 r).toNat (s.getD (C1 r).toNat 0+1)) (r.set (C1 r).toNat (-1))
def Bi (M:Int) (B:List BK):List Int:=B.map fun b=>M * b.2 / As B
def CF (M:Int) (B:List BK):List Int:=B.map fun b=>M * b.2 % As B
def CJ (M:Int) (B:List BK):List Int:=if As B<1 then [] else CI (M - (Bi M B).sum).toNat (Bi M B) (CF M B)
def FP (W:List (Int×Int)) (S:List Int) (i:Nat):List Int:=match EF S (W.getD i (0,0)) with
 |some k=>S.set k i
 |none=>S
def Bu (W:List (Int×Int)) (sh:List Int) (r:Nat) (S:List Int):Nat->List Int
 |0=>S
 |n+1=>if sh.getD n 0<=r then Bu W sh r S n else FP W (Bu W sh r S n) n
def CD (W:List (Int×Int)) (sh:List Int) (S:List Int):Nat->List Int
 |0=>S
 |r+1=>Bu W sh r (CD W sh S r) sh.length
abbrev EI:=Int×Int
def F3 (c:Ac) (B:List BK):List Int:=CD (B.map (Cr c)) (CJ c.slots B) (List.replicate c.slots.toNat (-1)) c.slots.toNat
def A6 (key:jt) (s:Nat) (i:Nat) (id:jt) (m:Int×Int):Nat->Int×Int
 |0=>m
 |k+1=>let h:=Al key 104 [s,k] id
  let p:=A6 key s i id m k
  if p.1<0\/p.2<h then ((i:Int),h) else p
def AV (key:jt) (s:Nat) (B:List BK):Nat->Int×Int
 |0=>(-1,0)
 |i+1=>match B[i]? with
  |some b=>A6 key s i b.1 (AV key s B i) b.2.toNat
  |none=>AV key s B i
def CS (key:jt) (B:List BK) (s:Nat):Int:=(AV key s B B.length).1
def DD (key:jt) (letter:UInt8) (each:Int) (i:Nat) (b:BK):List EI:=(List.range (each * b.2).toNat).map fun k=>(Al key letter [k] b.1,(i:Int))
def AW (key:jt) (letter:UInt8) (each:Int) (B:List BK):Nat->List EI
 |0=>[]
 |i+1=>match B[i]? with
  |some b=>AW key letter each B i++DD key letter each i b
  |none=>AW key letter each B i
def Ck (e:EI):List EI->List EI
 |[]=>[e]
 |x::l=>if e.1<x.1 then e::x::l else x::Ck e l
def BN (L:List EI):Nat->List EI
 |0=>[]
 |n+1=>match L[n]? with
  |some e=>Ck e (BN L n)
  |none=>BN L n
def Dk (key:jt) (letter:UInt8) (each:Int) (B:List BK):List EI:=BN (AW key letter each B B.length) (AW key letter each B B.length).length
def An (c:Ac) (B:List BK):List EI:=
 if As B<1 then []
 else if c.alg=1 then (F3 c B).map fun o=>(0,o)
 else if c.alg=2 then Dk c.key 114 c.points B
 else if c.alg=3 then (List.range c.slots.toNat).map fun s=>(0,CS c.key B s)
 else if c.alg=4 then Dk c.key 109 1 B
 else []
def A7 (B:List BK) (i:Int):ByteArray:=if i<0 then ByteArray.empty else ((B[i.toNat]?).map (·.1)).getD ByteArray.empty
def A8 (E:List EI) (h:Int):Nat:=if E.findIdx (fun e=>h<=e.1)<E.length then E.findIdx (fun e=>h<=e.1) else 0
def C9 (c:Ac) (E:List EI) (k:jt):Nat->Nat×Int
 |0=>(0,0)
 |n+1=>let h:=Al c.key 112 [n] k
  let d:=((E.getD (A8 E h) (0,0)).1 - h) % 18446744073709551616
  if n=0\/d<(C9 c E k n).2 then (A8 E h,d) else C9 c E k n
def Dc (c:Ac) (E:List EI) (k:jt):Nat:=
 if E.length=0 then 0
 else if c.alg=4 then (C9 c E k c.probes.toNat).1
 else if c.alg=2 then A8 E (Al c.key 107 [] k)
 else (Al c.key 107 [] k % E.length).toNat
def Ee (c:Ac) (B:List BK) (k:jt):ByteArray×Int:=match (An c B)[Dc c (An c B) k]? with
 |some e=>(A7 B e.2,0)
 |none=>(ByteArray.empty,8)
def Ay (M:jr) (w:jj):World:={w with heap:=w.heap.mapIdx fun i o=>if i∈M then Obj.cells #[] 0 else o}
theorem Eo (M:jr) (w:jj):(Ay M w).heap.size=w.heap.size:=by simp [Ay]
theorem ID (M:jr) (w:jj) (k:Nat) (h:k∉M):(Ay M w).heap[k]?=w.heap[k]?:=by
 simp only [Ay,Array.getElem?_mapIdx];cases w.heap[k]? <;>simp [h]
theorem KU (M:jr) (w:jj) (k:Nat) (h:k∈M) (a:k<w.heap.size):(Ay M w).heap[k]?=some (Obj.cells #[] 0):=by
 simp only [Ay,Array.getElem?_mapIdx];rw [Array.getElem?_eq_getElem a];simp [h]
theorem Bn {M:jr} {w:jj} {a:Addr} {v:ju}:(Ay M w).cell? a=some v↔w.cell? a=some v/\a.block∉M:=by
 constructor
 .intro h;by_cases b:a.block∈M
  .exfalso;have c:=jF h;rw [Eo] at c;simp only [World.cell?,KU M w _ b c] at h;split at h <;>simp at h
  .refine ⟨?_,b⟩;rw [<-World.cell?_of_block (w:=w) (ID M w a.block b)];exact h
 .intro ⟨h,b⟩;rw [World.cell?_of_block (w:=w) (ID M w a.block b)];exact h
def Ab (M:jr) (w w':jj):Prop:=Aa (Ay M w) (Ay M w')
theorem Ab.refl (M:jr) (w:jj):Ab M w w:=jD _
theorem Ab.trans {M:jr} {a b c:jj} (h:Ab M a b) (k:Ab M b c):Ab M a c:=Aa.trans h k
theorem Ab.mk {M:jr} {w w':jj} (c:w'.os=w.os) (d:w'.tape=w.tape) (f:w'.output=w.output) (g:w.heap.size<=w'.heap.size) (i:∀k,k<w.heap.size->k∉M->w'.heap[k]?=w.heap[k]?):Ab M w w':=by
 refine ⟨c,d,f,by rw [Eo,Eo];exact g,fun k b=>?_⟩;rw [Eo] at b;by_cases a:k∈M
 .rw [KU M w k a b,KU M w' k a jo]
 .rw [ID _ _ _ a,ID _ _ _ a];exact i k b a
theorem Ab.os {M:jr} {w w':jj} (h:Ab M w w'):w'.os=w.os:=h.below.os
theorem Ab.tape {M:jr} {w w':jj} (h:Ab M w w'):w'.tape=w.tape:=h.below.tape
theorem Ab.output {M:jr} {w w':jj} (h:Ab M w w'):w'.output=w.output:=h.below.output
theorem Ab.size {M:jr} {w w':jj} (h:Ab M w w'):w.heap.size<=w'.heap.size:=by
 have:=Aa.size h;rw [Eo,Eo] at this;exact this
theorem Ab.block {M:jr} {w w':jj} (h:Ab M w w') (k:Nat) (b:k<w.heap.size) (a:k∉M):w'.heap[k]?=w.heap[k]?:=by
 have:=Aa.block h k (by rw [Eo];exact b);rw [ID _ _ _ a,ID _ _ _ a] at this;exact this
theorem Ab.mono {M M':jr} {w w':jj} (h:Ab M w w') (b:∀k∈M,k∈M'\/w.heap.size<=k):Ab M' w w':=
 Ab.mk h.os h.tape h.output h.size (fun k c d=>h.block k c (fun f=>by rcases b k f with a|a;exact d a;omega))
theorem Ab.of_bel {M:jr} {w w':jj} (h:Aa w w'):Ab M w w':=
 Ab.mk h.below.os h.below.tape h.below.output h.size (fun k a _=>h.block k a)
theorem Ab.bel {M:jr} {w w':jj} (h:Ab M w w') (a:∀k∈M,w.heap.size<=k):Aa w w':=
 ⟨h.os,h.tape,h.output,h.size,fun k b=>h.block k b (fun c=>by have:=a k c;omega)⟩
theorem Ab.belTo {M:jr} {a w w':jj} (k:Aa a w) (h:Ab M w w') (b:∀j∈M,a.heap.size<=j):Aa a w':=
 ⟨h.os.trans k.below.os, h.tape.trans k.below.tape, h.output.trans k.below.output, jX k.size h.size, fun j c =>
   (h.block j (by have := k.size; omega) (fun d => by have := b j d; omega)).trans (k.block j c)⟩
theorem Ab.cell {M:jr} {w w':jj} (h:Ab M w w') {p:Addr} {v:ju} (a:w.cell? p=some v) (b:p.block∉M):w'.cell? p=some v:=
 (Bn.1 (Aa.cell h (Bn.2 ⟨a,b⟩))).1
theorem Ab.frozen {M:jr} {w w':jj} (h:Ab M w w') {p:Addr} {v:ju} (a:w.cell? p=some v) (b:p.block∉M) (c:w.frozen? p=false):w'.frozen? p=false:=by
 rw [World.frozen?_of_block (w:=w) (h.block p.block (World.block_lt_of_cell? w p a) b)];exact c
theorem Ab.set {M:jr} {a w:jj} (h:Ab M a w) {p:Addr} (b:p.block∈M) (u:ju):Ab M a (w.setCell p u):=
 h.trans (Ab.mk rfl rfl rfl (by simp [World.setCell]) (fun k _ c=>Below.heap_setCell _ _ _ _ (fun e=>c (e ▸ b))))
theorem Ab.alloc {M:jr} {a w:jj} (h:Ab M a w) (o:Obj):Ab M a (w.alloc o):=h.trans (Ab.of_bel ((jD w).step_alloc o))
theorem Ab.drew {M:jr} {a w:jj} (h:Ab M a w):Ab M a w.drew:=h.trans (Ab.of_bel (jD w).step_drew)
theorem Ab.drewN {M:jr} {a w:jj} (h:Ab M a w) (n:Nat):Ab M a (w.drewN n):=h.trans (Ab.of_bel ((jD w).step_drewN n))
theorem Ab.step {M:jr} {a w w':jj} (h:Ab M a w) (k:Aa w w'):Ab M a w':=h.trans (Ab.of_bel k)
theorem j9 {M:jr} {a b:jj} (h:Ab M a b:=by repeat (first|exact Ab.refl _ _|assumption|refine Ab.drew ?_|refine Ab.drewN ?_ _|refine Ab.alloc ?_ _|refine Ab.set ?_ js _|refine Ab.trans ?_ (by assumption)|refine Ab.step ?_ (by assumption))):Ab M a b:=h
theorem Tr {M:jr} {base:Nat} {w:jj} (b:∀k∈M,k<base) {a:Addr} {v:ju} (d:base<=a.block) (h:w.cell? a=some v):(Ay M w).cell? a=some v:=
 Bn.2 ⟨h,fun c=>by have:=b _ c;omega⟩
theorem Tryz.infoBK:(Tryz.prog.info? 57).map (fun i=>(i.zero,i.size,i.bytes))=some (some (.agg #[.string ByteArray.empty,.int .i64 0]),2,24):=by kernel_rfl
theorem Tryz.infoEI:(Tryz.prog.info? 76).map (fun i=>(i.zero,i.size,i.bytes))=some (some (.agg #[.int .u64 0,.int .i64 0]),2,16):=by kernel_rfl
theorem Tryz.infoWay:(Tryz.prog.info? 178).map (fun i=>(i.zero,i.size,i.bytes))=some (some (.agg #[.int .i64 0,.int .i64 0]),2,16):=by kernel_rfl
theorem Tryz.infoInt:(Tryz.prog.info? 3).map (fun i=>(i.zero,i.size,i.bytes))=some (some (.int .i64 0),1,8):=by kernel_rfl
theorem Tryz.infoStr:(Tryz.prog.info? 9).map (fun i=>(i.zero,i.size,i.bytes))=some (some (.string ByteArray.empty),1,16):=by kernel_rfl
theorem Tryz.infoByte:(Tryz.prog.info? 5).map (fun i=>(i.zero,i.size,i.bytes))=some (some (.int .u8 0),1,1):=by kernel_rfl
theorem C8 (w:jj) (a b:ju) (t:TypeId) (n:Nat) (f:n=w.heap.size):∀j u,[a,b][j]?=some u->(w.alloc (.cells #[a,b] t)).cell? ((⟨n,0,none⟩:Addr).add j)=some u:=by
 subst f;intro j u c;have d:(⟨w.heap.size,0,none⟩:Addr).add j=⟨w.heap.size,j,none⟩:=by unfold Addr.add;split <;>simp_all
 rw [d];have g:j<2:=(List.getElem?_eq_some_iff.1 c).1;rcases (show j=0\/j=1 by omega) with rfl|rfl
 .simp at c;subst c;simp
 .simp at c;subst c;simp
theorem Fz (w:jj) (a:ju) (t:TypeId) (n:Nat) (d:n=w.heap.size):∀j u,[a][j]?=some u->(w.alloc (.cells #[a] t)).cell? ((⟨n,0,none⟩:Addr).add j)=some u:=by
 subst d;intro j u c;have b:(⟨w.heap.size,0,none⟩:Addr).add j=⟨w.heap.size,j,none⟩:=by unfold Addr.add;split <;>simp_all
 rw [b];have f:j<1:=(List.getElem?_eq_some_iff.1 c).1;rcases (show j=0 by omega) with rfl;simp at c;subst c;simp
theorem Df {a b:ju} (d:a.oneCell'=true) (f:b.oneCell'=true):∀u∈[a,b],u.oneCell'=true:=by
 intro u c;simp at c;rcases c with rfl|rfl
 .exact d
 .exact f
theorem Ve (L:List BK) (b:BK):AC (L++[b])=AC L++[.string b.1,.int .i64 b.2]:=by simp [AC]
theorem jp {p:Prop} (h:p):Hid p:=h
theorem Hid.mk {p:Prop} (h:p):Hid p:=h
theorem Am.open {w:jj} {v:ju} {B:List BK} (h:Am w v B):∃b cap,v= .slice b B.length cap/\∀j (a:j<B.length),∃g,b=some ⟨g,0,none⟩/\w.cell? ⟨g,j * 2,none⟩=some (.string B[j].1)/\w.cell? ⟨g,j * 2+1,none⟩=some (.int .i64 B[j].2):=by
 rcases h.form with ⟨rfl,rfl⟩|⟨g,cap,rfl,_,_,c⟩
 .exact ⟨_,_,rfl,fun j a=>by simp at a⟩
 .exact ⟨_,_,rfl,fun j a=>⟨g,rfl,c j a⟩⟩
def AJ (base:Nat) (w:jj) (v:ju) (B:List BK):Prop:=w.ownsRow base 57 2 v B.length (AC B)
def KP (w:jj) (B:List BK) (e:Ending) (w':jj):Prop:=∃v,e= .returned v/\Aa w w'/\AJ w.heap.size w' v B
theorem AJ.pool {base:Nat} {w:jj} {v:ju} {B:List BK} (h:AJ base w v B):Am w v B:=Ap.of_owns h
theorem AJ.mono {b c:Nat} {w:jj} {v:ju} {B:List BK} (h:AJ b w v B) (f:c<=b):AJ c w v B:=by
 obtain ⟨i,a⟩:=h;refine ⟨i,?_⟩;rcases a with a|⟨g,cap,d,k,l,r⟩
 .exact Or.inl a
 .exact Or.inr ⟨g,cap,d,k,jX f l,r⟩
end Go.Proofs.YtpapdkhjdelfcaaGreat
