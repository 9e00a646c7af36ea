import Derived.Test.YtpapdkhjdelfcabGreatHAD
import Derived.Laws.IdiomStrings
import Derived.Laws.OwnMore
import Derived.Test.YtpapdkhjdelfcabGreatHAB
set_option maxRecDepth 100000
set_option maxHeartbeats 4000000
namespace Go.Proofs.YtpapdkhjdelfcabGreat
open Go.RowKit
def IntsAt (w:World) (v:Value) (l:List Nat):Prop:=RowAt w v l.length (l.map fun (n:Nat)=>Value.int .i64 (n:Int))
theorem IntsAt.open {w:World} {v:Value} {l:List Nat} (h:IntsAt w v l):∃ao cap,v= .slice ao l.length cap∧∀j (hj:j<l.length),∃g,ao=some ⟨g,0,none⟩∧w.cell? ⟨g,j,none⟩=some (.int .i64 (l[j]:Int)):=by
 rcases h with ⟨h1,h2,_⟩|⟨g,cap,hv,hn,hg,hc⟩
 ·exact ⟨none,0,by rw [h1,h2],fun j hj=>by omega⟩
 ·exact ⟨_,cap,hv,fun j hj=>⟨g,rfl,hc j _ (by simp [hj])⟩⟩
def byteV (b:UInt8):Value:= .int .u8 (b.toNat:Int)
theorem u8_of (n:Nat):((UInt8.ofNat n).toNat:Int)=(n:Int) % 256:=by simp
theorem headOf_snoc (letter:UInt8) (nums:List Nat) (k:Nat) (h:k<nums.length):headOf letter (nums.take (k+1))=headOf letter (nums.take k)++[UInt8.ofNat (nums[k] / 256),UInt8.ofNat nums[k]]:=by
 rw [List.take_succ_eq_append_getElem h,headOf,List.flatMap_append,headOf];simp
theorem headOf_len (letter:UInt8) (nums:List Nat):(headOf letter nums).length=1+2 * nums.length:=by
 induction nums with
 |nil=>rfl
 |cons n l ih=>simp only [headOf,List.flatMap_cons,List.length_cons,List.length_append,List.length_nil] at ih ⊢;omega
theorem conv_head {w:World} {base:Nat} {v:Value} {l:List UInt8} (h:w.ownsRow base 5 1 v l.length (l.map byteV)) (hl:0<l.length):
  (convert 105 9 v).run Tryz.prog w= .ok (.string ⟨l.toArray⟩) w:=by
 rcases h.2 with ⟨_,h0⟩|⟨g,cap,cur,hv,hg,hh,r⟩
 ·omega
 ·have hc:=h.cells (g:=g) (by rw [hv];rfl);rw [hv];refine run_convert_bytes_back w 105 9 5 _ cap l Tryz.underlying105 Tryz.underlying5 Tryz.underlying9 (fun j hj=>?_);exact hc j _ (by simp [hj,byteV])
theorem hash_is (key:ByteArray) (letter:UInt8) (nums:List Nat) (vN:Value) (t:ByteArray) (w:World) (hN:IntsAt w vN nums) (hl:nums.length≤2) (hk:key.size≤4611686018427387904) (ht:t.size≤4611686018427386000):
  Calls Tryz.prog 184 #[.string key,.int .u8 (letter.toNat:Int),vN,.string t] w (RHash w (hsh key letter nums t)):=by
 obtain ⟨i0,hi,hz0,hz1,hz2⟩:=info_parts Tryz.infoByte;obtain ⟨ao,cap,rfl,hc⟩:=hN.open;obtain ⟨X,hX⟩:∃X,X=hsh key letter nums t:=⟨_,rfl⟩;have HX:=Hid.mk hX;rw [←hX];clear hX;go_enter Tryz.func184,Tryz.ntmps184;go_wp2;have hown:(w.alloc (.cells #[.int .u8 (letter.toNat:Int)] 5)).ownsRow w.heap.size 5 1 (.slice (some ⟨w.heap.size,0,none⟩) 1 1) 1 [.int .u8 (letter.toNat:Int)]:=World.ownsRow_lit w #[.int .u8 (letter.toNat:Int)] 1 (Nat.le_refl _) (by decide) rfl;go_loopg [9,16] nums.length (fun r vh n wr=>∃k:Nat,r=nums.length - k∧k≤nums.length∧n= .int .i64 k∧Bel w wr∧wr.ownsRow w.heap.size 5 1 vh (headOf letter (nums.take k)).length ((headOf letter (nums.take k)).map byteV))
 case atStart=>exact ⟨0,by omega,by omega,rfl,by (repeat (first|exact Bel.refl _|assumption|refine Bel.step_alloc ?_ _|refine Bel.step_drew ?_|refine Bel.step_drewN ?_ _|refine Bel.step_set ?_ (by simp <;>omega) _|refine Bel.trans ?_ (by assumption))),hown⟩
 case round=>
  obtain ⟨k,hr,hkn,rfl,hb,hO⟩:=hrel;have HO:=Hid.mk hO;have hsz:=headOf_len letter (nums.take k);have hsz2:(headOf letter (nums.take k)).length≤5:=by rw [hsz];simp;omega
  have hsz1:0<(headOf letter (nums.take k)).length:=by rw [hsz];omega
  clear hO hown hsz;have hwr:=hb.size;by_cases hlt:k<nums.length
  ·obtain ⟨g,rfl,c0⟩:=hc k hlt;have c0':=hb.cell c0;have HS:=Hid.mk (headOf_snoc letter nums k hlt);clear hc c0;generalize nums[k]=nk at *;generalize headOf letter (nums.take k)=hd at *
   have e1:Hid (byteV (UInt8.ofNat (nk / 256))= .int .u8 ((nk:Int) / 256 % 256)):=by
    show byteV (UInt8.ofNat (nk / 256))=_;rw [byteV,u8_of,Int.natCast_ediv];rfl
   have e2:Hid (byteV (UInt8.ofNat nk)= .int .u8 ((nk:Int) % 256)):=by
    show byteV (UInt8.ofNat nk)=_;rw [byteV,u8_of]
   go_wp2_with (first|(at_builtin;refine wpList_append_own _ rfl _ _ 105 rfl w.heap.size 5 i0 (.int .u8 0) 1 1 Tryz.underlying105 hi hz0 hz1 hz2 rfl (by decide) _ hd.length (hd.map byteV) rfl ?p1 ⟨wr.heap.size,0,none⟩ 2 2 [.int .u8 ((nk:Int) / 256 % 256),.int .u8 ((nk:Int) % 256)] rfl rfl ?d1 ?d2 ?d3 ?d4 ?d5 ?_))
   case p1=>exact World.ownsRow.alloc HO.out _
   try (case d1=>exact two_new _ _ _ _ _ (by simp))
   case d2=>first|exact ⟨rfl,rfl⟩|exact two_one rfl rfl
   case d3=>unfold maxLen;omega
   case d4=>omega
   case d5=>first|omega|(simp;omega)
   intro v2 w2 hown2 hgrow2 _;have hb2:Bel w w2:=(hb.step_alloc _).grown hgrow2 (fun g hg=>(World.ownsRow.lt HO.out g hg).1)
   have H2:Hid (w2.ownsRow w.heap.size 5 1 v2 (headOf letter (nums.take (k+1))).length ((headOf letter (nums.take (k+1))).map byteV)):=by
    show w2.ownsRow _ _ _ _ _ _;rw [HS.out,List.map_append,List.length_append];simp only [List.map_cons,List.map_nil,e1.out,e2.out];exact hown2
   clear hown2 hgrow2 e1 e2;go_wp2;go_roundg (nums.length - (k+1))
   case measure=>omega
   case rel=>exact ⟨k+1,rfl,by omega,by go_num,hb2,H2.out⟩
  ·have hnn:nums.take k=nums:=List.take_of_length_le (by omega);rw [hnn] at HO hsz1 hsz2;clear hc hnn;have hcv:=conv_head HO.out hsz1
   have hsum := fun wx => sum_is key (ByteArray.mk (headOf letter nums).toArray ++ t) wx hk (by
     rw [ByteArray.size_append]
     have : (ByteArray.mk (headOf letter nums).toArray).size = (headOf letter nums).length := by simp [ByteArray.size]
     rw [this]; omega)
   rw [show sipSum key (ByteArray.mk (headOf letter nums).toArray++t)=X from HX.out.symm] at hsum
   have hds:(ByteArray.mk (headOf letter nums).toArray).size≤5:=by
    have:(ByteArray.mk (headOf letter nums).toArray).size=(headOf letter nums).length:=by simp [ByteArray.size]
    rw [this];omega
   generalize (ByteArray.mk (headOf letter nums).toArray)=hd at *;go_wp2_with fail;refine (hsum _).mono ?_;rintro e w2 ⟨rfl,hb2⟩;go_wp2;go_ret;exact ⟨rfl,hb.trans hb2⟩
end Go.Proofs.YtpapdkhjdelfcabGreat
namespace Go.Proofs.YtpapdkhjdelfcabGreat
open Go.RowKit
def placeF (B:List BK) (id:ByteArray):Int:=if atName id B<B.length then (atName id B:Int) else -1
theorem atName_first {B:List BK} {id:ByteArray} {k:Nat} (hk:k<B.length) (he:B[k].1=id) (hall:∀j (h:j<B.length),j<k→B[j].1≠id):atName id B=k:=by
 have hlt:atName id B<B.length:=atName_lt ⟨_,List.getElem_mem hk,he⟩;have hat:=atName_is hlt;by_cases h1:atName id B<k
 ·exact absurd hat (hall _ hlt h1)
 by_cases h2:k<atName id B
 ·have:=List.not_of_lt_findIdx (p:=fun b:BK=>b.1.toList==id.toList) h2;exact absurd (str_eq.2 he) (by simpa using this)
 ·omega
def RPlace (w:World) (B:List BK) (id:ByteArray) (e:Ending) (w':World):Prop:=e= .returned (.int .i64 (placeF B id))∧Bel w w'
theorem place_is (B:List BK) (v:Value) (id:ByteArray) (w:World) (hP:PoolAt w v B) (hB:B.length≤9):
  Calls Tryz.prog 40 #[v,.string id] w (RPlace w B id):=by
 obtain ⟨ao,cap,rfl,hc⟩:=hP.open;go_enter Tryz.func40,Tryz.ntmps40;go_wp2;go_loopg [9] B.length (fun r n wr=>Bel w wr∧∃k:Nat,r=B.length - k∧k≤B.length∧n= .int .i64 k∧∀j (h:j<B.length),j<k→B[j].1≠id)
 case atStart=>exact ⟨Bel.refl _,0,by omega,by omega,rfl,fun j _ h=>by omega⟩
 case round=>
  obtain ⟨hb,k,hr,hk,rfl,hall⟩:=hrel;have HA:Hid (∀j (h:j<B.length),j<k→B[j].1≠id):=hall;clear hall;by_cases hlt:k<B.length
  ·obtain ⟨g,rfl,c0,c1⟩:=hc k hlt;have c0':=hb.cell c0;have c1':=hb.cell c1;clear hc c0 c1;cases heq:B[k].1.toList==id.toList
   ·have hstep:Hid (∀j (h:j<B.length),j<k+1→B[j].1≠id):=fun j h hj=>by
     by_cases he:j=k
     ·subst he;intro e;rw [str_eq.2 e] at heq;cases heq
     ·exact HA.out j h (by omega)
    generalize B[k].1=idk at *
    generalize B[k].2=wk at *
    go_wp2
    go_roundg (B.length - (k+1))
    case measure=>omega
    case rel=>exact ⟨by (repeat (first|exact Bel.refl _|assumption|refine Bel.step_alloc ?_ _|refine Bel.step_drew ?_|refine Bel.step_drewN ?_ _|refine Bel.step_set ?_ (by simp <;>omega) _|refine Bel.trans ?_ (by assumption))),k+1,rfl,by omega,by go_num,hstep.out⟩
   ·have hfin:Hid (placeF B id=k):=by
     have:=atName_first hlt (str_eq.1 heq) HA.out;show placeF B id=k;rw [placeF,this,if_pos hlt]
    generalize B[k].1=idk at *
    generalize B[k].2=wk at *
    go_wp2
    go_ret
    exact ⟨ret_int hfin.out.symm,by (repeat (first|exact Bel.refl _|assumption|refine Bel.step_alloc ?_ _|refine Bel.step_drew ?_|refine Bel.step_drewN ?_ _|refine Bel.step_set ?_ (by simp <;>omega) _|refine Bel.trans ?_ (by assumption)))⟩
  ·have hfin:Hid (placeF B id= -1):=by
    show placeF B id= -1;rw [placeF,if_neg];intro h;exact HA.out _ h (by omega) (atName_is h)
   clear hc
   go_wp2
   go_ret
   exact ⟨ret_int hfin.out.symm,by (repeat (first|exact Bel.refl _|assumption|refine Bel.step_alloc ?_ _|refine Bel.step_drew ?_|refine Bel.step_drewN ?_ _|refine Bel.step_set ?_ (by simp <;>omega) _|refine Bel.trans ?_ (by assumption)))⟩
theorem wSum_take (B:List BK) (k:Nat) (h:k<B.length):wSum (B.take (k+1))=wSum (B.take k)+B[k].2:=by
 rw [List.take_succ_eq_append_getElem h,wSum,wSum,List.map_append,List.sum_append];simp
theorem wSum_bound (B:List BK) (h:∀b∈B,0≤b.2∧b.2≤6) (k:Nat):0≤wSum (B.take k)∧wSum (B.take k)≤6 * k:=by
 induction k with
 |zero=>simp [wSum]
 |succ k ih=>
  by_cases hk:k<B.length
  ·have:=h _ (List.getElem_mem hk);rw [wSum_take B k hk];omega
  ·rw [List.take_of_length_le (by omega)];rw [List.take_of_length_le (by omega)] at ih;omega
def RSum (w:World) (x:Int) (e:Ending) (w':World):Prop:=e= .returned (.int .i64 x)∧Bel w w'
theorem total_is (B:List BK) (v:Value) (w:World) (hP:PoolAt w v B) (hB:PoolOK B):
  Calls Tryz.prog 140 #[v] w (RSum w (wSum B)):=by
 obtain ⟨h8,hall⟩:=hB;obtain ⟨ao,cap,rfl,hc⟩:=hP.open;go_enter Tryz.func140,Tryz.ntmps140;go_wp2;go_loopg [3,8] B.length (fun r s n wr=>Bel w wr∧∃k:Nat,r=B.length - k∧k≤B.length∧n= .int .i64 k∧s= .int .i64 (wSum (B.take k)))
 case atStart=>exact ⟨Bel.refl _,0,by omega,by omega,rfl,rfl⟩
 case round=>
  obtain ⟨hb,k,hr,hk,rfl,rfl⟩:=hrel;have hbd:=wSum_bound B (fun b hb=>(hall b hb).2.2) k;have hk8:k≤8:=by omega
  by_cases hlt:k<B.length
  ·obtain ⟨g,rfl,c0,c1⟩:=hc k hlt;have c0':=hb.cell c0;have c1':=hb.cell c1;have HS:Hid (wSum (B.take (k+1))=wSum (B.take k)+B[k].2):=wSum_take B k hlt;have hw:=(hall _ (List.getElem_mem hlt)).2.2;clear hc c0 c1;generalize B[k].1=idk at *;generalize B[k].2=wk at *;generalize wSum (B.take k)=sk at *;obtain ⟨hw1,hw2⟩:=hw;obtain ⟨hb1,hb2⟩:=hbd;go_wp2;go_roundg (B.length - (k+1))
   case measure=>omega
   case rel=>exact ⟨by (repeat (first|exact Bel.refl _|assumption|refine Bel.step_alloc ?_ _|refine Bel.step_drew ?_|refine Bel.step_drewN ?_ _|refine Bel.step_set ?_ (by simp <;>omega) _|refine Bel.trans ?_ (by assumption))),k+1,rfl,by omega,by go_num,by rw [HS.out]⟩
  ·have HE:Hid (wSum (B.take k)=wSum B):=by rw [List.take_of_length_le (by omega)];rfl
   clear hc hbd;go_wp2;go_ret;exact ⟨ret_int HE.out,by (repeat (first|exact Bel.refl _|assumption|refine Bel.step_alloc ?_ _|refine Bel.step_drew ?_|refine Bel.step_drewN ?_ _|refine Bel.step_set ?_ (by simp <;>omega) _|refine Bel.trans ?_ (by assumption)))⟩
theorem ins_step {m:BK} {B L:List BK} {k:Nat} {laid:Bool} (hk:k<B.length) (h:L++(if laid then B.drop k else ins m (B.drop k))=ins m B):
  (laid=true→L++[B[k]]++B.drop (k+1)=ins m B)∧(laid=false→less m.1 B[k].1=true→L++[m]++[B[k]]++B.drop (k+1)=ins m B)∧(laid=false→less m.1 B[k].1=false→L++[B[k]]++ins m (B.drop (k+1))=ins m B):=by
 rw [List.drop_eq_getElem_cons hk] at h;refine ⟨fun e=>?_,fun e hl=>?_,fun e hl=>?_⟩
 ·subst e;rw [←h];simp
 ·subst e;rw [←h];simp [ins,hl]
 ·subst e;rw [←h];simp [ins,hl]
theorem cell_grown {w w':World} {row:Option Nat} (h:w.grownBy w' row) {a:Addr} {v:Value} (hc:w.cell? a=some v) (hr:row≠some a.block):w'.cell? a=some v:=by
 rw [World.cell?_of_block (w:=w) (h.block a.block (World.block_lt_of_cell? w a hc) (fun e=>hr e.symm))];exact hc
theorem frozen_grown {w w':World} {row:Option Nat} (h:w.grownBy w' row) {a:Addr} {v:Value} (hc:w.cell? a=some v) (hf:w.frozen? a=false) (hr:row≠some a.block):w'.frozen? a=false:=by
 rw [World.frozen?_of_block (w:=w) (h.block a.block (World.block_lt_of_cell? w a hc) (fun e=>hr e.symm))];exact hf
theorem own_set_new {w w0:World} {base:Nat} {e:TypeId} {size:Nat} {v:Value} {n:Nat} {xs:List Value} (h:w.ownsRow base e size v n xs) (hl:∀g,v.ownBlock=some g→base≤g∧g<w0.heap.size) {o:Nat} (u:Value):(w.setCell ⟨w0.heap.size,o,none⟩ u).ownsRow base e size v n xs:=by
 obtain ⟨h1,h2⟩:=h;refine ⟨h1,?_⟩;rcases h2 with h2|⟨g,cap,cur,hv,hg,hh,r⟩
 ·exact Or.inl h2
 ·have:=(hl g (by rw [hv];rfl)).2;exact Or.inr ⟨g,cap,cur,hv,hg,by rw [Below.heap_setCell _ _ _ _ (by simp;omega)];exact hh,r⟩
theorem OwnB.snoc {base:Nat} {w:World} {v:Value} {L:List BK} {b:BK} {n:Nat} (h:w.ownsRow base 75 2 v n (pcells L++[.string b.1,.int .i64 b.2])) (hn:n=L.length+1):OwnB base w v (L++[b]):=by
 unfold OwnB;rw [pcells_snoc,List.length_append];subst hn;exact h
theorem with_is (B:List BK) (v:Value) (m:BK) (w:World) (hP:PoolAt w v B) (hB:B.length≤8):
  Calls Tryz.prog 41 #[v,.agg #[.string m.1,.int .i64 m.2]] w (RPool w (ins m B)):=by
 obtain ⟨i0,hi,hz0,hz1,hz2⟩:=info_parts Tryz.infoBK;obtain ⟨mid,mw⟩:=m;simp only;obtain ⟨ao,cap,rfl,hc⟩:=hP.open;go_enter Tryz.func41,Tryz.ntmps41;go_wp2_with (first|(at_make;refine wpList_make_own _ rfl _ _ 58 rfl (w.heap.size+1) 75 i0 (.agg #[.string ByteArray.empty,.int .i64 0]) 2 Tryz.underlying58 hi hz0 hz1 _ _ _ (B.length+1) rfl rfl ?b1 ?b2 ?b3 ?b4 ?_))
 case b1=>omega
 case b2=>rw [hz2];omega
 case b3=>unfold maxLen;omega
 case b4=>simp
 intro w1 hown1 hgrow1;have hb1:Bel (w.alloc (.cells #[.string mid,.int .i64 mw] 75)) w1:=(Bel.refl _).grown hgrow1 (fun g hg=>by cases hg);have hown:OwnB (w.heap.size+1) w1 (.slice (some ⟨w.heap.size+1,0,none⟩) 0 (B.length+1)) []:=hown1;obtain ⟨wm,hwm⟩:∃wm,wm=w.alloc (.cells #[.string mid,.int .i64 mw] 75):=⟨_,rfl⟩;rw [←hwm] at hb1;have m0:wm.cell? ⟨w.heap.size,0,none⟩=some (.string mid):=by rw [hwm];simp
 have m1:wm.cell? ⟨w.heap.size,1,none⟩=some (.int .i64 mw):=by rw [hwm];simp
 have hwb:Bel w wm:=by rw [hwm];exact (Bel.refl w).step_alloc _
 have hsz:wm.heap.size=w.heap.size+1:=by rw [hwm];simp
 clear hgrow1 hown1 hwm;generalize (Value.slice (some ⟨w.heap.size+1,0,none⟩) 0 (B.length+1))=v1 at *;go_wp2;go_loopg [5,6,15] B.length (fun r vL vl n wr=>Bel wm wr∧∃(k:Nat) (laid:Bool) (L:List BK),r=B.length - k∧k≤B.length∧n= .int .i64 k∧vl= .bool laid∧OwnB (w.heap.size+1) wr vL L∧L++(if laid then B.drop k else ins (mid,mw) (B.drop k))=ins (mid,mw) B)
 case atStart=>exact ⟨hb1,0,false,[],by omega,by omega,rfl,rfl,hown,by simp⟩
 case round=>
  obtain ⟨hb,k,laid,L,hr,hk,rfl,rfl,hL,heq⟩:=hrel
  have hLl:L.length≤9:=by
   have:=congrArg List.length heq;rw [ins_len,List.length_append] at this;omega
  have hwr:=hb.size;have hwl:w.heap.size<wr.heap.size:=by omega
  have n0:=hb.cell m0;have n1:=hb.cell m1;have HO:=Hid.mk hL;clear hb1 hown hL;by_cases hlt:k<B.length
  ·obtain ⟨g,rfl,c0,c1⟩:=hc k hlt;have c0':=(hwb.trans hb).cell c0;have c1':=(hwb.trans hb).cell c1;obtain ⟨s1,s2,s3⟩:=ins_step hlt heq;have S1:Hid (laid=true→L++[B[k]]++B.drop (k+1)=ins (mid,mw) B):=s1;have S2:Hid (laid=false→less mid B[k].1=true→L++[(mid,mw)]++[B[k]]++B.drop (k+1)=ins (mid,mw) B):=s2;have S3:Hid (laid=false→less mid B[k].1=false→L++[B[k]]++ins (mid,mw) (B.drop (k+1))=ins (mid,mw) B):=s3;clear hc c0 c1 s1 s2 s3 heq;generalize B[k]=bk at *;obtain ⟨idk,wk⟩:=bk;simp only at c0' c1';cases laid
   ·cases hless:Op.bytesLess mid.toList idk.toList
    ·have HS:Hid (L++[(idk,wk)]++(if false=true then B.drop (k+1) else ins (mid,mw) (B.drop (k+1)))=ins (mid,mw) B):=S3.out rfl hless;clear S1 S2 S3;go_wp2_with (first|(at_builtin;refine wpList_append_own _ rfl _ _ 58 rfl (w.heap.size+1) 75 i0 (.agg #[.string ByteArray.empty,.int .i64 0]) 2 24 Tryz.underlying58 hi hz0 hz1 hz2 rfl (by decide) _ (L).length (pcells (L)) rfl ?p1a ⟨wr.heap.size+1,0,none⟩ 1 1 [.string idk,.int .i64 wk] rfl rfl ?da1 ?da2 ?da3 ?da4 ?da5 ?_))
     case p1a=>exact (World.ownsRow.alloc (World.ownsRow.alloc HO.out _) _)
     try (case da1=>exact two_new _ _ _ _ _ (by simp))
     case da2=>first|exact ⟨rfl,rfl⟩|exact two_one rfl rfl|(intro u hu;simp at hu;rcases hu with rfl|rfl <;>rfl)
     case da3=>(try simp only [List.length_append,List.length_cons,List.length_nil]);unfold maxLen;omega
     case da4=>(try simp only [List.length_append,List.length_cons,List.length_nil]);omega
     case da5=>first|omega|(simp;omega)
     intro v2 w2 hown2 hgrow2 _;have hb2:Bel wm w2:=((hb.step_alloc _).step_alloc _).grown hgrow2 (fun g hg=>by have:=(World.ownsRow.lt HO.out g hg).1;omega);have H2:Hid (OwnB (w.heap.size+1) w2 v2 (L++[(idk,wk)])):=OwnB.snoc (b:=(idk,wk)) hown2 rfl;clear hown2 hgrow2;go_wp2;go_roundg (B.length - (k+1))
     case measure=>omega
     case rel=>exact ⟨hb2,k+1,false,_,rfl,by omega,by go_num,rfl,H2.out,HS.out⟩
    ·have HS:Hid (L++[(mid,mw)]++[(idk,wk)]++(if true=true then B.drop (k+1) else ins (mid,mw) (B.drop (k+1)))=ins (mid,mw) B):=S2.out rfl hless;clear S1 S2 S3;go_wp2_with (first|(at_builtin;refine wpList_append_own _ rfl _ _ 58 rfl (w.heap.size+1) 75 i0 (.agg #[.string ByteArray.empty,.int .i64 0]) 2 24 Tryz.underlying58 hi hz0 hz1 hz2 rfl (by decide) _ (L).length (pcells (L)) rfl ?p1b ⟨wr.heap.size+1,0,none⟩ 1 1 [.string mid,.int .i64 mw] rfl rfl ?db1 ?db2 ?db3 ?db4 ?db5 ?_))
     case p1b=>exact (World.ownsRow.alloc (World.ownsRow.alloc HO.out _) _)
     try (case db1=>exact two_new _ _ _ _ _ (by simp))
     case db2=>first|exact ⟨rfl,rfl⟩|exact two_one rfl rfl|(intro u hu;simp at hu;rcases hu with rfl|rfl <;>rfl)
     case db3=>(try simp only [List.length_append,List.length_cons,List.length_nil]);unfold maxLen;omega
     case db4=>(try simp only [List.length_append,List.length_cons,List.length_nil]);omega
     case db5=>first|omega|(simp;omega)
     intro v2 w2 hown2 hgrow2 _;have hb2:Bel wm w2:=((hb.step_alloc _).step_alloc _).grown hgrow2 (fun g hg=>by have:=(World.ownsRow.lt HO.out g hg).1;omega);have H2:Hid (OwnB (w.heap.size+1) w2 v2 (L++[(mid,mw)])):=OwnB.snoc (b:=(mid,mw)) hown2 rfl;have x0:w2.cell? ⟨wr.heap.size,0,none⟩=some (.string idk):=cell_grown hgrow2 (by simp) (fun e=>by have:=(World.ownsRow.lt HO.out _ e).2;simp at this);have x1:w2.cell? ⟨wr.heap.size,1,none⟩=some (.int .i64 wk):=cell_grown hgrow2 (by simp) (fun e=>by have:=(World.ownsRow.lt HO.out _ e).2;simp at this);have hs2:=hb2.size;clear hown2 hgrow2;go_wp2_with (first|(at_builtin;refine wpList_append_own _ rfl _ _ 58 rfl (w.heap.size+1) 75 i0 (.agg #[.string ByteArray.empty,.int .i64 0]) 2 24 Tryz.underlying58 hi hz0 hz1 hz2 rfl (by decide) _ (L++[(mid,mw)]).length (pcells (L++[(mid,mw)])) rfl ?p1c ⟨w2.heap.size,0,none⟩ 1 1 [.string idk,.int .i64 wk] rfl rfl ?dc1 ?dc2 ?dc3 ?dc4 ?dc5 ?_))
     case p1c=>exact (World.ownsRow.alloc H2.out _)
     try (case dc1=>exact two_new _ _ _ _ _ (by simp))
     case dc2=>first|exact ⟨rfl,rfl⟩|exact two_one rfl rfl|(intro u hu;simp at hu;rcases hu with rfl|rfl <;>rfl)
     case dc3=>(try simp only [List.length_append,List.length_cons,List.length_nil]);unfold maxLen;omega
     case dc4=>(try simp only [List.length_append,List.length_cons,List.length_nil]);omega
     case dc5=>first|omega|(simp;omega)
     intro v3 w3 hown3 hgrow3 _;have hb3:Bel wm w3:=(hb2.step_alloc _).grown hgrow3 (fun g hg=>by have:=(World.ownsRow.lt H2.out g hg).1;omega);have H3:Hid (OwnB (w.heap.size+1) w3 v3 (L++[(mid,mw)]++[(idk,wk)])):=OwnB.snoc (b:=(idk,wk)) hown3 (by simp);clear hown3 hgrow3;go_wp2;go_roundg (B.length - (k+1))
     case measure=>omega
     case rel=>exact ⟨hb3,k+1,true,_,rfl,by omega,by go_num,rfl,H3.out,HS.out⟩
   ·have HS:Hid (L++[(idk,wk)]++(if true=true then B.drop (k+1) else ins (mid,mw) (B.drop (k+1)))=ins (mid,mw) B):=S1.out rfl;clear S1 S2 S3;go_wp2_with (first|(at_builtin;refine wpList_append_own _ rfl _ _ 58 rfl (w.heap.size+1) 75 i0 (.agg #[.string ByteArray.empty,.int .i64 0]) 2 24 Tryz.underlying58 hi hz0 hz1 hz2 rfl (by decide) _ (L).length (pcells (L)) rfl ?p1e ⟨wr.heap.size+1,0,none⟩ 1 1 [.string idk,.int .i64 wk] rfl rfl ?de1 ?de2 ?de3 ?de4 ?de5 ?_))
    case p1e=>exact (World.ownsRow.alloc (World.ownsRow.alloc HO.out _) _)
    try (case de1=>exact two_new _ _ _ _ _ (by simp))
    case de2=>first|exact ⟨rfl,rfl⟩|exact two_one rfl rfl|(intro u hu;simp at hu;rcases hu with rfl|rfl <;>rfl)
    case de3=>(try simp only [List.length_append,List.length_cons,List.length_nil]);unfold maxLen;omega
    case de4=>(try simp only [List.length_append,List.length_cons,List.length_nil]);omega
    case de5=>first|omega|(simp;omega)
    intro v2 w2 hown2 hgrow2 _;have hb2:Bel wm w2:=((hb.step_alloc _).step_alloc _).grown hgrow2 (fun g hg=>by have:=(World.ownsRow.lt HO.out g hg).1;omega);have H2:Hid (OwnB (w.heap.size+1) w2 v2 (L++[(idk,wk)])):=OwnB.snoc (b:=(idk,wk)) hown2 rfl;clear hown2 hgrow2;go_wp2;go_roundg (B.length - (k+1))
    case measure=>omega
    case rel=>exact ⟨hb2,k+1,true,_,rfl,by omega,by go_num,rfl,H2.out,HS.out⟩
  ·have hd:B.drop k=[]:=List.drop_eq_nil_of_le (by omega);rw [hd] at heq;have HE:Hid (L++(if laid then [] else [(mid,mw)])=ins (mid,mw) B):=by unfold Hid;cases laid <;>simpa [ins] using heq
   clear hc heq hd;cases laid
   ·go_wp2_with (first|(at_builtin;refine wpList_append_own _ rfl _ _ 58 rfl (w.heap.size+1) 75 i0 (.agg #[.string ByteArray.empty,.int .i64 0]) 2 24 Tryz.underlying58 hi hz0 hz1 hz2 rfl (by decide) _ (L).length (pcells (L)) rfl ?p1f ⟨wr.heap.size,0,none⟩ 1 1 [.string mid,.int .i64 mw] rfl rfl ?df1 ?df2 ?df3 ?df4 ?df5 ?_))
    case p1f=>exact (World.ownsRow.alloc HO.out _)
    try (case df1=>exact two_new _ _ _ _ _ (by simp))
    case df2=>first|exact ⟨rfl,rfl⟩|exact two_one rfl rfl|(intro u hu;simp at hu;rcases hu with rfl|rfl <;>rfl)
    case df3=>(try simp only [List.length_append,List.length_cons,List.length_nil]);unfold maxLen;omega
    case df4=>(try simp only [List.length_append,List.length_cons,List.length_nil]);omega
    case df5=>first|omega|(simp;omega)
    intro v2 w2 hown2 hgrow2 _;have hb2:Bel wm w2:=(hb.step_alloc _).grown hgrow2 (fun g hg=>by have:=(World.ownsRow.lt HO.out g hg).1;omega);have H2:Hid (OwnB (w.heap.size+1) w2 v2 (L++[(mid,mw)])):=OwnB.snoc (b:=(mid,mw)) hown2 rfl;clear hown2 hgrow2;go_wp2;go_ret;exact ⟨_,rfl,hwb.trans hb2,by have:=H2.out;rw [show L++[(mid,mw)]=ins (mid,mw) B from HE.out] at this;exact this.mono (by omega)⟩
   ·go_wp2;go_ret;exact ⟨_,rfl,hwb.trans hb,by have:=HO.out;rw [show L=ins (mid,mw) B from by simpa using HE.out] at this;exact this.mono (by omega)⟩
theorem erase_step (B:List BK) (p k:Nat) (hk:k<B.length):(B.take (k+1)).eraseIdx p=if k=p then (B.take k).eraseIdx p else (B.take k).eraseIdx p++[B[k]]:=by
 rw [List.take_succ_eq_append_getElem hk,List.eraseIdx_append];have hl:(B.take k).length=k:=by simp;omega
 rw [hl];by_cases h1:p<k
 ·rw [if_pos h1,if_neg (by omega)]
 ·rw [if_neg h1];have he:(B.take k).eraseIdx p=B.take k:=List.eraseIdx_of_length_le (by omega);rw [he];by_cases h2:k=p
  ·subst h2;simp
  ·rw [if_neg h2];obtain ⟨d,hd⟩:∃d,p - k=d+1:=⟨p - k - 1,by omega⟩;rw [hd];simp
theorem without_is (B:List BK) (v:Value) (p:Nat) (w:World) (hP:PoolAt w v B) (hB:B.length≤8) (hp:p<B.length):
  Calls Tryz.prog 161 #[v,.int .i64 p] w (RPool w (B.eraseIdx p)):=by
 obtain ⟨i0,hi,hz0,hz1,hz2⟩:=info_parts Tryz.infoBK;obtain ⟨ao,cap,rfl,hc⟩:=hP.open;go_enter Tryz.func161,Tryz.ntmps161;go_wp2_with (first|(at_make;refine wpList_make_own _ rfl _ _ 58 rfl w.heap.size 75 i0 (.agg #[.string ByteArray.empty,.int .i64 0]) 2 Tryz.underlying58 hi hz0 hz1 _ _ _ B.length rfl rfl ?b1 ?b2 ?b3 ?b4 ?_))
 case b1=>rfl
 case b2=>rw [hz2];omega
 case b3=>unfold maxLen;omega
 case b4=>exact Nat.le_refl _
 intro w1 hown1 hgrow1;have hb1:Bel w w1:=(Bel.refl _).grown hgrow1 (fun g hg=>by cases hg);have hown:OwnB w.heap.size w1 (.slice (some ⟨w.heap.size,0,none⟩) 0 B.length) []:=hown1;clear hgrow1 hown1;generalize (Value.slice (some ⟨w.heap.size,0,none⟩) 0 B.length)=v1 at *;go_wp2;go_loopg [5,13] B.length (fun r vL n wr=>Bel w wr∧∃(k:Nat),r=B.length - k∧k≤B.length∧n= .int .i64 k∧OwnB w.heap.size wr vL ((B.take k).eraseIdx p))
 case atStart=>exact ⟨hb1,0,by omega,by omega,rfl,by simpa using hown⟩
 case round=>
  obtain ⟨hb,k,hr,hk,rfl,hL⟩:=hrel;have hwr:=hb.size;have hLl:((B.take k).eraseIdx p).length≤8:=Nat.le_trans (List.length_eraseIdx_le _ _) (by simp;omega);have HO:=Hid.mk hL;clear hb1 hown hL;by_cases hlt:k<B.length
  ·obtain ⟨g,rfl,c0,c1⟩:=hc k hlt;have c0':=hb.cell c0;have c1':=hb.cell c1;have HS:Hid ((B.take (k+1)).eraseIdx p=if k=p then (B.take k).eraseIdx p else (B.take k).eraseIdx p++[B[k]]):=erase_step B p k hlt;clear hc c0 c1;generalize B[k]=bk at *;obtain ⟨idk,wk⟩:=bk;simp only at c0' c1';generalize (B.take k).eraseIdx p=L at *;by_cases hkp:k=p
   ·subst hkp;rw [if_pos rfl] at HS;go_wp2;go_roundg (B.length - (k+1))
    case measure=>omega
    case rel=>exact ⟨by (repeat (first|exact Bel.refl _|assumption|refine Bel.step_alloc ?_ _|refine Bel.step_drew ?_|refine Bel.step_drewN ?_ _|refine Bel.step_set ?_ (by simp <;>omega) _|refine Bel.trans ?_ (by assumption))),k+1,rfl,by omega,by go_num,by rw [HS.out];exact World.ownsRow.alloc HO.out _⟩
   ·have hkb:((k:Int) !=(p:Int))=true:=by rw [bne_iff_ne];omega
    rw [if_neg hkp] at HS;go_wp2_with (first|(at_builtin;refine wpList_append_own _ rfl _ _ 58 rfl w.heap.size 75 i0 (.agg #[.string ByteArray.empty,.int .i64 0]) 2 24 Tryz.underlying58 hi hz0 hz1 hz2 rfl (by decide) _ (L).length (pcells (L)) rfl ?p1a ⟨wr.heap.size+1,0,none⟩ 1 1 [.string idk,.int .i64 wk] rfl rfl ?da1 ?da2 ?da3 ?da4 ?da5 ?_))
    case p1a=>exact (World.ownsRow.alloc (World.ownsRow.alloc HO.out _) _)
    try (case da1=>exact two_new _ _ _ _ _ (by simp))
    case da2=>first|exact ⟨rfl,rfl⟩|exact two_one rfl rfl|(intro u hu;simp at hu;rcases hu with rfl|rfl <;>rfl)
    case da3=>(try simp only [List.length_append,List.length_cons,List.length_nil]);unfold maxLen;omega
    case da4=>(try simp only [List.length_append,List.length_cons,List.length_nil]);omega
    case da5=>first|omega|(simp;omega)
    intro v2 w2 hown2 hgrow2 _;have hb2:Bel w w2:=((hb.step_alloc _).step_alloc _).grown hgrow2 (fun g hg=>by have:=(World.ownsRow.lt HO.out g hg).1;omega);have H2:Hid (OwnB w.heap.size w2 v2 (L++[(idk,wk)])):=OwnB.snoc (b:=(idk,wk)) hown2 rfl;clear hown2 hgrow2;go_wp2;go_roundg (B.length - (k+1))
    case measure=>omega
    case rel=>exact ⟨hb2,k+1,rfl,by omega,by go_num,by rw [HS.out];exact H2.out⟩
  ·have HE:Hid ((B.take k).eraseIdx p=B.eraseIdx p):=by rw [List.take_of_length_le (by omega)];rfl
   clear hc;go_wp2;go_ret;exact ⟨_,rfl,hb,by rw [←HE.out];exact HO.out⟩
theorem weighed_is (B:List BK) (v:Value) (p:Nat) (x:Int) (w:World) (hP:PoolAt w v B) (hB:B.length≤8) (hp:p<B.length):
  Calls Tryz.prog 162 #[v,.int .i64 p,.int .i64 x] w (RPool w (B.set p (B[p].1,x))):=by
 obtain ⟨i0,hi,hz0,hz1,hz2⟩:=info_parts Tryz.infoBK;obtain ⟨ao,cap,rfl,hc⟩:=hP.open;obtain ⟨C,hC⟩:∃C,C=B.set p (B[p].1,x):=⟨_,rfl⟩;have hCl:C.length=B.length:=by rw [hC];simp
 have hCk:∀j (h:j<B.length),C[j]'(by omega)=if j=p then (B[j].1,x) else B[j]:=by
  intro j h;subst hC;rw [List.getElem_set];by_cases hj:p=j
  ·subst hj;simp
  ·rw [if_neg hj,if_neg (fun e=>hj e.symm)]
 rw [←hC];clear hC;go_enter Tryz.func162,Tryz.ntmps162;go_wp2_with (first|(at_make;refine wpList_make_own _ rfl _ _ 58 rfl w.heap.size 75 i0 (.agg #[.string ByteArray.empty,.int .i64 0]) 2 Tryz.underlying58 hi hz0 hz1 _ _ _ B.length rfl rfl ?b1 ?b2 ?b3 ?b4 ?_))
 case b1=>rfl
 case b2=>rw [hz2];omega
 case b3=>unfold maxLen;omega
 case b4=>exact Nat.le_refl _
 intro w1 hown1 hgrow1;have hb1:Bel w w1:=(Bel.refl _).grown hgrow1 (fun g hg=>by cases hg);have hown:OwnB w.heap.size w1 (.slice (some ⟨w.heap.size,0,none⟩) 0 B.length) []:=hown1;clear hgrow1 hown1;generalize (Value.slice (some ⟨w.heap.size,0,none⟩) 0 B.length)=v1 at *;go_wp2;go_loopg [7,15] B.length (fun r vL n wr=>Bel w wr∧∃(k:Nat),r=B.length - k∧k≤B.length∧n= .int .i64 k∧OwnB w.heap.size wr vL (C.take k))
 case atStart=>exact ⟨hb1,0,by omega,by omega,rfl,by simpa using hown⟩
 case round=>
  obtain ⟨hb,k,hr,hk,rfl,hL⟩:=hrel;have hwr:=hb.size;have hLl:(C.take k).length≤8:=by simp;omega
  have HO:=Hid.mk hL;clear hb1 hown hL;by_cases hlt:k<B.length
  ·obtain ⟨g,rfl,c0,c1⟩:=hc k hlt;have c0':=hb.cell c0;have c1':=hb.cell c1;have HS:Hid (C.take (k+1)=C.take k++[if k=p then (B[k].1,x) else B[k]]):=by rw [←hCk k hlt];exact List.take_succ_eq_append_getElem (by omega)
   clear hc c0 c1 hCk;generalize B[k]=bk at *;obtain ⟨idk,wk⟩:=bk;simp only at c0' c1';generalize C.take k=L at *;by_cases hkp:k=p
   ·subst hkp;rw [if_pos rfl] at HS;go_wp2_with (first|(at_builtin;refine wpList_append_own _ rfl _ _ 58 rfl w.heap.size 75 i0 (.agg #[.string ByteArray.empty,.int .i64 0]) 2 24 Tryz.underlying58 hi hz0 hz1 hz2 rfl (by decide) _ (L).length (pcells (L)) rfl ?p1a ⟨wr.heap.size+1,0,none⟩ 1 1 [.string idk,.int .i64 x] rfl rfl ?da1 ?da2 ?da3 ?da4 ?da5 ?_))
    case p1a=>exact (World.ownsRow.alloc (World.ownsRow.alloc HO.out _) _)
    try (case da1=>exact two_new _ _ _ _ _ (by simp))
    case da2=>first|exact ⟨rfl,rfl⟩|exact two_one rfl rfl|(intro u hu;simp at hu;rcases hu with rfl|rfl <;>rfl)
    case da3=>(try simp only [List.length_append,List.length_cons,List.length_nil]);unfold maxLen;omega
    case da4=>(try simp only [List.length_append,List.length_cons,List.length_nil]);omega
    case da5=>first|omega|(simp;omega)
    intro v2 w2 hown2 hgrow2 _;have hb2:Bel w w2:=((hb.step_alloc _).step_alloc _).grown hgrow2 (fun g hg=>by have:=(World.ownsRow.lt HO.out g hg).1;omega);have H2:Hid (OwnB w.heap.size w2 v2 (L++[(idk,x)])):=OwnB.snoc (b:=(idk,x)) hown2 rfl;clear hown2 hgrow2;go_wp2;go_roundg (B.length - (k+1))
    case measure=>omega
    case rel=>exact ⟨hb2,k+1,rfl,by omega,by go_num,by rw [HS.out];exact H2.out⟩
   ·have hkb:((k:Int)==(p:Int))=false:=by rw [beq_eq_false_iff_ne];omega
    rw [if_neg hkp] at HS;go_wp2_with (first|(at_builtin;refine wpList_append_own _ rfl _ _ 58 rfl w.heap.size 75 i0 (.agg #[.string ByteArray.empty,.int .i64 0]) 2 24 Tryz.underlying58 hi hz0 hz1 hz2 rfl (by decide) _ (L).length (pcells (L)) rfl ?p1b ⟨wr.heap.size+1,0,none⟩ 1 1 [.string idk,.int .i64 wk] rfl rfl ?db1 ?db2 ?db3 ?db4 ?db5 ?_))
    case p1b=>exact (World.ownsRow.alloc (World.ownsRow.alloc HO.out _) _)
    try (case db1=>exact two_new _ _ _ _ _ (by simp))
    case db2=>first|exact ⟨rfl,rfl⟩|exact two_one rfl rfl|(intro u hu;simp at hu;rcases hu with rfl|rfl <;>rfl)
    case db3=>(try simp only [List.length_append,List.length_cons,List.length_nil]);unfold maxLen;omega
    case db4=>(try simp only [List.length_append,List.length_cons,List.length_nil]);omega
    case db5=>first|omega|(simp;omega)
    intro v2 w2 hown2 hgrow2 _;have hb2:Bel w w2:=((hb.step_alloc _).step_alloc _).grown hgrow2 (fun g hg=>by have:=(World.ownsRow.lt HO.out g hg).1;omega);have H2:Hid (OwnB w.heap.size w2 v2 (L++[(idk,wk)])):=OwnB.snoc (b:=(idk,wk)) hown2 rfl;clear hown2 hgrow2;go_wp2;go_roundg (B.length - (k+1))
    case measure=>omega
    case rel=>exact ⟨hb2,k+1,rfl,by omega,by go_num,by rw [HS.out];exact H2.out⟩
  ·have HE:Hid (C.take k=C):=List.take_of_length_le (by omega);clear hc;go_wp2;go_ret;exact ⟨_,rfl,hb,by rw [←HE.out];exact HO.out⟩
end Go.Proofs.YtpapdkhjdelfcabGreat
