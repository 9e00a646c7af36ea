import Derived.Test.YtpapdkhjdelfcabGreatHBJ
import Derived.Test.YtpapdkhjdelfcabGreatHAZ
set_option maxRecDepth 100000
set_option maxHeartbeats 4000000
namespace Go.Proofs.YtpapdkhjdelfcabGreat
open Go.RowKit
theorem lawPool_lenT (id:ByteArray) (n:Int) (B:List BK):(lawPool id n true B).length≤B.length:=by
 induction B with
 |nil=>simp [lawPool]
 |cons b B ih=>
  simp only [lawPool];rw [if_neg (by simp),ite_self];simp only [List.nil_append,List.length_append,List.length_cons];split
  ·simp;omega
  ·simp;omega
theorem lawPool_len (id:ByteArray) (n:Int) (put:Bool) (B:List BK):(lawPool id n put B).length≤B.length+1:=by
 cases put
 ·induction B with
  |nil=>simp [lawPool]
  |cons b B ih=>
   simp only [lawPool];have hT:=lawPool_lenT id n B;cases less b.1 id
   ·simp only [and_self,if_true,List.length_append,List.length_cons,List.length_nil];split <;>simp <;>omega
   ·simp only [Bool.true_eq_false,and_false,if_false,List.nil_append,List.length_append,List.length_cons];split <;>simp <;>omega
 ·have:=lawPool_lenT id n B;omega
theorem pool_is (B:List BK) (v:Value) (id:ByteArray) (n:Int) (w:World) (hP:PoolAt w v B) (hB:B.length≤8):
  Calls Tryz.prog 131 #[v,.string id,.int .i64 n] w (RPool w (lawPool id n (decide (n<0)) B)):=by
 obtain ⟨i0,hi,hz0,hz1,hz2⟩:=info_parts Tryz.infoBK;obtain ⟨ao,cap,rfl,hc⟩:=hP.open;obtain ⟨X,hX⟩:∃X,X=lawPool id n (decide (n<0)) B:=⟨_,rfl⟩;rw [←hX];have hXl:X.length≤9:=by have:=lawPool_len id n (decide (n<0)) B;rw [←hX] at this;omega
 go_enter Tryz.func131,Tryz.ntmps131;go_wp2;go_loopg [7,8,9] (B.length+1) (fun r vL vp ni wr=>Bel w wr∧∃(k:Nat) (put:Bool) (L:List BK),r=B.length+1 - k∧k≤B.length+1∧ni= .int .i64 k∧vp= .bool put∧OwnB w.heap.size wr vL L∧((k≤B.length∧L++lawPool id n put (B.drop k)=X)∨(k=B.length+1∧L=X)))
 case atStart=>exact ⟨Bel.refl _,0,_,[],by omega,by omega,rfl,rfl,World.ownsRow_nil _ _ _ _,Or.inl ⟨by omega,by simpa using hX.symm⟩⟩
 case round=>
  obtain ⟨hb,k,put,L,hr,hk,rfl,rfl,hL,hor⟩:=hrel;have HO:=Hid.mk hL;have hwr:=hb.size;clear hL hX;rcases hor with ⟨hkl,heq⟩|⟨hkl,heq⟩
  ·have hLl:L.length≤9:=by
    have:=congrArg List.length heq;rw [List.length_append] at this;omega
   have hle:decide ((k:Int)≤(B.length:Int))=true:=decide_eq_true (by omega)
   by_cases hlt:k<B.length
   ·obtain ⟨g,rfl,c0,c1⟩:=hc k hlt
    have c0':=hb.cell c0
    have c1':=hb.cell c1
    rw [List.drop_eq_getElem_cons hlt] at heq
    simp only [lawPool] at heq
    have HEq:=Hid.mk heq
    have hkne:((k:Int)==(B.length:Int))=false:=by rw [beq_eq_false_iff_ne];omega
    have hkl2:decide ((k:Int)<(B.length:Int))=true:=decide_eq_true (by omega)
    have HLs:Hid (less B[k].1 id=Op.bytesLess B[k].1.toList id.toList):=rfl
    have HEI:Hid (((B[k].1.toList==id.toList)=true)↔B[k].1=id):=str_eq
    clear hc heq
    generalize B[k]=bk at *
    obtain ⟨idk,wk⟩:=bk
    simp only at c0 c1 c0' c1' HEq HLs HEI
    rw [HLs.out] at HEq
    clear HLs
    generalize hless:Op.bytesLess idk.toList id.toList=ls at *
    generalize heqq:(idk.toList==id.toList)=eqb at *
    have HEB:Hid ((if idk≠id then [(idk,wk)] else [])=(if eqb then [] else [(idk,wk)])):=by
     show _=_;cases eqb
     ·have:idk≠id:=fun e=>by have:=HEI.out.2 e;cases this
      simp [this]
     ·have:idk=id:=HEI.out.1 rfl;simp [this]
    rw [HEB.out] at HEq
    clear HEB HEI
    have hLl2:L.length≤7∨L.length≤9:=Or.inr hLl
    clear hLl2
    cases put
    ·cases ls
     ·cases eqb
      ·go_wp2_with (first|(at_builtin;refine wpList_append_own _ rfl _ _ 58 rfl w.heap.size 75 i0 (.agg #[.string ByteArray.empty,.int .i64 0]) 2 24 Tryz.underlying58 hi hz0 hz1 hz2 rfl (by decide) _ (L).length (pcells (L)) rfl ?p1b ⟨wr.heap.size,0,none⟩ 1 1 [.string id,.int .i64 n] rfl rfl ?db1 ?db2 ?db3 ?db4 ?db5 ?_))
       case p1b=>exact World.ownsRow.alloc HO.out _
       try (case db1=>exact two_new _ _ _ _ _ (by simp))
       case db2=>first|exact ⟨rfl,rfl⟩|exact two_one rfl rfl|(intro u hu;simp at hu;rcases hu with rfl|rfl <;>rfl)
       case db3=>(try simp only [List.length_append,List.length_cons,List.length_nil]);unfold maxLen;omega
       case db4=>(try simp only [List.length_append,List.length_cons,List.length_nil]);omega
       case db5=>first|omega|(simp;omega)
       intro v2 w2 hown2 hgrow2 _
       have hb2:Bel w w2:=(hb.step_alloc _).grown hgrow2 (fun g hg=>(World.ownsRow.lt HO.out g hg).1)
       have H2:=Hid.mk (OwnB.snoc (b:=(id,n)) hown2 (by simp))
       have hs2:=hb2.size
       clear hown2 hgrow2
       have x0:=hb2.cell c0
       have x1:=hb2.cell c1
       go_wp2_with (first|(at_builtin;refine wpList_append_own _ rfl _ _ 58 rfl w.heap.size 75 i0 (.agg #[.string ByteArray.empty,.int .i64 0]) 2 24 Tryz.underlying58 hi hz0 hz1 hz2 rfl (by decide) _ (L++[(id,n)]).length (pcells (L++[(id,n)])) rfl ?p1c ⟨w2.heap.size,0,none⟩ 1 1 [.string idk,.int .i64 wk] rfl rfl ?dc1 ?dc2 ?dc3 ?dc4 ?dc5 ?_))
       case p1c=>exact World.ownsRow.alloc H2.out _
       try (case dc1=>exact two_new _ _ _ _ _ (by simp))
       case dc2=>first|exact ⟨rfl,rfl⟩|exact two_one rfl rfl|(intro u hu;simp at hu;rcases hu with rfl|rfl <;>rfl)
       case dc3=>(try simp only [List.length_append,List.length_cons,List.length_nil]);unfold maxLen;omega
       case dc4=>(try simp only [List.length_append,List.length_cons,List.length_nil]);omega
       case dc5=>first|omega|(simp;omega)
       intro v3 w3 hown3 hgrow3 _
       have hb3:Bel w w3:=(hb2.step_alloc _).grown hgrow3 (fun g hg=>(World.ownsRow.lt H2.out g hg).1)
       have H3:=Hid.mk (OwnB.snoc (b:=(idk,wk)) hown3 (by simp))
       have hs3:=hb3.size
       clear hown3 hgrow3
       go_wp2
       go_roundg (B.length+1 - (k+1))
       case measure=>omega
       case rel=>exact ⟨hb3,k+1,true,_,rfl,by omega,by go_num,rfl,H3.out,Or.inl ⟨by omega,by have:=HEq.out;simpa using this⟩⟩
      ·go_wp2_with (first|(at_builtin;refine wpList_append_own _ rfl _ _ 58 rfl w.heap.size 75 i0 (.agg #[.string ByteArray.empty,.int .i64 0]) 2 24 Tryz.underlying58 hi hz0 hz1 hz2 rfl (by decide) _ (L).length (pcells (L)) rfl ?p1d ⟨wr.heap.size,0,none⟩ 1 1 [.string id,.int .i64 n] rfl rfl ?dd1 ?dd2 ?dd3 ?dd4 ?dd5 ?_))
       case p1d=>exact World.ownsRow.alloc HO.out _
       try (case dd1=>exact two_new _ _ _ _ _ (by simp))
       case dd2=>first|exact ⟨rfl,rfl⟩|exact two_one rfl rfl|(intro u hu;simp at hu;rcases hu with rfl|rfl <;>rfl)
       case dd3=>(try simp only [List.length_append,List.length_cons,List.length_nil]);unfold maxLen;omega
       case dd4=>(try simp only [List.length_append,List.length_cons,List.length_nil]);omega
       case dd5=>first|omega|(simp;omega)
       intro v2 w2 hown2 hgrow2 _
       have hb2:Bel w w2:=(hb.step_alloc _).grown hgrow2 (fun g hg=>(World.ownsRow.lt HO.out g hg).1)
       have H2:=Hid.mk (OwnB.snoc (b:=(id,n)) hown2 (by simp))
       have hs2:=hb2.size
       clear hown2 hgrow2
       have x0:=hb2.cell c0
       have x1:=hb2.cell c1
       go_wp2
       go_roundg (B.length+1 - (k+1))
       case measure=>omega
       case rel=>exact ⟨hb2,k+1,true,_,rfl,by omega,by go_num,rfl,H2.out,Or.inl ⟨by omega,by have:=HEq.out;simpa using this⟩⟩
     ·cases eqb
      ·go_wp2_with (first|(at_builtin;refine wpList_append_own _ rfl _ _ 58 rfl w.heap.size 75 i0 (.agg #[.string ByteArray.empty,.int .i64 0]) 2 24 Tryz.underlying58 hi hz0 hz1 hz2 rfl (by decide) _ (L).length (pcells (L)) rfl ?p1e ⟨wr.heap.size,0,none⟩ 1 1 [.string idk,.int .i64 wk] rfl rfl ?de1 ?de2 ?de3 ?de4 ?de5 ?_))
       case p1e=>exact World.ownsRow.alloc HO.out _
       try (case de1=>exact two_new _ _ _ _ _ (by simp))
       case de2=>first|exact ⟨rfl,rfl⟩|exact two_one rfl rfl|(intro u hu;simp at hu;rcases hu with rfl|rfl <;>rfl)
       case de3=>(try simp only [List.length_append,List.length_cons,List.length_nil]);unfold maxLen;omega
       case de4=>(try simp only [List.length_append,List.length_cons,List.length_nil]);omega
       case de5=>first|omega|(simp;omega)
       intro v2 w2 hown2 hgrow2 _
       have hb2:Bel w w2:=(hb.step_alloc _).grown hgrow2 (fun g hg=>(World.ownsRow.lt HO.out g hg).1)
       have H2:=Hid.mk (OwnB.snoc (b:=(idk,wk)) hown2 (by simp))
       have hs2:=hb2.size
       clear hown2 hgrow2
       go_wp2
       go_roundg (B.length+1 - (k+1))
       case measure=>omega
       case rel=>exact ⟨hb2,k+1,false,_,rfl,by omega,by go_num,rfl,H2.out,Or.inl ⟨by omega,by have:=HEq.out;simpa using this⟩⟩
      ·go_wp2
       go_roundg (B.length+1 - (k+1))
       case measure=>omega
       case rel=>exact ⟨hb,k+1,false,_,rfl,by omega,by go_num,rfl,HO.out,Or.inl ⟨by omega,by have:=HEq.out;simpa using this⟩⟩
    ·cases eqb
     ·go_wp2_with (first|(at_builtin;refine wpList_append_own _ rfl _ _ 58 rfl w.heap.size 75 i0 (.agg #[.string ByteArray.empty,.int .i64 0]) 2 24 Tryz.underlying58 hi hz0 hz1 hz2 rfl (by decide) _ (L).length (pcells (L)) rfl ?p1f ⟨wr.heap.size,0,none⟩ 1 1 [.string idk,.int .i64 wk] rfl rfl ?df1 ?df2 ?df3 ?df4 ?df5 ?_))
      case p1f=>exact World.ownsRow.alloc HO.out _
      try (case df1=>exact two_new _ _ _ _ _ (by simp))
      case df2=>first|exact ⟨rfl,rfl⟩|exact two_one rfl rfl|(intro u hu;simp at hu;rcases hu with rfl|rfl <;>rfl)
      case df3=>(try simp only [List.length_append,List.length_cons,List.length_nil]);unfold maxLen;omega
      case df4=>(try simp only [List.length_append,List.length_cons,List.length_nil]);omega
      case df5=>first|omega|(simp;omega)
      intro v2 w2 hown2 hgrow2 _
      have hb2:Bel w w2:=(hb.step_alloc _).grown hgrow2 (fun g hg=>(World.ownsRow.lt HO.out g hg).1)
      have H2:=Hid.mk (OwnB.snoc (b:=(idk,wk)) hown2 (by simp))
      have hs2:=hb2.size
      clear hown2 hgrow2
      go_wp2
      go_roundg (B.length+1 - (k+1))
      case measure=>omega
      case rel=>exact ⟨hb2,k+1,true,_,rfl,by omega,by go_num,rfl,H2.out,Or.inl ⟨by omega,by have:=HEq.out;simpa using this⟩⟩
     ·go_wp2
      go_roundg (B.length+1 - (k+1))
      case measure=>omega
      case rel=>exact ⟨hb,k+1,true,_,rfl,by omega,by go_num,rfl,HO.out,Or.inl ⟨by omega,by have:=HEq.out;simpa using this⟩⟩
   ·obtain rfl:k=B.length:=by omega
    have hkl2:decide ((B.length:Int)<(B.length:Int))=false:=decide_eq_false (by omega)
    rw [List.drop_length] at heq
    have HEq:=Hid.mk heq
    clear hc heq
    cases put
    ·go_wp2_with (first|(at_builtin;refine wpList_append_own _ rfl _ _ 58 rfl w.heap.size 75 i0 (.agg #[.string ByteArray.empty,.int .i64 0]) 2 24 Tryz.underlying58 hi hz0 hz1 hz2 rfl (by decide) _ (L).length (pcells (L)) rfl ?p1g ⟨wr.heap.size,0,none⟩ 1 1 [.string id,.int .i64 n] rfl rfl ?dg1 ?dg2 ?dg3 ?dg4 ?dg5 ?_))
     case p1g=>exact World.ownsRow.alloc HO.out _
     try (case dg1=>exact two_new _ _ _ _ _ (by simp))
     case dg2=>first|exact ⟨rfl,rfl⟩|exact two_one rfl rfl|(intro u hu;simp at hu;rcases hu with rfl|rfl <;>rfl)
     case dg3=>(try simp only [List.length_append,List.length_cons,List.length_nil]);unfold maxLen;omega
     case dg4=>(try simp only [List.length_append,List.length_cons,List.length_nil]);omega
     case dg5=>first|omega|(simp;omega)
     intro v2 w2 hown2 hgrow2 _
     have hb2:Bel w w2:=(hb.step_alloc _).grown hgrow2 (fun g hg=>(World.ownsRow.lt HO.out g hg).1)
     have H2:=Hid.mk (OwnB.snoc (b:=(id,n)) hown2 (by simp))
     have hs2:=hb2.size
     clear hown2 hgrow2
     go_wp2
     go_roundg 0
     case measure=>omega
     case rel=>exact ⟨hb2,B.length+1,true,_,by omega,by omega,by go_num,rfl,H2.out,Or.inr ⟨rfl,by have:=HEq.out;simpa [lawPool] using this⟩⟩
    ·go_wp2
     go_roundg 0
     case measure=>omega
     case rel=>exact ⟨hb,B.length+1,true,_,by omega,by omega,by go_num,rfl,HO.out,Or.inr ⟨rfl,by have:=HEq.out;simpa [lawPool] using this⟩⟩
  ·have hle:decide ((k:Int)≤(B.length:Int))=false:=decide_eq_false (by omega);have HEq:=Hid.mk heq;clear hc heq;go_wp2;go_ret;exact ⟨_,rfl,hb,by rw [←HEq.out];exact HO.out⟩
end Go.Proofs.YtpapdkhjdelfcabGreat
namespace Go.Proofs.YtpapdkhjdelfcabGreat
open Go.RowKit
theorem valB_zeros (L:List Bool) (k:Nat):valB (L++List.replicate k false)=valB L * 2 ^ k:=by
 induction k with
 |zero=>simp
 |succ k ih=>
  rw [List.replicate_succ',←List.append_assoc,valB_snoc,ih,Nat.pow_succ];simp only [Bool.toNat_false,Nat.add_zero];rw [Nat.mul_comm 2,Nat.mul_assoc]
theorem pack_bits:∀(n:Nat) (L:List Bool),L.length≤n→∃z,z<8∧bytesBits (packB L)=L++List.replicate z false
 |0,L,h=>by
  rw [List.eq_nil_of_length_eq_zero (by omega:L.length=0)];exact ⟨0,by omega,rfl⟩
 |n+1,L,h=>by
  by_cases h0:L.length=0
  ·rw [List.eq_nil_of_length_eq_zero h0];exact ⟨0,by omega,rfl⟩
  by_cases h8:L.length<8
  ·refine ⟨8 - L.length,by omega,?_⟩;rw [packB_rest L (by omega) h8,←valB_zeros];show byteBits _++[]=_;rw [List.append_nil,byteBits_val _ (by rw [List.length_append,List.length_replicate];omega)]
  ·have hb:=byteBits_val (L.take 8) (by rw [List.length_take];omega);obtain ⟨z,hz,he⟩:=pack_bits n (L.drop 8) (by rw [List.length_drop];omega);refine ⟨z,hz,?_⟩;have hL:L=byteBits (UInt8.ofNat (valB (L.take 8)))++L.drop 8:=by rw [hb,List.take_append_drop]
   have hp:packB L=UInt8.ofNat (valB (L.take 8))::packB (L.drop 8):=by
    have:=packB_byte (UInt8.ofNat (valB (L.take 8))) (L.drop 8);rwa [←hL] at this
   rw [hp];show byteBits _++bytesBits (packB (L.drop 8))=_;rw [he,hb,←List.append_assoc,List.take_append_drop]
theorem zeros_end (z:Nat) (h:z<8):endP (some (List.replicate z false))=true:=by
 have:valB (List.replicate z false)=0:=by
  have:=valB_zeros [] z;simpa [valB] using this
 simp [endP,h,this]
theorem numP_num {n W:Nat} (Y:List Bool) (h:n<2 ^ W):numP W (numBits n W++Y)=some (n,Y):=by
 have hl:=numBits_len n W;unfold numP;rw [if_neg (by rw [List.length_append,hl];omega),List.take_left' hl,List.drop_left' hl,valB_num,Nat.mod_eq_of_lt h]
theorem textP_txt {k:Nat} (l:List UInt8) (Y:List Bool) (h:l.length=k):textP k (bytesBits l++Y)=some (l,Y):=by
 have hl:(bytesBits l).length=8 * k:=by rw [bytesBits_len,h]
 have hp:packB (bytesBits l)=l:=by have:=packB_bytes l [];simpa [packB] using this
 unfold textP;rw [if_neg (by rw [List.length_append,hl];omega),List.take_left' hl,List.drop_left' hl,hp]
theorem thenP_go {α β:Type} {P:List Bool→Option (α×List Bool)} {Q:α→List Bool→Option (β×List Bool)} {X Y:List Bool} {a:α} (h:P X=some (a,Y)):thenP P Q X=Q a Y:=by
 unfold thenP;rw [h];rfl
theorem manyP_enc {α:Type} {P:List Bool→Option (α×List Bool)} {enc:α→List Bool} (l:List α) (h:∀a∈l,∀Y,P (enc a++Y)=some (a,Y)) (Y:List Bool):manyP P l.length (l.flatMap enc++Y)=some (l,Y):=by
 have key:∀n,n≤l.length→manyP P n (l.flatMap enc++Y)=some (l.take n,(l.drop n).flatMap enc++Y):=by
  intro n
  induction n with
  |zero=>intro _;simp [manyP]
  |succ n ih=>
   intro hn;have hlt:n<l.length:=by omega
   rw [manyP,ih (by omega)];rw [List.drop_eq_getElem_cons hlt,List.flatMap_cons,List.append_assoc];show (P (enc l[n]++_)).map _=_;rw [h _ (List.getElem_mem hlt),List.take_succ_eq_append_getElem hlt];rfl
 have:=key l.length (Nat.le_refl _);simpa using this
theorem oneBk_enc (b:BK) (h:PoolOK [b]) (Y:List Bool):oneBk (bkB b++Y)=some (b,Y):=by
 obtain ⟨h1,h2,h3,h4⟩:=h.2 b (by simp);obtain ⟨id,n⟩:=b;simp only at h1 h2 h3 h4;have hs:id.data.toList.length=id.size:=by rw [Array.length_toList];rfl
 unfold oneBk bkB;rw [List.append_assoc,List.append_assoc];rw [thenP_go (numP_num (W:=8) _ (by show id.size<256;omega)),thenP_go (textP_txt id.data.toList _ hs),thenP_go (numP_num (W:=8) _ (by show n.toNat<256;omega))];show some ((txt id.data.toList,(n.toNat:Int)),Y)=_;rw [Int.toNat_of_nonneg h3];rfl
theorem bksX_enc (B:List BK) (h:PoolOK B) (Y:List Bool):bksX (bksB B++Y)=some (B,Y):=by
 have h8:=h.1;unfold bksX bksB;rw [List.append_assoc,thenP_go (numP_num (W:=8) _ (by show B.length<256;omega))];exact manyP_enc B (fun b hb Y=>oneBk_enc b ⟨by simp,fun x hx=>by rw [List.mem_singleton.1 hx];exact h.2 b hb⟩ Y) Y
theorem headX_enc (f g:Nat) (c:Cfg) (hf:f<256) (hg:g<4294967296) (hc:c.TOK) (Y:List Bool):textP 2 (headB f g c++Y)=some ([67,72],numBits f 8++(numBits c.alg.toNat 8++(numBits g 32++(numBits c.slots.toNat 16++(numBits c.points.toNat 8++(numBits c.probes.toNat 8++(bytesBits c.key.data.toList++Y)))))))∧
  headX (numBits f 8++(numBits c.alg.toNat 8++(numBits g 32++(numBits c.slots.toNat 16++(numBits c.points.toNat 8++(numBits c.probes.toNat 8++(bytesBits c.key.data.toList++Y)))))))=some ((f,g,{c with formats:=0}),Y):=by
 obtain ⟨h1,h2,h3,h4, -,h6,h7,h8,h9,h10⟩:=hc;have hs:c.key.data.toList.length=16:=by rw [Array.length_toList];exact h10
 refine ⟨?_,?_⟩
 ·unfold headB;simp only [List.nil_append,List.append_assoc];exact textP_txt [67,72] _ rfl
 ·unfold headX;rw [thenP_go (numP_num (W:=8) _ hf),thenP_go (numP_num (W:=8) _ (by show c.alg.toNat<256;omega)),thenP_go (numP_num (W:=32) _ hg),thenP_go (numP_num (W:=16) _ (by show c.slots.toNat<65536;omega)),thenP_go (numP_num (W:=8) _ (by show c.points.toNat<256;omega)),thenP_go (numP_num (W:=8) _ (by show c.probes.toNat<256;omega)),thenP_go (textP_txt _ _ hs)];show some ((f,g,(⟨(c.alg.toNat:Int),(c.slots.toNat:Int),(c.points.toNat:Int),(c.probes.toNat:Int),txt c.key.data.toList,0⟩:Cfg)),Y)=_;rw [Int.toNat_of_nonneg (by omega),Int.toNat_of_nonneg (by omega),Int.toNat_of_nonneg (by omega),Int.toNat_of_nonneg (by omega)];rfl
theorem plb_ge {j n:Nat} (h:j<n) (hn:n≤8):j<2 ^ plb n:=by
 unfold plb blen;rcases (show n=1∨n=2∨n=3∨n=4∨n=5∨n=6∨n=7∨n=8 by omega) with rfl|rfl|rfl|rfl|rfl|rfl|rfl|rfl <;>simp <;>omega
def EnW (alg:Int) (n:Nat) (e:EI):Prop:=0≤e.1∧(e.1<18446744073709551616)∧(hasP alg=false→e.1=0)∧0≤e.2∧e.2<n
theorem oneEn_enc {f:Nat} {alg:Int} {n:Nat} {e:EI} (hn:n≤8) (h:EnW alg n e) (Y:List Bool):oneEn (wpF alg) (woF f alg n) (enB (wpF alg) (woF f alg n) e++Y)=some (e,Y):=by
 obtain ⟨h1,h2,h3,h4,h5⟩:=h;obtain ⟨x,y⟩:=e;simp only at h1 h2 h3 h4 h5;have hu:u64N y=y.toNat:=by unfold u64N;omega
 have hy:y.toNat<n:=by omega
 have hw:y.toNat<2 ^ woF f alg n:=by
  unfold woF;split
  ·exact plb_ge hy hn
  ·split
   ·exact Nat.lt_of_lt_of_le hy (Nat.le_trans hn (by decide))
   ·exact Nat.lt_of_lt_of_le hy (Nat.le_trans hn (by decide))
 have hx:x.toNat<2 ^ wpF alg:=by
  unfold wpF;cases hp:hasP alg
  ·rw [h3 hp];decide
  ·show x.toNat<2 ^ 64;omega
 unfold oneEn enB;rw [List.append_assoc,hu,thenP_go (numP_num _ hx),thenP_go (numP_num _ hw)];show some (((x.toNat:Int),(y.toNat:Int)),Y)=_;rw [Int.toNat_of_nonneg h1,Int.toNat_of_nonneg h4]
theorem image_round {f g:Nat} {c:Cfg} {B:List BK} {E:List EI} (hf:1≤f∧f≤2) (hc:c.TOK) (hB:Good B) (hE:∀e∈E,EnW c.alg B.length e) (hl:E.length<65536) (hR:RightG g c B E):imageP (imageB f g c B E)=some (f,g,{c with formats:=0},B,E):=by
 obtain ⟨z,hz,hbits⟩:=pack_bits _ (bodyB f g c B E) (Nat.le_refl _)
 have hlen:0<(packB (bodyB f g c B E)).length:=by
  rcases Nat.eq_zero_or_pos (packB (bodyB f g c B E)).length with e|e
  ·exfalso;have h0:=congrArg List.length hbits;rw [bytesBits_len,e,List.length_append] at h0
   have:0<(bodyB f g c B E).length:=by
    unfold bodyB headB;simp only [List.length_append,bytesBits_len,List.length_cons];omega
   omega
  ·exact e
 have hop:openB (imageB f g c B E)=some (packB (bodyB f g c B E)):=by
  unfold imageB openB;have e4:(sumB (crcB (packB (bodyB f g c B E)))).length=4:=rfl;have e:(packB (bodyB f g c B E)++sumB (crcB (packB (bodyB f g c B E)))).length - 4=(packB (bodyB f g c B E)).length:=by rw [List.length_append,e4];omega
  rw [if_neg (by rw [List.length_append,e4];omega),e,List.take_left',List.drop_left',if_pos rfl]
  ·rfl
  ·rfl
 have hg2:=hR.1.2
 have hbody:bodyB f g c B E++List.replicate z false=headB f g c++(bksB B++(numBits E.length 16++(ensB (wpF c.alg) (woF f c.alg B.length) E++List.replicate z false))):=by
  unfold bodyB;simp only [List.append_assoc]
 obtain ⟨s1,s2⟩:=headX_enc f g c (by omega) (by omega) hc (bksB B++(numBits E.length 16++(ensB (wpF c.alg) (woF f c.alg B.length) E++List.replicate z false)));have s3:=bksX_enc B hB.1 (numBits E.length 16++(ensB (wpF c.alg) (woF f c.alg B.length) E++List.replicate z false));have s4:=numP_num (W:=16) (ensB (wpF c.alg) (woF f c.alg B.length) E++List.replicate z false) (by show E.length<65536;exact hl);have s5:=manyP_enc (P:=oneEn (wpF c.alg) (woF f c.alg B.length)) (enc:=enB (wpF c.alg) (woF f c.alg B.length)) E (fun e he Y=>oneEn_enc hB.1.1 (hE e he) Y) (List.replicate z false);unfold imageP;rw [hop,Option.bind_some,hbits,hbody];rw [imgT_step (o':=some _) (by rw [Option.bind_some,s1];rfl),if_pos rfl,imgH_step (o':=some _) (by rw [Option.bind_some,s2];rfl),if_pos ⟨hf,hc⟩,imgB_step (o':=some _) (by rw [Option.bind_some,s3];rfl),if_pos hB,imgN_step (o':=some _) (by rw [Option.bind_some,s4];rfl)];rw [imgE_step (o':=some (List.replicate z false)) (E:=E) (by rw [Option.bind_some];exact s5)];unfold imgEnd;rw [if_pos ⟨zeros_end z hz,hR⟩]
end Go.Proofs.YtpapdkhjdelfcabGreat
