import Derived.Test.YtpapdkhjdelfcabGreatHBV
import Derived.Test.YtpapdkhjdelfcabGreatHBS
import Derived.Test.YtpapdkhjdelfcabGreatHBM
import Derived.Laws.IdiomStrings
set_option maxRecDepth 100000
set_option maxHeartbeats 4000000
namespace Go.Proofs.YtpapdkhjdelfcabGreat
open Go.RowKit
theorem addr_add (g j:Nat):(⟨g,0,none⟩:Addr).add j=⟨g,j,none⟩:=by unfold Addr.add;split <;>simp_all
def BRow (g:Nat) (l:List UInt8) (w:World):Prop:=(∀j (hj:j<l.length),w.cell? ⟨g,j,none⟩=some (.int .u8 (l[j].toNat:Int)))∧∀j,j<l.length→w.frozen? ⟨g,j,none⟩=false
theorem BRow.later {g:Nat} {l:List UInt8} {w w':World} (h:BRow g l w) (b:Bel w w'):BRow g l w':=⟨fun j hj=>b.cell (h.1 j hj),fun j hj=>b.frozen (h.1 j hj) (h.2 j hj)⟩
theorem BRow.but {M:List Nat} {g:Nat} {l:List UInt8} {w w':World} (h:BRow g l w) (b:But M w w') (hg:g∉M):BRow g l w':=⟨fun j hj=>b.cell (h.1 j hj) hg,fun j hj=>b.frozen (h.1 j hj) hg (h.2 j hj)⟩
theorem BRow.set {g:Nat} {l:List UInt8} {w:World} (h:BRow g l w) (j:Nat) (x:UInt8) (v:Int) (hv:v=(x.toNat:Int)):BRow g (l.set j x) (w.setCell ⟨g,j,none⟩ (.int .u8 v)):=by
 subst hv;refine ⟨fun i hi=>?_,fun i hi=>by rw [frozen_set];exact h.2 i (by simpa using hi)⟩;rw [List.length_set] at hi;by_cases hij:j=i
 ·subst hij;rw [List.getElem_set_self];exact set_same (h.1 j hi)
 ·rw [set_other (Or.inr hij),List.getElem_set_ne hij];exact h.1 i hi
theorem BRow.new (w:World) (t:ByteArray) (e:TypeId) (c:Nat):BRow w.heap.size t.data.toList (w.alloc (.cells (bytesRow t c) e ((bytesRow t c).size,(bytesRow t c).size+1))):=by
 have hsz:t.size≤(bytesRow t c).size:=by unfold bytesRow;rw [Array.size_append,Array.size_map];exact Nat.le_add_right _ _
 have hb:(w.alloc (.cells (bytesRow t c) e ((bytesRow t c).size,(bytesRow t c).size+1))).heap[w.heap.size]?=some (.cells (bytesRow t c) e ((bytesRow t c).size,(bytesRow t c).size+1)):=by
  show (w.heap.push _)[w.heap.size]?=_;simp
 refine ⟨fun j hj=>?_,fun j hj=>?_⟩
 ·have hj':j<t.data.size:=by simpa using hj
  unfold World.cell?;simp only [hb];unfold bytesRow;simp only [Array.getElem?_append,Array.size_map];rw [if_pos hj',Array.getElem?_map,Array.getElem?_eq_getElem hj'];rfl
 ·have hj':j<t.size:=by simpa using hj
  unfold World.frozen?;simp only [hb];simp;omega
theorem u8_any (x:Int):∃b:UInt8,IntKind.u8.wrap x=(b.toNat:Int):=by
 rw [IntKind.wrap_u8];refine ⟨UInt8.ofNat (x % 256).toNat,?_⟩;rw [UInt8.toNat_ofNat'];omega
theorem u8_bits (o:BinOp) (x y:Int) (h:∃z,bits o .u8 x y=IntKind.u8.wrap z):∃b:UInt8,bits o .u8 x y=(b.toNat:Int):=by
 obtain ⟨z,hz⟩:=h;rw [hz];exact u8_any z
theorem u8_xor_any (x y:Int):∃b:UInt8,bits .xor .u8 x y=(b.toNat:Int):=u8_bits _ _ _ ⟨_,rfl⟩
def sbit (x:ByteArray) (k:Nat):Bool:=(x.data.toList.getD (k / 8) 0).toNat.testBit (k % 8)
theorem u8_and1 (b:UInt8) (m:Nat):(bits .and .u8 ((b.toNat:Int) / 2 ^ m) 1==1)=b.toNat.testBit m:=by
 have hb:=b.toNat_lt;have e:((b.toNat:Int) / 2 ^ m)=((b.toNat / 2 ^ m:Nat):Int):=by simp
 have hlt:b.toNat / 2 ^ m<256:=Nat.lt_of_le_of_lt (Nat.div_le_self _ _) hb;rw [e,Nat.testBit_eq_decide_div_mod_eq];generalize b.toNat / 2 ^ m=y at *
 have h1:bits .and .u8 (y:Int) 1=((y % 2:Nat):Int):=by
  show IntKind.u8.wrap ((BitVec.ofInt 8 (y:Int) &&& BitVec.ofInt 8 1).toNat:Int)=_;have e1:(BitVec.ofInt 8 (y:Int)).toNat=y:=by rw [BitVec.toNat_ofInt];omega
  have e2:(BitVec.ofInt 8 (1:Int)).toNat=1:=by rfl
  rw [BitVec.toNat_and,e1,e2,Nat.and_one_is_mod,IntKind.wrap_u8];omega
 rw [h1];rcases Nat.mod_two_eq_zero_or_one y with h|h <;>rw [h] <;>rfl
theorem sbit_is {x:ByteArray} {j:Nat} (h:j / 8<x.size):(bits .and .u8 (((x[j / 8]'h).toNat:Int) / 2 ^ (j % 8)) 1==1)=sbit x j:=by
 rw [u8_and1];unfold sbit;have h':j / 8<x.data.toList.length:=by rw [Array.length_toList];exact h
 rw [List.getD_eq_getElem?_getD,List.getElem?_eq_getElem h'];rfl
def someN (s:Nat→Bool) (p n:Nat):Nat→Bool
 |0=>false
 |k+1=>someN s p n k||(s k && decide (p+k<8 * n))
theorem someN_is {s:Nat→Bool} {p n k:Nat} (h:someN s p n k=true):∃j,j<k∧s j=true∧p+j<8 * n:=by
 induction k with
 |zero=>cases h
 |succ k ih=>
  rw [someN,Bool.or_eq_true,Bool.and_eq_true,decide_eq_true_eq] at h;rcases h with h|h
  ·obtain ⟨j,h1,h2⟩:=ih h;exact ⟨j,by omega,h2⟩
  ·exact ⟨k,by omega,h⟩
def KP.held (x:KP) (n:Nat):Int×Int:=match x.pl[n]? with
 |some p=>heldF p.g p.nf
 |none=>(0,0)
theorem kheldP_is {W0:World} {p s:Nat} {k:KI} {w:World} {n:Nat} (h:KInv W0 p s k w) (hn:n<k.pp.length):
  Calls Tryz.prog 32 #[.pointer (some ⟨k.q,0,none⟩),.int .i64 (n:Int)] w (RHeld w (k.pu.held n)):=by
 have e1:k.pu.held n=heldF k.pp[n].2.1.g k.pp[n].2.1.nf:=by
  unfold KP.held KI.pu;simp only [List.getElem?_map,List.getElem?_eq_getElem hn,Option.map_some]
 rw [e1];exact held_v h.svc hn
theorem recv_none {x:KP} {l:List UInt8} (n:Nat) (h:openB l=none):x.recv n (txt l)=x:=by
 unfold KP.recv;split
 ·rename_i p hp
  have e:recvG p (txt l).data.toList=p:=by
   unfold recvG;rw [show (txt l).data.toList=l from rfl,answP_no h]
  obtain ⟨hn,rfl⟩:=List.getElem?_eq_some_iff.1 hp;rw [e,List.set_getElem_self]
 ·rfl
theorem serve_none {x:KP} {l:List UInt8} (h:openB l=none):x.serve (txt l)=txt []:=by
 unfold KP.serve serveB;rw [show (txt l).data.toList=l from rfl,questP_no h]
theorem krecvB_is {W0:World} {p s:Nat} {k:KI} {w:World} {n:Nat} (h:KInv W0 p s k w) (hn:n<k.pp.length) (t:ByteArray) (ht:t.size≤1099511627776) (hF:k.Tr→FrU k.on k.bs t):
  Calls Tryz.prog 31 #[.pointer (some ⟨k.q,0,none⟩),.int .i64 (n:Int),.string t] w fun e w'=>RRec W0 p s k (k.pu.recv n t) e w'∧∃N,But N w w'∧∀j∈N,j∈k.M:=by
 refine (receive_v h.svc (fun j hj=>(h.lt j hj).2) hn t ht).mono ?_;intro e w' hr;obtain ⟨R',hK⟩:=h.plane hn hr;refine ⟨⟨hr.1,_,hK,⟨rfl,by simp,Nat.le_refl _,id,fun hT=>Tr_recv hn (h.svc.pl hn).2 hT (hF hT)⟩,?_⟩,?_⟩
 ·unfold KP.recv KI.pu;simp only [List.getElem?_map,List.getElem?_eq_getElem hn,Option.map_some,List.map_set];rfl
 ·obtain ⟨-,R2, -,hb, -⟩:=hr;refine ⟨_,hb,fun j hj=>?_⟩;obtain ⟨h1,h2, -⟩:=(h.svc.pl hn).1;rcases List.mem_cons.1 hj with rfl|hj
  ·exact h1
  ·exact h2 j hj
def RBurst (W0:World) (p s:Nat) (k:KI) (e:Ending) (w':World):Prop:=∃k',e= .returned (.bool true)∧KInv W0 p s k' w'∧KTo k k' 0
theorem kburst_is {W0:World} {p s:Nat} {k:KI} {w:World} {n:Nat} (h:KInv W0 p s k w) (hs:s≤65600) (hn:n<k.pp.length) (hfb:k.fb≤900000000000) (hsl:∀t∈k.fr,Seald t) (b at_:Int) (S:ByteArray) (hb:I64 b) (hat:I64 at_):
  Calls Tryz.prog 77 #[.pointer (some ⟨p,0,none⟩),.int .i64 (n:Int),.int .i64 b,.int .i64 at_,.string S] w (RBurst W0 p s k):=by
 have c7:=h.at_.1 7 _ rfl;have c18:=h.at_.1 18 _ rfl;have HI:=Hid.mk h;by_cases hne:k.fr=[]
 ·have hr:=h.frames;rw [hne] at hr;obtain ⟨av,capv,hv⟩:=own_slice hr;have c18':w.cell? ⟨p,18,none⟩=some (.slice av 0 capv):=by rw [c18,hv];rfl
  clear h hr c18 hv hsl;go_enter Tryz.func77,Tryz.ntmps77;go_wp2;go_ret;exact ⟨k,rfl,HI.out,KTo.refl k 0⟩
 obtain ⟨g,cap,hv,hx⟩:=frames_cell h hne;have hl:0<k.fr.length:=List.length_pos_iff.2 hne;have hfl:=h.flen;have hpk:=fun wx=>pick_is b (k.fr.length:Int) wx hb (by omega) (by omega)
 obtain ⟨h1,h2⟩:=pickF_range b (k.fr.length:Int) (by omega);obtain ⟨m,hm⟩:=Int.eq_ofNat_of_zero_le h1;have hml:m<k.fr.length:=by omega
 have hfs:=h.fsz _ (List.getElem_mem hml);obtain ⟨bd,hbd⟩:=hsl _ (List.getElem_mem hml);rw [hm] at hpk;have hxm:=hx m hml;have c18':w.cell? ⟨p,18,none⟩=some (.slice (some ⟨g,0,none⟩) k.fr.length cap):=by rw [c18,hv]
 have hlz:((k.fr.length:Int)==0)=false:=by rw [beq_eq_false_iff_ne];omega
 clear h1 h2 hm hx h c18 hv hne hsl;generalize k.fr[m]=f at *;generalize k.fr.length=nn at *;have hfl2:f.data.toList.length=f.size:=by rw [Array.length_toList];rfl
 have hf4:4<f.size:=by
  rw [←hfl2];unfold openB at hbd;split at hbd
  ·cases hbd
  ·omega
 have hfz:((f.size:Int)==0)=false:=by rw [beq_eq_false_iff_ne];omega
 have hcv:=fun wx=>run_bytes_of_string (P:=Tryz.prog) wx 9 105 5 f rfl Tryz.underlying105 rfl
 have hpk2:=fun wx=>pick_is at_ (8 * (f.size:Int)) wx hat (by omega) (by omega)
 obtain ⟨h1,h2⟩:=pickF_range at_ (8 * (f.size:Int)) (by omega);obtain ⟨ps,hps⟩:=Int.eq_ofNat_of_zero_le h1;rw [hps] at hpk2 h2;have hfi:=fun wx=>fill_is S 4 wx (by omega) (by omega)
 go_enter Tryz.func77,Tryz.ntmps77;go_wp2_with fail;go_region_held_law (fun w'=>Bel w w'∧w'.cell? ⟨p,18,none⟩=some (.slice (some ⟨g,0,none⟩) nn cap)∧w'.cell? ⟨g,m,none⟩=some (.string f)) ((exact ⟨by (repeat (first|exact Bel.refl _|assumption|refine Bel.step_alloc ?_ _|refine Bel.step_drew ?_|refine Bel.step_drewN ?_ _|refine Bel.step_set ?_ (by simp <;>omega) _|refine Bel.trans ?_ (by assumption))),Bel.cell (a:=w) (by (repeat (first|exact Bel.refl _|assumption|refine Bel.step_alloc ?_ _|refine Bel.step_drew ?_|refine Bel.step_drewN ?_ _|refine Bel.step_set ?_ (by simp <;>omega) _|refine Bel.trans ?_ (by assumption)))) c18',Bel.cell (a:=w) (by (repeat (first|exact Bel.refl _|assumption|refine Bel.step_alloc ?_ _|refine Bel.step_drew ?_|refine Bel.step_drewN ?_ _|refine Bel.step_set ?_ (by simp <;>omega) _|refine Bel.trans ?_ (by assumption)))) hxm⟩)) ((go_at_call 70;refine (hpk _).mono ?_;rintro e w2 ⟨rfl,rfl⟩));generalize grownCap w.drew f.size 0 5=c0;have hB0:=BRow.new w f 5 c0;generalize hwA:(World.alloc w (Obj.cells (bytesRow f c0) 5 ((bytesRow f c0).size,(bytesRow f c0).size+1))).drew.drew=wA;have hBA:BRow w.heap.size f.data.toList wA:=by rw [←hwA];exact hB0.later (by (repeat (first|exact Bel.refl _|assumption|refine Bel.step_alloc ?_ _|refine Bel.step_drew ?_|refine Bel.step_drewN ?_ _|refine Bel.step_set ?_ (by simp <;>omega) _|refine Bel.trans ?_ (by assumption))))
 have hbA:Bel w wA:=by rw [←hwA];(repeat (first|exact Bel.refl _|assumption|refine Bel.step_alloc ?_ _|refine Bel.step_drew ?_|refine Bel.step_drewN ?_ _|refine Bel.step_set ?_ (by simp <;>omega) _|refine Bel.trans ?_ (by assumption)))
 clear hwA hB0 hcv hpk hxm c18';go_wp2_with fail;refine (hpk2 _).mono ?_;rintro e w1 ⟨rfl,rfl⟩;clear hpk2 h1 hps;go_wp2_with fail;refine (hfi _).mono ?_;rintro e w2 ⟨x,rfl,hb2,hx⟩;have hB2:=hBA.later hb2;have hbw2:=hbA.trans hb2;clear hfi hBA hbA hb2;obtain ⟨L,hL⟩:∃L,L=f.data.toList:=⟨_,rfl⟩;rw [←hL] at hB2 hfl2 hbd;have hLn:=Hid.mk hL;clear hL;go_wp2;go_loopg [12,13] 32 (fun r vs nk wr=>∃j:Nat,nk= .int .i64 (j:Int)∧j≤32∧r=32 - j∧Bel w wr∧vs= .bool (someN (sbit x) ps f.size j)∧BRow w.heap.size (burstN L ps (sbit x) j) wr)
 case atStart=>exact ⟨0,rfl,by omega,rfl,hbw2,rfl,hB2⟩
 case round=>
  obtain ⟨j,rfl,hj,rfl,hbr,rfl,hBr⟩:=hrel;by_cases hgo:j<32∧ps+j<8 * f.size
  ·obtain ⟨hj32,hp8⟩:=hgo;have hjb:decide ((j:Int)<32)=true:=decide_eq_true (by omega)
   ·have hpb:decide ((ps:Int)+(j:Int)<8 * (f.size:Int))=true:=decide_eq_true (by omega);have hx8:j / 8<x.size:=by omega
    have hcond:=sbit_is hx8;have hlenN:=burstN_len L ps (sbit x) j;have hq:(ps+j) / 8<(burstN L ps (sbit x) j).length:=by rw [hlenN,hfl2];omega
    have cB:=hBr.1 _ hq;have fB:=hBr.2 _ hq
    have HNx:Hid (burstN L ps (sbit x) (j+1)=if sbit x j=true then flipB (burstN L ps (sbit x) j) (ps+j) else burstN L ps (sbit x) j):=by
     show _=_;rw [burstN,hfl2];simp only [hp8,and_true]
    have HSx:Hid (someN (sbit x) ps f.size (j+1)=(someN (sbit x) ps f.size j||sbit x j)):=by
     show _=_;rw [someN,decide_eq_true hp8,Bool.and_true]
    have HFl:Hid (flipB (burstN L ps (sbit x) j) (ps+j)=(burstN L ps (sbit x) j).set ((ps+j) / 8) ((burstN L ps (sbit x) j)[(ps+j) / 8] ^^^ UInt8.ofNat (2 ^ ((ps+j) % 8)))):=by
     show _=_;unfold flipB;rw [List.getElem?_eq_getElem hq];rfl
    generalize (burstN L ps (sbit x) j)[(ps+j) / 8]=bv at *;have HBr:=Hid.mk hBr;cases hs1:sbit x j
    ·rw [hs1] at hcond;go_wp2;go_roundg (32 - (j+1))
     case measure=>omega
     case rel=>exact ⟨j+1,by go_num,by omega,rfl,hbr,by rw [HSx.out,hs1,Bool.or_false],by rw [HNx.out,hs1];exact HBr.out⟩
    ·rw [hs1] at hcond;go_wp2_with fail;go_region;have hv:bits .xor .u8 (bv.toNat:Int) (2 ^ ((ps+j) % 8) % 256)=((bv ^^^ UInt8.ofNat (2 ^ ((ps+j) % 8))).toNat:Int):=by rw [pow_u8 _ (Nat.mod_lt _ (by omega)),u8_xor]
     have HB3:Hid (BRow w.heap.size (burstN L ps (sbit x) (j+1)) (wr.setCell ⟨w.heap.size,(ps+j) / 8,none⟩ (.int .u8 (bits .xor .u8 (bv.toNat:Int) (2 ^ ((ps+j) % 8) % 256)))).drew):=by
      show BRow _ _ _;rw [HNx.out,if_pos hs1,HFl.out];exact (HBr.out.set _ _ _ hv).later (by (repeat (first|exact Bel.refl _|assumption|refine Bel.step_alloc ?_ _|refine Bel.step_drew ?_|refine Bel.step_drewN ?_ _|refine Bel.step_set ?_ (by simp <;>omega) _|refine Bel.trans ?_ (by assumption))))
     have hbr3:Bel w (wr.setCell ⟨w.heap.size,(ps+j) / 8,none⟩ (.int .u8 (bits .xor .u8 (bv.toNat:Int) (2 ^ ((ps+j) % 8) % 256)))).drew:=by (repeat (first|exact Bel.refl _|assumption|refine Bel.step_alloc ?_ _|refine Bel.step_drew ?_|refine Bel.step_drewN ?_ _|refine Bel.step_set ?_ (by simp <;>omega) _|refine Bel.trans ?_ (by assumption)))
     generalize (wr.setCell ⟨w.heap.size,(ps+j) / 8,none⟩ (.int .u8 (bits .xor .u8 (bv.toNat:Int) (2 ^ ((ps+j) % 8) % 256)))).drew=w5 at *;clear cB fB hv;go_wp2;go_roundg (32 - (j+1))
     case measure=>omega
     case rel=>exact ⟨j+1,by go_num,by omega,rfl,hbr3,by rw [HSx.out,hs1,Bool.or_true],HB3.out⟩
  ·have hend:(decide ((j:Int)<32)=false)∨(decide ((j:Int)<32)=true∧decide ((ps:Int)+(j:Int)<8 * (f.size:Int))=false):=by
    by_cases h1:j<32
    ·exact Or.inr ⟨decide_eq_true (by omega),decide_eq_false (by omega)⟩
    ·exact Or.inl (decide_eq_false (by omega))
   have x7:=hbr.cell c7
   have hk:=HI.out.later hbr
   have HB:=Hid.mk hbr
   cases hsm:someN (sbit x) ps f.size j
   ·have HK:=Hid.mk hk
    clear hk hB2 hBr
    rcases hend with he|⟨he1,he2⟩
    all_goals
     go_wp2
     go_ret
     exact ⟨k,rfl,HK.out,KTo.refl k 0⟩
   ·have hno:openB (burstN L ps (sbit x) j)=none:=burst_none hbd hj (by rw [hfl2];exact someN_is hsm)
    have hFl:(burstN L ps (sbit x) j).length=f.size:=by rw [burstN_len,hfl2]
    generalize burstN L ps (sbit x) j=F at *
    have hFs:(txt F).size≤1099511627776:=by rw [txt_size,hFl];exact hfs
    have hhd:=fun wx (b':Bel wr wx)=>kheldP_is (hk.later b') hn
    have htk:=fun wx (b':Bel wr wx)=>ktick_is (hk.later b') hn
    have hrc:=fun wx (b':Bel wr wx)=>krecvB_is (hk.later b') hn (txt F) hFs (fun _=>none_U _ _ (answP_no hno))
    rw [recv_none n hno] at hrc
    have hcvx := fun wx (b' : Bel wr wx) => run_convert_bytes_back (P := Tryz.prog) wx 105 9 5 ⟨w.heap.size, 0, none⟩ c0 F Tryz.underlying105 rfl rfl (fun i hi => by
      have := (hBr.later b').1 i hi
      rwa [addr_add])
    rw [hFl] at hcvx
    have hlt0:∀j∈k.M,j<w.heap.size:=fun j hj=>(HI.out.lt j hj).2
    have HF:Hid ((⟨F.toArray⟩:ByteArray)=txt F):=rfl
    have HNo:=Hid.mk hno
    have HBR:=Hid.mk hBr
    obtain ⟨H1,hH1⟩:∃H1,H1=k.pu.held n:=⟨_,rfl⟩
    rw [←hH1] at hhd
    have HH1:=Hid.mk hH1
    obtain ⟨q1,hq1⟩:∃q1,q1=k.pu.tick n:=⟨_,rfl⟩
    rw [←hq1] at htk
    have HQ1:=Hid.mk hq1
    clear hH1 hq1 hno hk hB2 hBr
    obtain ⟨hg1,he1⟩:=H1
    rcases hend with he|⟨he1',he2'⟩
    all_goals
     go_wp2_with fail
     refine (hhd _ (by (repeat (first|exact Bel.refl _|assumption|refine Bel.step_alloc ?_ _|refine Bel.step_drew ?_|refine Bel.step_drewN ?_ _|refine Bel.step_set ?_ (by simp <;>omega) _|refine Bel.trans ?_ (by assumption))))).mono ?_
     rintro e w3 ⟨rfl,hb3⟩
     have y7:=hb3.cell x7
     go_wp2_with fail
     refine (htk _ (by (repeat (first|exact Bel.refl _|assumption|refine Bel.step_alloc ?_ _|refine Bel.step_drew ?_|refine Bel.step_drewN ?_ _|refine Bel.step_set ?_ (by simp <;>omega) _|refine Bel.trans ?_ (by assumption))))).mono ?_
     rintro e w4 ⟨rfl,hb4⟩
     have hb34:=hb3.trans hb4
     have z7:=hb34.cell x7
     have hcA:=hcvx w4 hb34
     have hcB:=hcvx w4.drew (by (repeat (first|exact Bel.refl _|assumption|refine Bel.step_alloc ?_ _|refine Bel.step_drew ?_|refine Bel.step_drewN ?_ _|refine Bel.step_set ?_ (by simp <;>omega) _|refine Bel.trans ?_ (by assumption))))
     have hcC:=hcvx w4.drew.drew (by (repeat (first|exact Bel.refl _|assumption|refine Bel.step_alloc ?_ _|refine Bel.step_drew ?_|refine Bel.step_drewN ?_ _|refine Bel.step_set ?_ (by simp <;>omega) _|refine Bel.trans ?_ (by assumption))))
     go_wp2_with fail
     go_region_with (go_at_call 31;refine (hrc _ (by (repeat (first|exact Bel.refl _|assumption|refine Bel.step_alloc ?_ _|refine Bel.step_drew ?_|refine Bel.step_drewN ?_ _|refine Bel.step_set ?_ (by simp <;>omega) _|refine Bel.trans ?_ (by assumption))))).mono ?_;rintro e w5 ⟨⟨rfl,k5,hk5,hT5,hp5⟩,N,hbN,hN⟩)
     all_goals
      have hB5:BRow w.heap.size F w5:=(HBR.out.later (by (repeat (first|exact Bel.refl _|assumption|refine Bel.step_alloc ?_ _|refine Bel.step_drew ?_|refine Bel.step_drewN ?_ _|refine Bel.step_set ?_ (by simp <;>omega) _|refine Bel.trans ?_ (by assumption))))).but hbN (fun hm=>by have:=hlt0 _ (hN _ hm);omega)
      have hcvy := fun wx (b' : Bel w5 wx) => run_convert_bytes_back (P := Tryz.prog) wx 105 9 5 ⟨w.heap.size, 0, none⟩ c0 F Tryz.underlying105 rfl rfl (fun i hi => by
        have := (hB5.later b').1 i hi
        rwa [addr_add])
      rw [hFl] at hcvy
      have hn5:n<k5.pp.length:=by rw [hT5.len];exact hn
      have hhd2:=fun wx (b':Bel w5 wx)=>kheldP_is (hk5.later b') hn5
      have htk2:=fun wx (b':Bel w5 wx)=>ktick_is (hk5.later b') hn5
      have hsv2:=fun wx (b':Bel w5 wx)=>kserve_is (hk5.later b') hs (txt F) hFs
      have v7:=hk5.at_.1 7 _ rfl
      rw [hT5.q] at hhd2 htk2 hsv2 v7
      rw [hp5] at hhd2 htk2 hsv2
      rw [serve_none HNo.out] at hsv2
      rw [←HH1.out] at hhd2
      rw [←HQ1.out] at htk2
      have hnil:(txt []).toList.isEmpty=true:=by kernel_rfl
      have HK5:=Hid.mk hk5
      clear hk5 hB5 hcA hcB hcC hbN hN hrc hcvx hhd htk
      go_wp2_with fail
      refine (hhd2 _ (by (repeat (first|exact Bel.refl _|assumption|refine Bel.step_alloc ?_ _|refine Bel.step_drew ?_|refine Bel.step_drewN ?_ _|refine Bel.step_set ?_ (by simp <;>omega) _|refine Bel.trans ?_ (by assumption))))).mono ?_
      rintro e w6 ⟨rfl,hb6⟩
      have hbw6:Bel w5 w6:=Bel.trans (by (repeat (first|exact Bel.refl _|assumption|refine Bel.step_alloc ?_ _|refine Bel.step_drew ?_|refine Bel.step_drewN ?_ _|refine Bel.step_set ?_ (by simp <;>omega) _|refine Bel.trans ?_ (by assumption)))) hb6
      have u7:=hbw6.cell v7
      clear hhd2
      go_wp2_with fail
      refine (htk2 _ (by (repeat (first|exact Bel.refl _|assumption|refine Bel.step_alloc ?_ _|refine Bel.step_drew ?_|refine Bel.step_drewN ?_ _|refine Bel.step_set ?_ (by simp <;>omega) _|refine Bel.trans ?_ (by assumption))))).mono ?_
      rintro e w7 ⟨rfl,hb7⟩
      have hbw7:Bel w5 w7:=hbw6.trans hb7
      have t7:=hbw7.cell v7
      have hdA:=hcvy w7 hbw7
      have hdB:=hcvy w7.drew (by (repeat (first|exact Bel.refl _|assumption|refine Bel.step_alloc ?_ _|refine Bel.step_drew ?_|refine Bel.step_drewN ?_ _|refine Bel.step_set ?_ (by simp <;>omega) _|refine Bel.trans ?_ (by assumption))))
      have hdC:=hcvy w7.drew.drew (by (repeat (first|exact Bel.refl _|assumption|refine Bel.step_alloc ?_ _|refine Bel.step_drew ?_|refine Bel.step_drewN ?_ _|refine Bel.step_set ?_ (by simp <;>omega) _|refine Bel.trans ?_ (by assumption))))
      clear htk2 hb6 hb7
      go_wp2_with fail
      go_region_with (go_at_call 30;refine (hsv2 _ (by (repeat (first|exact Bel.refl _|assumption|refine Bel.step_alloc ?_ _|refine Bel.step_drew ?_|refine Bel.step_drewN ?_ _|refine Bel.step_set ?_ (by simp <;>omega) _|refine Bel.trans ?_ (by assumption))))).mono ?_;rintro e w8 ⟨rfl,hb8⟩)
      all_goals
       have HB8:Hid (Bel w5 w8):=Bel.trans (by (repeat (first|exact Bel.refl _|assumption|refine Bel.step_alloc ?_ _|refine Bel.step_drew ?_|refine Bel.step_drewN ?_ _|refine Bel.step_set ?_ (by simp <;>omega) _|refine Bel.trans ?_ (by assumption)))) hb8
       clear hsv2 hdA hdB hdC hcvy
       go_wp2
       go_ret
       exact ⟨k5,rfl,HK5.out.later (HB8.out.trans (by (repeat (first|exact Bel.refl _|assumption|refine Bel.step_alloc ?_ _|refine Bel.step_drew ?_|refine Bel.step_drewN ?_ _|refine Bel.step_set ?_ (by simp <;>omega) _|refine Bel.trans ?_ (by assumption))))),hT5⟩
end Go.Proofs.YtpapdkhjdelfcabGreat
