import Derived.Test.YtpapdkhjdelfcabGreatHAC
import Derived.Test.YtpapdkhjdelfcabGreatHAB
set_option maxRecDepth 100000
set_option maxHeartbeats 4000000
namespace Go.Proofs.YtpapdkhjdelfcabGreat
open Go.RowKit
theorem byteAt_lt (t:ByteArray) (i:Nat):0≤byteAt t i∧byteAt t i<256:=by
 unfold byteAt;split
 ·have:=(t[i]).toNat_lt;omega
 ·omega
theorem word_is (t:ByteArray) (f:Nat) (w:World) (ht:t.size≤4611686018427387904) (hf:f≤4611686018427387904):
  Calls Tryz.prog 232 #[.string t,.int .i64 f] w fun e w'=>e= .returned (.int .u64 (wordF t f))∧w=w':=by
 go_enter Tryz.func232,Tryz.ntmps232;go_wp2;go_loopg [5,6] 8 (fun r acc i wr=>w=wr∧∃n:Nat,r=8 - n∧n≤8∧i= .int .i64 (7 - n)∧acc= .int .u64 (wordTo t f n))
 case atStart=>exact ⟨rfl,0,by omega,by omega,rfl,rfl⟩
 case round=>
  obtain ⟨rfl,n,hr,hn,rfl,rfl⟩:=hrel;by_cases h8:n<8
  ·have hge:decide ((7 - (n:Int))≥0)=true:=decide_eq_true (by omega);obtain ⟨j,hj⟩:∃j:Nat,j=f+(7 - n):=⟨_,rfl⟩;have hji:(f:Int)+(7 - (n:Int))=(j:Int):=by omega
   have HS:Hid (wordTo t f (n+1)=if f+(7 - n)<t.size then bits .or .u64 (wordTo t f n * 256 % 18446744073709551616) (byteAt t (f+(7 - n))) else wordTo t f n * 256 % 18446744073709551616):=rfl;rw [←hj] at HS;have HJ:=Hid.mk hj;clear hj;generalize wordTo t f n=acc at *;by_cases hjt:j<t.size
   ·rw [if_pos hjt] at HS;have hd:decide ((j:Int)<(t.size:Int))=true:=decide_eq_true (by omega);have hbv:Hid (byteAt t j=(t[j].toNat:Int)):=by rw [byteAt,dif_pos hjt];rfl
    have hb:=(t[j]).toNat_lt;go_wp2;go_roundg (8 - (n+1))
    case measure=>omega
    case rel=>exact ⟨rfl,n+1,rfl,by omega,by go_num,by rw [HS.out,hbv.out,IntKind.wrap_u64]⟩
   ·rw [if_neg hjt] at HS;have hd:decide ((j:Int)<(t.size:Int))=false:=decide_eq_false (by omega);go_wp2;go_roundg (8 - (n+1))
    case measure=>omega
    case rel=>exact ⟨rfl,n+1,rfl,by omega,by go_num,by rw [HS.out,IntKind.wrap_u64]⟩
  ·have h88:n=8:=by omega
   subst h88;go_wp2;go_ret;exact ⟨rfl,rfl⟩
theorem RSt.of {w w1 w2:World} {p:Nat} {s:S4} (h:But [p] w w1) (k:StOn w1 p s w2):StOn w p s w2:=⟨h.trans k.1,k.2⟩
theorem take_is (p:Nat) (s:S4) (m:Int) (w:World) (h:StAt w p s):
  Calls Tryz.prog 233 #[.pointer (some ⟨p,0,none⟩),.int .u64 m] w (RSt w p (s.take m)):=by
 obtain ⟨⟨h0,h1,h2,h3⟩,f0,f1,f2,f3⟩:=h;obtain ⟨a0,b0,c0,d0⟩:=s;simp only at h0 h1 h2 h3;go_enter Tryz.func233,Tryz.ntmps233;go_wp2_with fail;have hA:StAt (w.setCell ⟨p,3,none⟩ (.int .u64 (bits .xor .u64 d0 m))) p ⟨a0,b0,c0,bits .xor .u64 d0 m⟩:=StAt.set3 (s:=⟨a0,b0,c0,d0⟩) ⟨⟨h0,h1,h2,h3⟩,f0,f1,f2,f3⟩ _;have hb:But [p] w (w.setCell ⟨p,3,none⟩ (.int .u64 (bits .xor .u64 d0 m))):=by (repeat (first|exact But.refl _ _|assumption|refine But.drew ?_|refine But.drewN ?_ _|refine But.alloc ?_ _|refine But.set ?_ (by simp) _|refine But.trans ?_ (by assumption)|refine But.step ?_ (by assumption)))
 refine (round_is p _ _ hA).mono ?_;rintro e w2 ⟨rfl,hS2⟩;go_wp2_with fail;refine (round_is p _ _ hS2.2).mono ?_;rintro e w3 ⟨rfl,hS3⟩;obtain ⟨hb3,hA3⟩:=RSt.of hb (RSt.of hS2.1 hS3);have HE:Hid (S4.take ⟨a0,b0,c0,d0⟩ m=⟨bits .xor .u64 (S4.round (S4.round ⟨a0,b0,c0,bits .xor .u64 d0 m⟩)).a m,(S4.round (S4.round ⟨a0,b0,c0,bits .xor .u64 d0 m⟩)).b,(S4.round (S4.round ⟨a0,b0,c0,bits .xor .u64 d0 m⟩)).c,(S4.round (S4.round ⟨a0,b0,c0,bits .xor .u64 d0 m⟩)).d⟩):=rfl;clear hS2 hS3 h0 h1 h2 h3 f0 f1 f2 f3;generalize S4.round (S4.round ⟨a0,b0,c0,bits .xor .u64 d0 m⟩)=s3 at *;obtain ⟨⟨h0,h1,h2,h3⟩,f0,f1,f2,f3⟩:=hA3;obtain ⟨a,b,c,d⟩:=s3;simp only at h0 h1 h2 h3 HE;go_wp2;go_end0;exact ⟨rfl,by (repeat (first|exact But.refl _ _|assumption|refine But.drew ?_|refine But.drewN ?_ _|refine But.alloc ?_ _|refine But.set ?_ (by simp) _|refine But.trans ?_ (by assumption)|refine But.step ?_ (by assumption))),(StAt.set0 (s:=⟨a,b,c,d⟩) ⟨⟨h0,h1,h2,h3⟩,f0,f1,f2,f3⟩ _).is HE.out.symm⟩
def rndN:Nat→S4→S4
 |0,s=>s
 |n+1,s=>(rndN n s).round
def RHash (w:World) (x:Int) (e:Ending) (w':World):Prop:=e= .returned (.int .u64 x)∧Bel w w'
def RAgg4 (w:World) (s:S4) (e:Ending) (w':World):Prop:=e= .returned (.agg #[.int .u64 s.a,.int .u64 s.b,.int .u64 s.c,.int .u64 s.d])∧Bel w w'
theorem begin_is (k l:Int) (w:World):Calls Tryz.prog 231 #[.int .u64 k,.int .u64 l] w (RAgg4 w (sipBegin k l)):=by
 obtain ⟨S,hS⟩:∃S,S=sipBegin k l:=⟨_,rfl⟩;have HS:=Hid.mk hS;rw [←hS];clear hS;go_enter Tryz.func231,Tryz.ntmps231;go_wp2;refine bodyPost_ret (v:= .agg #[.int .u64 (bits .xor .u64 k 8317987319222330741),.int .u64 (bits .xor .u64 l 7237128888997146477),.int .u64 (bits .xor .u64 k 7816392313619706465),.int .u64 (bits .xor .u64 l 8387220255154660723)]) (by simp [results,Tryz.results231,go_sem]) rfl ⟨?_,by (repeat (first|exact Bel.refl _|assumption|refine Bel.step_alloc ?_ _|refine Bel.step_drew ?_|refine Bel.step_drewN ?_ _|refine Bel.step_set ?_ (by simp <;>omega) _|refine Bel.trans ?_ (by assumption)))⟩;rw [HS.out];rfl
theorem sum_is (key t:ByteArray) (w:World) (hk:key.size≤4611686018427387904) (ht:t.size≤4611686018427387000):
  Calls Tryz.prog 221 #[.string key,.string t] w (RHash w (sipSum key t)):=by
 obtain ⟨X,hX⟩:∃X,X=sipSum key t:=⟨_,rfl⟩;have HX:=Hid.mk hX;rw [←hX];clear hX;have hk0:=fun wx=>word_is key 0 wx hk (by omega)
 have hk8:=fun wx=>word_is key 8 wx hk (by omega)
 obtain ⟨k0,hk00⟩:∃k0,k0=wordF key 0:=⟨_,rfl⟩;obtain ⟨k8,hk80⟩:∃k8,k8=wordF key 8:=⟨_,rfl⟩;rw [←hk00] at hk0;rw [←hk80] at hk8;have HK0:=Hid.mk hk00;have HK8:=Hid.mk hk80;clear hk00 hk80;go_enter Tryz.func221,Tryz.ntmps221;go_wp2_with fail;refine (hk0 _).mono ?_;rintro e w' ⟨rfl,rfl⟩;go_wp2_with fail;refine (hk8 _).mono ?_;rintro e w' ⟨rfl,rfl⟩;clear hk0 hk8;go_wp2_with fail;refine (begin_is _ _ _).mono ?_;rintro e w1 ⟨rfl,hb1⟩;obtain ⟨s0,hs0⟩:∃s0,s0=sipBegin k0 k8:=⟨_,rfl⟩;have H0:=Hid.mk hs0;rw [←hs0];clear hs0;obtain ⟨q,hq⟩:∃q:Nat,q=t.size / 8:=⟨_,rfl⟩;have hq1:(t.size:Int) / 8=(q:Int):=by omega
 have HQ:=Hid.mk hq;have hq2:8 * q≤t.size:=by omega
 clear hq;have hw1:=hb1.size;go_wp2;obtain ⟨p,hp⟩:∃p,p=w1.heap.size:=⟨_,rfl⟩;obtain ⟨w2,hw2⟩:∃w2,w2=w1.alloc (.cells #[.int .u64 s0.a,.int .u64 s0.b,.int .u64 s0.c,.int .u64 s0.d] 250):=⟨_,rfl⟩
 have hA:StAt w2 p s0:=by
  subst hw2 hp;exact ⟨⟨by simp,by simp,by simp,by simp⟩,by simp,by simp,by simp,by simp⟩
 have hb2:Bel w w2:=by subst hw2;exact hb1.step_alloc _
 rw [←hw2,←hp];have hpw:w.heap.size≤p:=by omega
 clear hw2 hp;go_loopg [7] q (fun r i wr=>∃k:Nat,r=q - k∧k≤q∧i= .int .i64 (8 * k)∧Bel w wr∧StAt wr p (sipTo t s0 k))
 case atStart=>exact ⟨0,by omega,by omega,by go_num,hb2,hA⟩
 case round=>
  obtain ⟨k,hr,hkq,rfl,hb,hA⟩:=hrel;have hwd:=fun wx=>word_is t (8 * k) wx (by omega) (by omega)
  rw [show (((8 * k:Nat)):Int)=8 * (k:Int) from by omega] at hwd;obtain ⟨wd,hwd0⟩:∃wd,wd=wordF t (8 * k):=⟨_,rfl⟩;obtain ⟨sk,hsk⟩:∃sk,sk=sipTo t s0 k:=⟨_,rfl⟩;rw [←hwd0] at hwd;rw [←hsk] at hA;have HS:Hid (sipTo t s0 (k+1)=sk.take wd):=by rw [hsk,hwd0];rfl
  have HW:=Hid.mk hwd0;have HK:=Hid.mk hsk;clear hwd0 hsk;by_cases hlt:k<q
  ·have hd:decide (8 * (k:Int)<8 * (q:Int))=true:=decide_eq_true (by omega);have hd':decide (8 * (k:Int)<(t.size:Int) - (t.size:Int) % 8)=true:=decide_eq_true (by omega);go_wp2_with fail;refine (hwd _).mono ?_;rintro e w' ⟨rfl,rfl⟩;go_wp2_with fail;refine (take_is p _ _ _ hA).mono ?_;rintro e w3 ⟨rfl,hb3,hA3⟩;have hbb:Bel w w3:=But.belTo hb hb3 (by simpa using hpw);go_wp2;go_roundg (q - (k+1))
   case measure=>omega
   case rel=>exact ⟨k+1,rfl,by omega,by go_num,hbb,hA3.is HS.out.symm⟩
  ·have hd:decide (8 * (k:Int)<8 * (q:Int))=false:=decide_eq_false (by omega);have hd':decide (8 * (k:Int)<(t.size:Int) - (t.size:Int) % 8)=false:=decide_eq_false (by omega);obtain rfl:k=q:=by omega
   rw [show 8 * (k:Int)=(t.size:Int) - (t.size:Int) % 8 from by omega] at hwd;go_wp2_with fail;refine (hwd _).mono ?_;rintro e w' ⟨rfl,rfl⟩;go_wp2_with fail;refine (take_is p _ _ _ hA).mono ?_;rintro e w3 ⟨rfl,hb3,hA3⟩;have hbb:Bel w w3:=But.belTo hb hb3 (by simpa using hpw);obtain ⟨sT,hsT⟩:∃sT,sT=sk.take (bits .or .u64 wd (IntKind.u64.wrap ((t.size:Int) * 72057594037927936))):=⟨_,rfl⟩;rw [←hsT] at hA3;have HT:=Hid.mk hsT;clear hsT hb3 hwd hA hd hd';obtain ⟨⟨h0,h1,h2,h3⟩,f0,f1,f2,f3⟩:=hA3;obtain ⟨a,b,c,d⟩:=sT;simp only at h0 h1 h2 h3;go_wp2;obtain ⟨w4,hw4⟩:∃w4,w4=w3.setCell ⟨p,2,none⟩ (.int .u64 (bits .xor .u64 c 255)):=⟨_,rfl⟩;obtain ⟨sU,hsU⟩:∃sU:S4,sU=⟨a,b,bits .xor .u64 c 255,d⟩:=⟨_,rfl⟩;have hA4:StAt w4 p sU:=by rw [hw4,hsU];exact StAt.set2 (s:=⟨a,b,c,d⟩) ⟨⟨h0,h1,h2,h3⟩,f0,f1,f2,f3⟩ _
   have hb4:Bel w w4:=by rw [hw4];exact hbb.step_set hpw _
   rw [←hw4];have HU:=Hid.mk hsU;clear hw4 hsU h0 h1 h2 h3 f0 f1 f2 f3
   have HX2:Hid (X=bits .xor .u64 (bits .xor .u64 (bits .xor .u64 (rndN 4 sU).a (rndN 4 sU).b) (rndN 4 sU).c) (rndN 4 sU).d):=by
    have e1:sk.take (bits .or .u64 (wordF t (8 * (t.size / 8))) ((t.size:Int) * 72057594037927936 % 18446744073709551616))=⟨a,b,c,d⟩:=by
     rw [←HQ.out,←HW.out,HT.out,IntKind.wrap_u64]
    have e2:sipTo t (sipBegin (wordF key 0) (wordF key 8)) (t.size / 8)=sk:=by rw [←HQ.out,←HK0.out,←HK8.out,←H0.out,HK.out]
    unfold Hid;rw [HX.out,HU.out];simp only [sipSum,e2,e1];rfl
   go_loopg [8] 4 (fun r i wz=>∃n:Nat,r=4 - n∧n≤4∧i= .int .i64 n∧Bel w wz∧StAt wz p (rndN n sU))
   case atStart=>exact ⟨0,by omega,by omega,rfl,hb4,hA4⟩
   case round=>
    obtain ⟨n,hr2,hn,rfl,hbz,hAz⟩:=hrel;obtain ⟨sn,hsn⟩:∃sn,sn=rndN n sU:=⟨_,rfl⟩;rw [←hsn] at hAz;have HN:=Hid.mk hsn;clear hsn;by_cases h4:n<4
    ·go_wp2_with fail;refine (round_is p _ _ hAz).mono ?_;rintro e w5 ⟨rfl,hb5,hA5⟩;have hbb5:Bel w w5:=But.belTo hbz hb5 (by simpa using hpw);go_wp2;go_roundg (4 - (n+1))
     case measure=>omega
     case rel=>exact ⟨n+1,rfl,by omega,by go_num,hbb5,hA5.is (by rw [HN.out];rfl)⟩
    ·obtain rfl:n=4:=by omega
     rw [←HN.out] at HX2;obtain ⟨⟨h0,h1,h2,h3⟩,f0,f1,f2,f3⟩:=hAz;obtain ⟨a5,b5,c5,d5⟩:=sn;simp only at h0 h1 h2 h3 HX2;go_wp2;go_ret;exact ⟨ret_u64 HX2.out.symm,hbz⟩
end Go.Proofs.YtpapdkhjdelfcabGreat
