import Derived.Test.YtpapdkhjdelfcabGreatLAA
import Derived.Deep.RegionWith
import Derived.Deep.DeepCutAuto
import Derived.Deep.LoopGhost
import Derived.Laws.IdiomStrings
import Derived.Laws.OwnMore
namespace Go.Proofs.YtpapdkhjdelfcabGreat
open Go.RowKit
set_option maxRecDepth 100000
set_option maxHeartbeats 4000000
theorem Nc {a b:Int} (h:a=b):Ending.returned (.int .u64 a)= .returned (.int .u64 b):=by rw [h]
theorem Ik (x:Int) (n:Nat) (w:World) (hn:n≤64):
  Calls Tryz.prog 239 #[.int .u64 x,.int .u64 n] w fun e w'=>e= .returned (.int .u64 (Ca x n))∧w=w':=by
 have e1:((n:Int)).toNat=n:=rfl;have e2:(64 - (n:Int)).toNat=64 - n:=by omega
 go_enter Tryz.func239,Tryz.ntmps239;go_wp2;go_ret;refine ⟨Nc ?_,rfl⟩;rw [IntKind.wrap_u64];rfl
def AI (w:World) (p:Nat) (s:S4):Prop:=(w.cell? ⟨p,0,none⟩=some (.int .u64 s.a)∧w.cell? ⟨p,1,none⟩=some (.int .u64 s.b)∧w.cell? ⟨p,2,none⟩=some (.int .u64 s.c)∧w.cell? ⟨p,3,none⟩=some (.int .u64 s.d))∧w.frozen? ⟨p,0,none⟩=false∧w.frozen? ⟨p,1,none⟩=false∧w.frozen? ⟨p,2,none⟩=false∧w.frozen? ⟨p,3,none⟩=false
theorem AI.later {a w:World} {p:Nat} {s:S4} (h:AI a p s) (k:Aa a w):AI w p s:=by
 obtain ⟨⟨h0,h1,h2,h3⟩,f0,f1,f2,f3⟩:=h;exact ⟨⟨k.cell h0,k.cell h1,k.cell h2,k.cell h3⟩,k.frozen h0 f0,k.frozen h1 f1,k.frozen h2 f2,k.frozen h3 f3⟩
theorem AI.drew {w:World} {p:Nat} {s:S4} (h:AI w p s):AI w.drew p s:=h.later ((jD w).step_drew)
theorem AI.set0 {w:World} {p:Nat} {s:S4} (h:AI w p s) (x:Int):AI (w.setCell ⟨p,0,none⟩ (.int .u64 x)) p ⟨x,s.b,s.c,s.d⟩:=by
 obtain ⟨⟨h0,h1,h2,h3⟩,f0,f1,f2,f3⟩:=h;exact ⟨⟨Bc h0,by rw [Ad (by simp)];exact h1,by rw [Ad (by simp)];exact h2,by rw [Ad (by simp)];exact h3⟩,by rw [Ag];exact f0,by rw [Ag];exact f1,by rw [Ag];exact f2,by rw [Ag];exact f3⟩
theorem AI.set1 {w:World} {p:Nat} {s:S4} (h:AI w p s) (x:Int):AI (w.setCell ⟨p,1,none⟩ (.int .u64 x)) p ⟨s.a,x,s.c,s.d⟩:=by
 obtain ⟨⟨h0,h1,h2,h3⟩,f0,f1,f2,f3⟩:=h;exact ⟨⟨by rw [Ad (by simp)];exact h0,Bc h1,by rw [Ad (by simp)];exact h2,by rw [Ad (by simp)];exact h3⟩,by rw [Ag];exact f0,by rw [Ag];exact f1,by rw [Ag];exact f2,by rw [Ag];exact f3⟩
theorem AI.set2 {w:World} {p:Nat} {s:S4} (h:AI w p s) (x:Int):AI (w.setCell ⟨p,2,none⟩ (.int .u64 x)) p ⟨s.a,s.b,x,s.d⟩:=by
 obtain ⟨⟨h0,h1,h2,h3⟩,f0,f1,f2,f3⟩:=h;exact ⟨⟨by rw [Ad (by simp)];exact h0,by rw [Ad (by simp)];exact h1,Bc h2,by rw [Ad (by simp)];exact h3⟩,by rw [Ag];exact f0,by rw [Ag];exact f1,by rw [Ag];exact f2,by rw [Ag];exact f3⟩
theorem AI.set3 {w:World} {p:Nat} {s:S4} (h:AI w p s) (x:Int):AI (w.setCell ⟨p,3,none⟩ (.int .u64 x)) p ⟨s.a,s.b,s.c,x⟩:=by
 obtain ⟨⟨h0,h1,h2,h3⟩,f0,f1,f2,f3⟩:=h;exact ⟨⟨by rw [Ad (by simp)];exact h0,by rw [Ad (by simp)];exact h1,by rw [Ad (by simp)];exact h2,Bc h3⟩,by rw [Ag];exact f0,by rw [Ag];exact f1,by rw [Ag];exact f2,by rw [Ag];exact f3⟩
theorem AI.is {w:World} {p:Nat} {s t:S4} (h:AI w p s) (e:s=t):AI w p t:=e ▸ h
def Eh (w:World) (p:Nat) (s:S4) (w':World):Prop:=Ab [p] w w'∧AI w' p s
def JM (w:World) (p:Nat) (s:S4) (e:Ending) (w':World):Prop:=e= .returned (.tuple #[])∧Eh w p s w'
def CW (s:S4):S4:=⟨((s.a+s.b) % 18446744073709551616),s.b,s.c,s.d⟩
def Dp (s:S4):S4:=⟨s.a,(bits .xor .u64 (Ca s.b 13) s.a),s.c,s.d⟩
def DI (s:S4):S4:=⟨(Ca s.a 32),s.b,s.c,s.d⟩
def Ec (s:S4):S4:=⟨s.a,s.b,((s.c+s.d) % 18446744073709551616),s.d⟩
def Fd (s:S4):S4:=⟨s.a,s.b,s.c,(bits .xor .u64 (Ca s.d 16) s.c)⟩
def F1 (s:S4):S4:=⟨((s.a+s.d) % 18446744073709551616),s.b,s.c,s.d⟩
def Gw (s:S4):S4:=⟨s.a,s.b,s.c,(bits .xor .u64 (Ca s.d 21) s.a)⟩
def Hz (s:S4):S4:=⟨s.a,s.b,((s.c+s.b) % 18446744073709551616),s.d⟩
def KN (s:S4):S4:=⟨s.a,(bits .xor .u64 (Ca s.b 17) s.c),s.c,s.d⟩
def ON (s:S4):S4:=⟨s.a,s.b,(Ca s.c 32),s.d⟩
theorem WX (s:S4):ON (KN (Hz (Gw (F1 (Fd (Ec (DI (Dp (CW (s))))))))))=s.round:=rfl
theorem KQ (p:Nat) (s:S4) (w:World) (h:AI w p s):
  Calls Tryz.prog 234 #[.pointer (some ⟨p,0,none⟩)] w (JM w p s.round):=by
 have hS:Eh w p s w:=⟨Ab.refl _ _,h⟩;clear h;rw [←WX];go_enter Tryz.func234,Tryz.ntmps234;go_upto_region 0 with fail
 go_cut [] (fun wc=>Eh w p (CW (s)) wc)
 case first=>
  obtain ⟨hb,⟨h0,h1,h2,h3⟩,f0,f1,f2,f3⟩:=hS;generalize s=s0 at *;obtain ⟨a,b,c,d⟩:=s0;simp only at h0 h1 h2 h3;go_region
  all_goals
   go_wp2_with fail;go_meet
   case rel=>exact ⟨by (repeat (first|exact Ab.refl _ _|assumption|refine Ab.drew ?_|refine Ab.drewN ?_ _|refine Ab.alloc ?_ _|refine Ab.set ?_ (by simp) _|refine Ab.trans ?_ (by assumption)|refine Ab.step ?_ (by assumption))),AI.is (AI.drew (AI.set0 (s:=⟨a,b,c,d⟩) ⟨⟨h0,h1,h2,h3⟩,f0,f1,f2,f3⟩ _)) (by simp [CW,IntKind.wrap_u64])⟩
 case rest=>
  replace hS:=hcut;clear hcut;go_upto_region 1 with fail
  go_cut [] (fun wc=>Eh w p (Dp (CW (s))) wc)
  case first=>
   obtain ⟨hb,⟨h0,h1,h2,h3⟩,f0,f1,f2,f3⟩:=hS;generalize CW (s)=s0 at *;obtain ⟨a,b,c,d⟩:=s0;simp only at h0 h1 h2 h3;go_region_with (go_at_call 239;refine (Ik _ 13 _ (by decide)).mono ?_;rintro e w1 ⟨rfl,rfl⟩)
   all_goals
    go_wp2_with fail;go_meet
    case rel=>exact ⟨by (repeat (first|exact Ab.refl _ _|assumption|refine Ab.drew ?_|refine Ab.drewN ?_ _|refine Ab.alloc ?_ _|refine Ab.set ?_ (by simp) _|refine Ab.trans ?_ (by assumption)|refine Ab.step ?_ (by assumption))),AI.is (AI.drew (AI.set1 (s:=⟨a,b,c,d⟩) ⟨⟨h0,h1,h2,h3⟩,f0,f1,f2,f3⟩ _)) (by simp [Dp])⟩
  case rest=>
   replace hS:=hcut;clear hcut;go_upto_region 2 with fail
   go_cut [] (fun wc=>Eh w p (DI (Dp (CW (s)))) wc)
   case first=>
    obtain ⟨hb,⟨h0,h1,h2,h3⟩,f0,f1,f2,f3⟩:=hS;generalize Dp (CW (s))=s0 at *;obtain ⟨a,b,c,d⟩:=s0;simp only at h0 h1 h2 h3;go_wp2_with (go_at_call 239;refine (Ik _ 32 _ (by decide)).mono ?_;rintro e w1 ⟨rfl,rfl⟩)
    all_goals
     go_wp2_with fail;go_meet
     case rel=>exact ⟨by (repeat (first|exact Ab.refl _ _|assumption|refine Ab.drew ?_|refine Ab.drewN ?_ _|refine Ab.alloc ?_ _|refine Ab.set ?_ (by simp) _|refine Ab.trans ?_ (by assumption)|refine Ab.step ?_ (by assumption))),AI.is (AI.drew (AI.set0 (s:=⟨a,b,c,d⟩) ⟨⟨h0,h1,h2,h3⟩,f0,f1,f2,f3⟩ _)) (by simp [DI])⟩
   case rest=>
    replace hS:=hcut;clear hcut;go_upto_region 3 with fail
    go_cut [] (fun wc=>Eh w p (Ec (DI (Dp (CW (s))))) wc)
    case first=>
     obtain ⟨hb,⟨h0,h1,h2,h3⟩,f0,f1,f2,f3⟩:=hS;generalize DI (Dp (CW (s)))=s0 at *;obtain ⟨a,b,c,d⟩:=s0;simp only at h0 h1 h2 h3;go_region
     all_goals
      go_wp2_with fail;go_meet
      case rel=>exact ⟨by (repeat (first|exact Ab.refl _ _|assumption|refine Ab.drew ?_|refine Ab.drewN ?_ _|refine Ab.alloc ?_ _|refine Ab.set ?_ (by simp) _|refine Ab.trans ?_ (by assumption)|refine Ab.step ?_ (by assumption))),AI.is (AI.drew (AI.set2 (s:=⟨a,b,c,d⟩) ⟨⟨h0,h1,h2,h3⟩,f0,f1,f2,f3⟩ _)) (by simp [Ec,IntKind.wrap_u64])⟩
    case rest=>
     replace hS:=hcut;clear hcut;go_upto_region 4 with fail
     go_cut [] (fun wc=>Eh w p (Fd (Ec (DI (Dp (CW (s)))))) wc)
     case first=>
      obtain ⟨hb,⟨h0,h1,h2,h3⟩,f0,f1,f2,f3⟩:=hS;generalize Ec (DI (Dp (CW (s))))=s0 at *;obtain ⟨a,b,c,d⟩:=s0;simp only at h0 h1 h2 h3;go_region_with (go_at_call 239;refine (Ik _ 16 _ (by decide)).mono ?_;rintro e w1 ⟨rfl,rfl⟩)
      all_goals
       go_wp2_with fail;go_meet
       case rel=>exact ⟨by (repeat (first|exact Ab.refl _ _|assumption|refine Ab.drew ?_|refine Ab.drewN ?_ _|refine Ab.alloc ?_ _|refine Ab.set ?_ (by simp) _|refine Ab.trans ?_ (by assumption)|refine Ab.step ?_ (by assumption))),AI.is (AI.drew (AI.set3 (s:=⟨a,b,c,d⟩) ⟨⟨h0,h1,h2,h3⟩,f0,f1,f2,f3⟩ _)) (by simp [Fd])⟩
     case rest=>
      replace hS:=hcut;clear hcut;go_upto_region 5 with fail
      go_cut [] (fun wc=>Eh w p (F1 (Fd (Ec (DI (Dp (CW (s))))))) wc)
      case first=>
       obtain ⟨hb,⟨h0,h1,h2,h3⟩,f0,f1,f2,f3⟩:=hS;generalize Fd (Ec (DI (Dp (CW (s)))))=s0 at *;obtain ⟨a,b,c,d⟩:=s0;simp only at h0 h1 h2 h3;go_region
       all_goals
        go_wp2_with fail;go_meet
        case rel=>exact ⟨by (repeat (first|exact Ab.refl _ _|assumption|refine Ab.drew ?_|refine Ab.drewN ?_ _|refine Ab.alloc ?_ _|refine Ab.set ?_ (by simp) _|refine Ab.trans ?_ (by assumption)|refine Ab.step ?_ (by assumption))),AI.is (AI.drew (AI.set0 (s:=⟨a,b,c,d⟩) ⟨⟨h0,h1,h2,h3⟩,f0,f1,f2,f3⟩ _)) (by simp [F1,IntKind.wrap_u64])⟩
      case rest=>
       replace hS:=hcut;clear hcut;go_upto_region 6 with fail
       go_cut [] (fun wc=>Eh w p (Gw (F1 (Fd (Ec (DI (Dp (CW (s)))))))) wc)
       case first=>
        obtain ⟨hb,⟨h0,h1,h2,h3⟩,f0,f1,f2,f3⟩:=hS;generalize F1 (Fd (Ec (DI (Dp (CW (s))))))=s0 at *;obtain ⟨a,b,c,d⟩:=s0;simp only at h0 h1 h2 h3;go_region_with (go_at_call 239;refine (Ik _ 21 _ (by decide)).mono ?_;rintro e w1 ⟨rfl,rfl⟩)
        all_goals
         go_wp2_with fail;go_meet
         case rel=>exact ⟨by (repeat (first|exact Ab.refl _ _|assumption|refine Ab.drew ?_|refine Ab.drewN ?_ _|refine Ab.alloc ?_ _|refine Ab.set ?_ (by simp) _|refine Ab.trans ?_ (by assumption)|refine Ab.step ?_ (by assumption))),AI.is (AI.drew (AI.set3 (s:=⟨a,b,c,d⟩) ⟨⟨h0,h1,h2,h3⟩,f0,f1,f2,f3⟩ _)) (by simp [Gw])⟩
       case rest=>
        replace hS:=hcut;clear hcut;go_upto_region 7 with fail
        go_cut [] (fun wc=>Eh w p (Hz (Gw (F1 (Fd (Ec (DI (Dp (CW (s))))))))) wc)
        case first=>
         obtain ⟨hb,⟨h0,h1,h2,h3⟩,f0,f1,f2,f3⟩:=hS;generalize Gw (F1 (Fd (Ec (DI (Dp (CW (s)))))))=s0 at *;obtain ⟨a,b,c,d⟩:=s0;simp only at h0 h1 h2 h3;go_region
         all_goals
          go_wp2_with fail;go_meet
          case rel=>exact ⟨by (repeat (first|exact Ab.refl _ _|assumption|refine Ab.drew ?_|refine Ab.drewN ?_ _|refine Ab.alloc ?_ _|refine Ab.set ?_ (by simp) _|refine Ab.trans ?_ (by assumption)|refine Ab.step ?_ (by assumption))),AI.is (AI.drew (AI.set2 (s:=⟨a,b,c,d⟩) ⟨⟨h0,h1,h2,h3⟩,f0,f1,f2,f3⟩ _)) (by simp [Hz,IntKind.wrap_u64])⟩
        case rest=>
         replace hS:=hcut;clear hcut;go_upto_region 8 with fail
         go_cut [] (fun wc=>Eh w p (KN (Hz (Gw (F1 (Fd (Ec (DI (Dp (CW (s)))))))))) wc)
         case first=>
          obtain ⟨hb,⟨h0,h1,h2,h3⟩,f0,f1,f2,f3⟩:=hS;generalize Hz (Gw (F1 (Fd (Ec (DI (Dp (CW (s))))))))=s0 at *;obtain ⟨a,b,c,d⟩:=s0;simp only at h0 h1 h2 h3;go_region_with (go_at_call 239;refine (Ik _ 17 _ (by decide)).mono ?_;rintro e w1 ⟨rfl,rfl⟩)
          all_goals
           go_wp2_with fail;go_meet
           case rel=>exact ⟨by (repeat (first|exact Ab.refl _ _|assumption|refine Ab.drew ?_|refine Ab.drewN ?_ _|refine Ab.alloc ?_ _|refine Ab.set ?_ (by simp) _|refine Ab.trans ?_ (by assumption)|refine Ab.step ?_ (by assumption))),AI.is (AI.drew (AI.set1 (s:=⟨a,b,c,d⟩) ⟨⟨h0,h1,h2,h3⟩,f0,f1,f2,f3⟩ _)) (by simp [KN])⟩
         case rest=>
          replace hS:=hcut;clear hcut;go_upto_region 9 with fail
          obtain ⟨hb,⟨h0,h1,h2,h3⟩,f0,f1,f2,f3⟩:=hS;generalize KN (Hz (Gw (F1 (Fd (Ec (DI (Dp (CW (s)))))))))=s0 at *;obtain ⟨a,b,c,d⟩:=s0;simp only at h0 h1 h2 h3;go_wp2_with (go_at_call 239;refine (Ik _ 32 _ (by decide)).mono ?_;rintro e w1 ⟨rfl,rfl⟩);go_end0;exact ⟨rfl,by (repeat (first|exact Ab.refl _ _|assumption|refine Ab.drew ?_|refine Ab.drewN ?_ _|refine Ab.alloc ?_ _|refine Ab.set ?_ (by simp) _|refine Ab.trans ?_ (by assumption)|refine Ab.step ?_ (by assumption))),AI.is (AI.drew (AI.set2 (s:=⟨a,b,c,d⟩) ⟨⟨h0,h1,h2,h3⟩,f0,f1,f2,f3⟩ _)) (by simp [ON])⟩
theorem LS (t:ByteArray) (f:Nat) (w:World) (ht:t.size≤4611686018427387904) (hf:f≤4611686018427387904):
  Calls Tryz.prog 232 #[.string t,.int .i64 f] w fun e w'=>e= .returned (.int .u64 (BE t f))∧w=w':=by
 go_enter Tryz.func232,Tryz.ntmps232;go_wp2;go_loopg [5,6] 8 (fun r acc i wr=>w=wr∧∃n:Nat,r=8 - n∧n≤8∧i= .int .i64 (7 - n)∧acc= .int .u64 (BI t f n))
 case atStart=>exact ⟨rfl,0,by omega,by omega,rfl,rfl⟩
 case round=>
  obtain ⟨rfl,n,hr,hn,rfl,rfl⟩:=hrel;by_cases h8:n<8
  ·have hge:decide ((7 - (n:Int))≥0)=true:=jL (by omega);obtain ⟨j,hj⟩:∃j:Nat,j=f+(7 - n):=⟨_,rfl⟩;have hji:(f:Int)+(7 - (n:Int))=(j:Int):=by omega
   have HS:Hid (BI t f (n+1)=if f+(7 - n)<t.size then bits .or .u64 (BI t f n * 256 % 18446744073709551616) (AQ t (f+(7 - n))) else BI t f n * 256 % 18446744073709551616):=rfl;rw [←hj] at HS;have HJ:=jp hj;clear hj;generalize BI t f n=acc at *;by_cases hjt:j<t.size
   ·rw [if_pos hjt] at HS;have hd:decide ((j:Int)<(t.size:Int))=true:=jL (by omega);have hbv:Hid (AQ t j=(t[j].toNat:Int)):=by rw [AQ,dif_pos hjt];rfl
    have hb:=(t[j]).toNat_lt;go_wp2;go_roundg (8 - (n+1))
    case measure=>omega
    case rel=>exact ⟨rfl,n+1,rfl,by omega,by go_num,by rw [HS.out,hbv.out,IntKind.wrap_u64]⟩
   ·rw [if_neg hjt] at HS;have hd:decide ((j:Int)<(t.size:Int))=false:=jK (by omega);go_wp2;go_roundg (8 - (n+1))
    case measure=>omega
    case rel=>exact ⟨rfl,n+1,rfl,by omega,by go_num,by rw [HS.out,IntKind.wrap_u64]⟩
  ·have h88:n=8:=by omega
   subst h88;go_wp2;go_ret;exact ⟨rfl,rfl⟩
theorem JM.of {w w1 w2:World} {p:Nat} {s:S4} (h:Ab [p] w w1) (k:Eh w1 p s w2):Eh w p s w2:=⟨h.trans k.1,k.2⟩
theorem OZ (p:Nat) (s:S4) (m:Int) (w:World) (h:AI w p s):
  Calls Tryz.prog 233 #[.pointer (some ⟨p,0,none⟩),.int .u64 m] w (JM w p (s.take m)):=by
 obtain ⟨⟨h0,h1,h2,h3⟩,f0,f1,f2,f3⟩:=h;obtain ⟨a0,b0,c0,d0⟩:=s;simp only at h0 h1 h2 h3;go_enter Tryz.func233,Tryz.ntmps233;go_wp2_with fail;have hA:AI (w.setCell ⟨p,3,none⟩ (.int .u64 (bits .xor .u64 d0 m))) p ⟨a0,b0,c0,bits .xor .u64 d0 m⟩:=AI.set3 (s:=⟨a0,b0,c0,d0⟩) ⟨⟨h0,h1,h2,h3⟩,f0,f1,f2,f3⟩ _;have hb:Ab [p] w (w.setCell ⟨p,3,none⟩ (.int .u64 (bits .xor .u64 d0 m))):=by (repeat (first|exact Ab.refl _ _|assumption|refine Ab.drew ?_|refine Ab.drewN ?_ _|refine Ab.alloc ?_ _|refine Ab.set ?_ (by simp) _|refine Ab.trans ?_ (by assumption)|refine Ab.step ?_ (by assumption)))
 refine (KQ p _ _ hA).mono ?_;rintro e w2 ⟨rfl,hS2⟩;go_wp2_with fail;refine (KQ p _ _ hS2.2).mono ?_;rintro e w3 ⟨rfl,hS3⟩;obtain ⟨hb3,hA3⟩:=JM.of hb (JM.of hS2.1 hS3);have HE:Hid (S4.take ⟨a0,b0,c0,d0⟩ m=⟨bits .xor .u64 (S4.round (S4.round ⟨a0,b0,c0,bits .xor .u64 d0 m⟩)).a m,(S4.round (S4.round ⟨a0,b0,c0,bits .xor .u64 d0 m⟩)).b,(S4.round (S4.round ⟨a0,b0,c0,bits .xor .u64 d0 m⟩)).c,(S4.round (S4.round ⟨a0,b0,c0,bits .xor .u64 d0 m⟩)).d⟩):=rfl;clear hS2 hS3 h0 h1 h2 h3 f0 f1 f2 f3;generalize S4.round (S4.round ⟨a0,b0,c0,bits .xor .u64 d0 m⟩)=s3 at *;obtain ⟨⟨h0,h1,h2,h3⟩,f0,f1,f2,f3⟩:=hA3;obtain ⟨a,b,c,d⟩:=s3;simp only at h0 h1 h2 h3 HE;go_wp2;go_end0;exact ⟨rfl,by (repeat (first|exact Ab.refl _ _|assumption|refine Ab.drew ?_|refine Ab.drewN ?_ _|refine Ab.alloc ?_ _|refine Ab.set ?_ (by simp) _|refine Ab.trans ?_ (by assumption)|refine Ab.step ?_ (by assumption))),(AI.set0 (s:=⟨a,b,c,d⟩) ⟨⟨h0,h1,h2,h3⟩,f0,f1,f2,f3⟩ _).is HE.out.symm⟩
def G8:Nat→S4→S4
 |0,s=>s
 |n+1,s=>(G8 n s).round
def Kd (w:World) (x:Int) (e:Ending) (w':World):Prop:=e= .returned (.int .u64 x)∧Aa w w'
def ST (w:World) (s:S4) (e:Ending) (w':World):Prop:=e= .returned (.agg #[.int .u64 s.a,.int .u64 s.b,.int .u64 s.c,.int .u64 s.d])∧Aa w w'
theorem WI (k l:Int) (w:World):Calls Tryz.prog 231 #[.int .u64 k,.int .u64 l] w (ST w (Dt k l)):=by
 obtain ⟨S,hS⟩:∃S,S=Dt k l:=⟨_,rfl⟩;have HS:=jp hS;rw [←hS];clear hS;go_enter Tryz.func231,Tryz.ntmps231;go_wp2;refine bodyPost_ret (v:= .agg #[.int .u64 (bits .xor .u64 k 8317987319222330741),.int .u64 (bits .xor .u64 l 7237128888997146477),.int .u64 (bits .xor .u64 k 7816392313619706465),.int .u64 (bits .xor .u64 l 8387220255154660723)]) (by simp [results,Tryz.results231,go_sem]) rfl ⟨?_,by solve_by_elim [jA,jB,jC,jD,jE]⟩;rw [HS.out];rfl
theorem WD (key t:ByteArray) (w:World) (hk:key.size≤4611686018427387904) (ht:t.size≤4611686018427387000):
  Calls Tryz.prog 221 #[.string key,.string t] w (Kd w (Cs key t)):=by
 obtain ⟨X,hX⟩:∃X,X=Cs key t:=⟨_,rfl⟩;have HX:=jp hX;rw [←hX];clear hX;have hk0:=fun wx=>LS key 0 wx hk (by omega)
 have hk8:=fun wx=>LS key 8 wx hk (by omega)
 obtain ⟨k0,hk00⟩:∃k0,k0=BE key 0:=⟨_,rfl⟩;obtain ⟨k8,hk80⟩:∃k8,k8=BE key 8:=⟨_,rfl⟩;rw [←hk00] at hk0;rw [←hk80] at hk8;have HK0:=jp hk00;have HK8:=jp hk80;clear hk00 hk80;go_enter Tryz.func221,Tryz.ntmps221;go_wp2_with fail;refine (hk0 _).mono ?_;rintro e w' ⟨rfl,rfl⟩;go_wp2_with fail;refine (hk8 _).mono ?_;rintro e w' ⟨rfl,rfl⟩;clear hk0 hk8;go_wp2_with fail;refine (WI _ _ _).mono ?_;rintro e w1 ⟨rfl,hb1⟩;obtain ⟨s0,hs0⟩:∃s0,s0=Dt k0 k8:=⟨_,rfl⟩;have H0:=jp hs0;rw [←hs0];clear hs0;obtain ⟨q,hq⟩:∃q:Nat,q=t.size / 8:=⟨_,rfl⟩;have hq1:(t.size:Int) / 8=(q:Int):=by omega
 have HQ:=jp hq;have hq2:8 * q≤t.size:=by omega
 clear hq;have hw1:=hb1.size;go_wp2;obtain ⟨p,hp⟩:∃p,p=w1.heap.size:=⟨_,rfl⟩;obtain ⟨w2,hw2⟩:∃w2,w2=w1.alloc (.cells #[.int .u64 s0.a,.int .u64 s0.b,.int .u64 s0.c,.int .u64 s0.d] 250):=⟨_,rfl⟩
 have hA:AI w2 p s0:=by
  subst hw2 hp;exact ⟨⟨by simp,by simp,by simp,by simp⟩,by simp,by simp,by simp,by simp⟩
 have hb2:Aa w w2:=by subst hw2;exact hb1.step_alloc _
 rw [←hw2,←hp];have hpw:w.heap.size≤p:=by omega
 clear hw2 hp;go_loopg [7] q (fun r i wr=>∃k:Nat,r=q - k∧k≤q∧i= .int .i64 (8 * k)∧Aa w wr∧AI wr p (CH t s0 k))
 case atStart=>exact ⟨0,by omega,by omega,by go_num,hb2,hA⟩
 case round=>
  obtain ⟨k,hr,hkq,rfl,hb,hA⟩:=hrel;have hwd:=fun wx=>LS t (8 * k) wx (by omega) (by omega)
  rw [show (((8 * k:Nat)):Int)=8 * (k:Int) from by omega] at hwd;obtain ⟨wd,hwd0⟩:∃wd,wd=BE t (8 * k):=⟨_,rfl⟩;obtain ⟨sk,hsk⟩:∃sk,sk=CH t s0 k:=⟨_,rfl⟩;rw [←hwd0] at hwd;rw [←hsk] at hA;have HS:Hid (CH t s0 (k+1)=sk.take wd):=by rw [hsk,hwd0];rfl
  have HW:=jp hwd0;have HK:=jp hsk;clear hwd0 hsk;by_cases hlt:k<q
  ·have hd:decide (8 * (k:Int)<8 * (q:Int))=true:=jL (by omega);have hd':decide (8 * (k:Int)<(t.size:Int) - (t.size:Int) % 8)=true:=jL (by omega);go_wp2_with fail;refine (hwd _).mono ?_;rintro e w' ⟨rfl,rfl⟩;go_wp2_with fail;refine (OZ p _ _ _ hA).mono ?_;rintro e w3 ⟨rfl,hb3,hA3⟩;have hbb:Aa w w3:=Ab.belTo hb hb3 (by simpa using hpw);go_wp2;go_roundg (q - (k+1))
   case measure=>omega
   case rel=>exact ⟨k+1,rfl,by omega,by go_num,hbb,hA3.is HS.out.symm⟩
  ·have hd:decide (8 * (k:Int)<8 * (q:Int))=false:=jK (by omega);have hd':decide (8 * (k:Int)<(t.size:Int) - (t.size:Int) % 8)=false:=jK (by omega);obtain rfl:k=q:=by omega
   rw [show 8 * (k:Int)=(t.size:Int) - (t.size:Int) % 8 from by omega] at hwd;go_wp2_with fail;refine (hwd _).mono ?_;rintro e w' ⟨rfl,rfl⟩;go_wp2_with fail;refine (OZ p _ _ _ hA).mono ?_;rintro e w3 ⟨rfl,hb3,hA3⟩;have hbb:Aa w w3:=Ab.belTo hb hb3 (by simpa using hpw);obtain ⟨sT,hsT⟩:∃sT,sT=sk.take (bits .or .u64 wd (IntKind.u64.wrap ((t.size:Int) * 72057594037927936))):=⟨_,rfl⟩;rw [←hsT] at hA3;have HT:=jp hsT;clear hsT hb3 hwd hA hd hd';obtain ⟨⟨h0,h1,h2,h3⟩,f0,f1,f2,f3⟩:=hA3;obtain ⟨a,b,c,d⟩:=sT;simp only at h0 h1 h2 h3;go_wp2;obtain ⟨w4,hw4⟩:∃w4,w4=w3.setCell ⟨p,2,none⟩ (.int .u64 (bits .xor .u64 c 255)):=⟨_,rfl⟩;obtain ⟨sU,hsU⟩:∃sU:S4,sU=⟨a,b,bits .xor .u64 c 255,d⟩:=⟨_,rfl⟩;have hA4:AI w4 p sU:=by rw [hw4,hsU];exact AI.set2 (s:=⟨a,b,c,d⟩) ⟨⟨h0,h1,h2,h3⟩,f0,f1,f2,f3⟩ _
   have hb4:Aa w w4:=by rw [hw4];exact hbb.step_set hpw _
   rw [←hw4];have HU:=jp hsU;clear hw4 hsU h0 h1 h2 h3 f0 f1 f2 f3
   have HX2:Hid (X=bits .xor .u64 (bits .xor .u64 (bits .xor .u64 (G8 4 sU).a (G8 4 sU).b) (G8 4 sU).c) (G8 4 sU).d):=by
    have e1:sk.take (bits .or .u64 (BE t (8 * (t.size / 8))) ((t.size:Int) * 72057594037927936 % 18446744073709551616))=⟨a,b,c,d⟩:=by
     rw [←HQ.out,←HW.out,HT.out,IntKind.wrap_u64]
    have e2:CH t (Dt (BE key 0) (BE key 8)) (t.size / 8)=sk:=by rw [←HQ.out,←HK0.out,←HK8.out,←H0.out,HK.out]
    unfold Hid;rw [HX.out,HU.out];simp only [Cs,e2,e1];rfl
   go_loopg [8] 4 (fun r i wz=>∃n:Nat,r=4 - n∧n≤4∧i= .int .i64 n∧Aa w wz∧AI wz p (G8 n sU))
   case atStart=>exact ⟨0,by omega,by omega,rfl,hb4,hA4⟩
   case round=>
    obtain ⟨n,hr2,hn,rfl,hbz,hAz⟩:=hrel;obtain ⟨sn,hsn⟩:∃sn,sn=G8 n sU:=⟨_,rfl⟩;rw [←hsn] at hAz;have HN:=jp hsn;clear hsn;by_cases h4:n<4
    ·go_wp2_with fail;refine (KQ p _ _ hAz).mono ?_;rintro e w5 ⟨rfl,hb5,hA5⟩;have hbb5:Aa w w5:=Ab.belTo hbz hb5 (by simpa using hpw);go_wp2;go_roundg (4 - (n+1))
     case measure=>omega
     case rel=>exact ⟨n+1,rfl,by omega,by go_num,hbb5,hA5.is (by rw [HN.out];rfl)⟩
    ·obtain rfl:n=4:=by omega
     rw [←HN.out] at HX2;obtain ⟨⟨h0,h1,h2,h3⟩,f0,f1,f2,f3⟩:=hAz;obtain ⟨a5,b5,c5,d5⟩:=sn;simp only at h0 h1 h2 h3 HX2;go_wp2;go_ret;exact ⟨Nc HX2.out.symm,hbz⟩
def IM (w:World) (v:Value) (l:List Nat):Prop:=Ap w v l.length (l.map fun (n:Nat)=>Value.int .i64 (n:Int))
theorem IM.open {w:World} {v:Value} {l:List Nat} (h:IM w v l):∃ao cap,v= .slice ao l.length cap∧∀j (hj:j<l.length),∃g,ao=some ⟨g,0,none⟩∧w.cell? ⟨g,j,none⟩=some (.int .i64 (l[j]:Int)):=by
 rcases h with ⟨h1,h2,_⟩|⟨g,cap,hv,hn,hg,hc⟩
 ·exact ⟨none,0,by rw [h1,h2],fun j hj=>by omega⟩
 ·exact ⟨_,cap,hv,fun j hj=>⟨g,rfl,hc j _ (by simp [hj])⟩⟩
def FK (b:UInt8):Value:= .int .u8 (b.toNat:Int)
theorem Pt (n:Nat):((UInt8.ofNat n).toNat:Int)=(n:Int) % 256:=by simp
theorem TW (letter:UInt8) (nums:List Nat) (k:Nat) (h:k<nums.length):CK letter (nums.take (k+1))=CK letter (nums.take k)++[UInt8.ofNat (nums[k] / 256),UInt8.ofNat nums[k]]:=by
 rw [jQ h,CK,List.flatMap_append,CK];simp
theorem UW (letter:UInt8) (nums:List Nat):(CK letter nums).length=1+2 * nums.length:=by
 induction nums with
 |nil=>rfl
 |cons n l ih=>simp only [CK,List.flatMap_cons,List.length_cons,jO,List.length_nil] at ih ⊢;omega
theorem Tg {w:World} {base:Nat} {v:Value} {l:List UInt8} (h:w.ownsRow base 5 1 v l.length (l.map FK)) (hl:0<l.length):
  (convert 105 9 v).run Tryz.prog w= .ok (.string ⟨l.toArray⟩) w:=by
 rcases h.2 with ⟨_,h0⟩|⟨g,cap,cur,hv,hg,hh,r⟩
 ·omega
 ·have hc:=h.cells (g:=g) (by rw [hv];rfl);rw [hv];refine run_convert_bytes_back w 105 9 5 _ cap l Tryz.underlying105 Tryz.underlying5 Tryz.underlying9 (fun j hj=>?_);exact hc j _ (by simp [hj,FK])
theorem F5 (key:ByteArray) (letter:UInt8) (nums:List Nat) (vN:Value) (t:ByteArray) (w:World) (hN:IM w vN nums) (hl:nums.length≤2) (hk:key.size≤4611686018427387904) (ht:t.size≤4611686018427386000):
  Calls Tryz.prog 184 #[.string key,.int .u8 (letter.toNat:Int),vN,.string t] w (Kd w (Al key letter nums t)):=by
 obtain ⟨i0,hi,hz0,hz1,hz2⟩:=info_parts Tryz.infoByte;obtain ⟨ao,cap,rfl,hc⟩:=hN.open;obtain ⟨X,hX⟩:∃X,X=Al key letter nums t:=⟨_,rfl⟩;have HX:=jp hX;rw [←hX];clear hX;go_enter Tryz.func184,Tryz.ntmps184;go_wp2;have hown:(w.alloc (.cells #[.int .u8 (letter.toNat:Int)] 5)).ownsRow w.heap.size 5 1 (.slice (some ⟨w.heap.size,0,none⟩) 1 1) 1 [.int .u8 (letter.toNat:Int)]:=World.ownsRow_lit w #[.int .u8 (letter.toNat:Int)] 1 (jH _) (by decide) rfl;go_loopg [9,16] nums.length (fun r vh n wr=>∃k:Nat,r=nums.length - k∧k≤nums.length∧n= .int .i64 k∧Aa w wr∧wr.ownsRow w.heap.size 5 1 vh (CK letter (nums.take k)).length ((CK letter (nums.take k)).map FK))
 case atStart=>exact ⟨0,by omega,by omega,rfl,by solve_by_elim [jA,jB,jC,jD,jE],hown⟩
 case round=>
  obtain ⟨k,hr,hkn,rfl,hb,hO⟩:=hrel;have HO:=jp hO;have hsz:=UW letter (nums.take k);have hsz2:(CK letter (nums.take k)).length≤5:=by rw [hsz];simp;omega
  have hsz1:0<(CK letter (nums.take k)).length:=by rw [hsz];omega
  clear hO hown hsz;have hwr:=hb.size;by_cases hlt:k<nums.length
  ·obtain ⟨g,rfl,c0⟩:=hc k hlt;have c0':=hb.cell c0;have HS:=jp (TW letter nums k hlt);clear hc c0;generalize nums[k]=nk at *;generalize CK letter (nums.take k)=hd at *
   have e1:Hid (FK (UInt8.ofNat (nk / 256))= .int .u8 ((nk:Int) / 256 % 256)):=by
    show FK (UInt8.ofNat (nk / 256))=_;rw [FK,Pt,Int.natCast_ediv];rfl
   have e2:Hid (FK (UInt8.ofNat nk)= .int .u8 ((nk:Int) % 256)):=by
    show FK (UInt8.ofNat nk)=_;rw [FK,Pt]
   go_wp2_with (first|(at_builtin;refine wpList_append_own _ rfl _ _ 105 rfl w.heap.size 5 i0 (.int .u8 0) 1 1 Tryz.underlying105 hi hz0 hz1 hz2 rfl (by decide) _ hd.length (hd.map FK) rfl ?p1 ⟨wr.heap.size,0,none⟩ 2 2 [.int .u8 ((nk:Int) / 256 % 256),.int .u8 ((nk:Int) % 256)] rfl rfl ?d1 ?d2 ?d3 ?d4 ?d5 ?_))
   case p1=>exact World.ownsRow.alloc HO.out _
   try (case d1=>exact C8 _ _ _ _ _ (by simp))
   case d2=>first|exact ⟨rfl,rfl⟩|exact Df rfl rfl
   case d3=>unfold maxLen;omega
   case d4=>omega
   case d5=>first|omega|(simp;omega)
   intro v2 w2 hown2 hgrow2 _;have hb2:Aa w w2:=(hb.step_alloc _).grown hgrow2 (fun g hg=>(World.ownsRow.lt HO.out g hg).1)
   have H2:Hid (w2.ownsRow w.heap.size 5 1 v2 (CK letter (nums.take (k+1))).length ((CK letter (nums.take (k+1))).map FK)):=by
    show w2.ownsRow _ _ _ _ _ _;rw [HS.out,List.map_append,jO];simp only [List.map_cons,List.map_nil,e1.out,e2.out];exact hown2
   clear hown2 hgrow2 e1 e2;go_wp2;go_roundg (nums.length - (k+1))
   case measure=>omega
   case rel=>exact ⟨k+1,rfl,by omega,by go_num,hb2,H2.out⟩
  ·have hnn:nums.take k=nums:=jR (by omega);rw [hnn] at HO hsz1 hsz2;clear hc hnn;have hcv:=Tg HO.out hsz1
   have hsum := fun wx => WD key (ByteArray.mk (CK letter nums).toArray ++ t) wx hk (by
     rw [jY]
     have : (ByteArray.mk (CK letter nums).toArray).size = (CK letter nums).length := by simp [ByteArray.size]
     rw [this]; omega)
   rw [show Cs key (ByteArray.mk (CK letter nums).toArray++t)=X from HX.out.symm] at hsum
   have hds:(ByteArray.mk (CK letter nums).toArray).size≤5:=by
    have:(ByteArray.mk (CK letter nums).toArray).size=(CK letter nums).length:=by simp [ByteArray.size]
    rw [this];omega
   generalize (ByteArray.mk (CK letter nums).toArray)=hd at *;go_wp2_with fail;refine (hsum _).mono ?_;rintro e w2 ⟨rfl,hb2⟩;go_wp2;go_ret;exact ⟨rfl,hb.trans hb2⟩
end Go.Proofs.YtpapdkhjdelfcabGreat
