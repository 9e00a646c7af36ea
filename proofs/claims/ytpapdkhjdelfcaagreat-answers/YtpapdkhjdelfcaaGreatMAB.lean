import Derived.Test.YtpapdkhjdelfcaaGreatMAA
import Derived.Deep.RegionWith
import Derived.Deep.DeepCutAuto
import Derived.Deep.LoopGhost
import Derived.Laws.IdiomStrings
import Derived.Laws.OwnMore
namespace Go.Proofs.YtpapdkhjdelfcaaGreat
open Go.RowKit
set_option maxRecDepth 100000
set_option maxHeartbeats 4000000
theorem Nc {a b:Int} (h:a=b):Ending.returned (.int .u64 a)= .returned (.int .u64 b):=by rw [h]
theorem Ik (x:Int) (n:Nat) (w:jj) (a:n<=64):
  Calls Tryz.prog 209 #[.int .u64 x,.int .u64 n] w fun e w'=>e= .returned (.int .u64 (Ca x n))/\w=w':=by
 have b:((n:Int)).toNat=n:=rfl;have c:(64 - (n:Int)).toNat=64 - n:=jo
 go_enter Tryz.func209,Tryz.ntmps209;go_wp2;go_ret;refine ⟨Nc ?_,rfl⟩;rw [IntKind.wrap_u64];rfl
def AI (w:jj) (p:Nat) (s:S4):Prop:=(w.cell? ⟨p,0,none⟩=some (.int .u64 s.a)/\w.cell? ⟨p,1,none⟩=some (.int .u64 s.b)/\w.cell? ⟨p,2,none⟩=some (.int .u64 s.c)/\w.cell? ⟨p,3,none⟩=some (.int .u64 s.d))/\w.frozen? ⟨p,0,none⟩=false/\w.frozen? ⟨p,1,none⟩=false/\w.frozen? ⟨p,2,none⟩=false/\w.frozen? ⟨p,3,none⟩=false
theorem AI.later {a w:jj} {p:Nat} {s:S4} (h:AI a p s) (k:Aa a w):AI w p s:=by
 obtain ⟨⟨b,c,d,f⟩,g,i,l,m⟩:=h;exact ⟨⟨k.cell b,k.cell c,k.cell d,k.cell f⟩,k.frozen b g,k.frozen c i,k.frozen d l,k.frozen f m⟩
theorem AI.drew {w:jj} {p:Nat} {s:S4} (h:AI w p s):AI w.drew p s:=h.later ((jD w).step_drew)
theorem AI.set0 {w:jj} {p:Nat} {s:S4} (h:AI w p s) (x:Int):AI (w.setCell ⟨p,0,none⟩ (.int .u64 x)) p ⟨x,s.b,s.c,s.d⟩:=by
 obtain ⟨⟨a,f,g,i⟩,k,l,m,n⟩:=h;exact ⟨⟨Bc a,by rw [Ad js];exact f,by rw [Ad js];exact g,by rw [Ad js];exact i⟩,by rw [Ag];exact k,by rw [Ag];exact l,by rw [Ag];exact m,by rw [Ag];exact n⟩
theorem AI.set1 {w:jj} {p:Nat} {s:S4} (h:AI w p s) (x:Int):AI (w.setCell ⟨p,1,none⟩ (.int .u64 x)) p ⟨s.a,x,s.c,s.d⟩:=by
 obtain ⟨⟨b,f,g,i⟩,k,l,m,n⟩:=h;exact ⟨⟨by rw [Ad js];exact b,Bc f,by rw [Ad js];exact g,by rw [Ad js];exact i⟩,by rw [Ag];exact k,by rw [Ag];exact l,by rw [Ag];exact m,by rw [Ag];exact n⟩
theorem AI.set2 {w:jj} {p:Nat} {s:S4} (h:AI w p s) (x:Int):AI (w.setCell ⟨p,2,none⟩ (.int .u64 x)) p ⟨s.a,s.b,x,s.d⟩:=by
 obtain ⟨⟨c,f,g,i⟩,k,l,m,n⟩:=h;exact ⟨⟨by rw [Ad js];exact c,by rw [Ad js];exact f,Bc g,by rw [Ad js];exact i⟩,by rw [Ag];exact k,by rw [Ag];exact l,by rw [Ag];exact m,by rw [Ag];exact n⟩
theorem AI.set3 {w:jj} {p:Nat} {s:S4} (h:AI w p s) (x:Int):AI (w.setCell ⟨p,3,none⟩ (.int .u64 x)) p ⟨s.a,s.b,s.c,x⟩:=by
 obtain ⟨⟨d,f,g,i⟩,k,l,m,n⟩:=h;exact ⟨⟨by rw [Ad js];exact d,by rw [Ad js];exact f,by rw [Ad js];exact g,Bc i⟩,by rw [Ag];exact k,by rw [Ag];exact l,by rw [Ag];exact m,by rw [Ag];exact n⟩
theorem AI.is {w:jj} {p:Nat} {s t:S4} (h:AI w p s) (e:s=t):AI w p t:=e ▸ h
def Eh (w:jj) (p:Nat) (s:S4) (w':jj):Prop:=Ab [p] w w'/\AI w' p s
def JM (w:jj) (p:Nat) (s:S4) (e:Ending) (w':jj):Prop:=e= .returned (.tuple #[])/\Eh w p s w'
def CW (s:S4):S4:=⟨((s.a+s.b) % 18446744073709551616),s.b,s.c,s.d⟩
def Dp (s:S4):S4:=⟨s.a,(bits .xor .u64 (Ca s.b 13) s.a),s.c,s.d⟩
def DI (s:S4):S4:=⟨(Ca s.a 32),s.b,s.c,s.d⟩
def Ec (s:S4):S4:=⟨s.a,s.b,((s.c+s.d) % 18446744073709551616),s.d⟩
def Fd (s:S4):S4:=⟨s.a,s.b,s.c,(bits .xor .u64 (Ca s.d 16) s.c)⟩
def F1 (s:S4):S4:=⟨((s.a+s.d) % 18446744073709551616),s.b,s.c,s.d⟩
def Gw (s:S4):S4:=⟨s.a,s.b,s.c,(bits .xor .u64 (Ca s.d 21) s.a)⟩
def Hz (s:S4):S4:=⟨s.a,s.b,((s.c+s.b) % 18446744073709551616),s.d⟩
def KN (s:S4):S4:=⟨s.a,(bits .xor .u64 (Ca s.b 17) s.c),s.c,s.d⟩
def ON (s:S4):S4:=⟨s.a,s.b,(Ca s.c 32),s.d⟩
theorem WX (s:S4):ON (KN (Hz (Gw (F1 (Fd (Ec (DI (Dp (CW (s))))))))))=s.round:=rfl
theorem KQ (p:Nat) (s:S4) (w:jj) (h:AI w p s):
  Calls Tryz.prog 202 #[.pointer (some ⟨p,0,none⟩)] w (JM w p s.round):=by
 have l:Eh w p s w:=⟨Ab.refl _ _,h⟩;clear h;rw [<-WX];go_enter Tryz.func202,Tryz.ntmps202;go_upto_region 0 with fail
 go_cut [] (fun wc=>Eh w p (CW (s)) wc)
 case first=>
  obtain ⟨t,⟨f,g,i,k⟩,m,n,o,q⟩:=l;generalize s=r at *;obtain ⟨a,b,c,d⟩:=r;simp only at f g i k;go_region
  all_goals
   go_wp2;go_meet
   case rel=>exact ⟨j9,AI.is (AI.drew (AI.set0 (s:=⟨a,b,c,d⟩) ⟨⟨f,g,i,k⟩,m,n,o,q⟩ _)) (by simp [CW,IntKind.wrap_u64])⟩
 case rest=>
  replace l:=hcut;clear hcut;go_upto_region 1 with fail
  go_cut [] (fun wc=>Eh w p (Dp (CW (s))) wc)
  case first=>
   obtain ⟨t,⟨f,g,i,k⟩,m,n,o,q⟩:=l;generalize CW (s)=r at *;obtain ⟨a,b,c,d⟩:=r;simp only at f g i k;go_region_with (go_at_call 209;refine (Ik _ 13 _ ji).mono ?_;rintro e u ⟨rfl,rfl⟩)
   all_goals
    go_wp2;go_meet
    case rel=>exact ⟨j9,AI.is (AI.drew (AI.set1 (s:=⟨a,b,c,d⟩) ⟨⟨f,g,i,k⟩,m,n,o,q⟩ _)) (by simp [Dp])⟩
  case rest=>
   replace l:=hcut;clear hcut;go_upto_region 2 with fail
   go_cut [] (fun wc=>Eh w p (DI (Dp (CW (s)))) wc)
   case first=>
    obtain ⟨t,⟨f,g,i,k⟩,m,n,o,q⟩:=l;generalize Dp (CW (s))=r at *;obtain ⟨a,b,c,d⟩:=r;simp only at f g i k;go_wp2_with (go_at_call 209;refine (Ik _ 32 _ ji).mono ?_;rintro e u ⟨rfl,rfl⟩)
    all_goals
     go_wp2;go_meet
     case rel=>exact ⟨j9,AI.is (AI.drew (AI.set0 (s:=⟨a,b,c,d⟩) ⟨⟨f,g,i,k⟩,m,n,o,q⟩ _)) (by simp [DI])⟩
   case rest=>
    replace l:=hcut;clear hcut;go_upto_region 3 with fail
    go_cut [] (fun wc=>Eh w p (Ec (DI (Dp (CW (s))))) wc)
    case first=>
     obtain ⟨t,⟨f,g,i,k⟩,m,n,o,q⟩:=l;generalize DI (Dp (CW (s)))=r at *;obtain ⟨a,b,c,d⟩:=r;simp only at f g i k;go_region
     all_goals
      go_wp2;go_meet
      case rel=>exact ⟨j9,AI.is (AI.drew (AI.set2 (s:=⟨a,b,c,d⟩) ⟨⟨f,g,i,k⟩,m,n,o,q⟩ _)) (by simp [Ec,IntKind.wrap_u64])⟩
    case rest=>
     replace l:=hcut;clear hcut;go_upto_region 4 with fail
     go_cut [] (fun wc=>Eh w p (Fd (Ec (DI (Dp (CW (s)))))) wc)
     case first=>
      obtain ⟨t,⟨f,g,i,k⟩,m,n,o,q⟩:=l;generalize Ec (DI (Dp (CW (s))))=r at *;obtain ⟨a,b,c,d⟩:=r;simp only at f g i k;go_region_with (go_at_call 209;refine (Ik _ 16 _ ji).mono ?_;rintro e u ⟨rfl,rfl⟩)
      all_goals
       go_wp2;go_meet
       case rel=>exact ⟨j9,AI.is (AI.drew (AI.set3 (s:=⟨a,b,c,d⟩) ⟨⟨f,g,i,k⟩,m,n,o,q⟩ _)) (by simp [Fd])⟩
     case rest=>
      replace l:=hcut;clear hcut;go_upto_region 5 with fail
      go_cut [] (fun wc=>Eh w p (F1 (Fd (Ec (DI (Dp (CW (s))))))) wc)
      case first=>
       obtain ⟨t,⟨f,g,i,k⟩,m,n,o,q⟩:=l;generalize Fd (Ec (DI (Dp (CW (s)))))=r at *;obtain ⟨a,b,c,d⟩:=r;simp only at f g i k;go_region
       all_goals
        go_wp2;go_meet
        case rel=>exact ⟨j9,AI.is (AI.drew (AI.set0 (s:=⟨a,b,c,d⟩) ⟨⟨f,g,i,k⟩,m,n,o,q⟩ _)) (by simp [F1,IntKind.wrap_u64])⟩
      case rest=>
       replace l:=hcut;clear hcut;go_upto_region 6 with fail
       go_cut [] (fun wc=>Eh w p (Gw (F1 (Fd (Ec (DI (Dp (CW (s)))))))) wc)
       case first=>
        obtain ⟨t,⟨f,g,i,k⟩,m,n,o,q⟩:=l;generalize F1 (Fd (Ec (DI (Dp (CW (s))))))=r at *;obtain ⟨a,b,c,d⟩:=r;simp only at f g i k;go_region_with (go_at_call 209;refine (Ik _ 21 _ ji).mono ?_;rintro e u ⟨rfl,rfl⟩)
        all_goals
         go_wp2;go_meet
         case rel=>exact ⟨j9,AI.is (AI.drew (AI.set3 (s:=⟨a,b,c,d⟩) ⟨⟨f,g,i,k⟩,m,n,o,q⟩ _)) (by simp [Gw])⟩
       case rest=>
        replace l:=hcut;clear hcut;go_upto_region 7 with fail
        go_cut [] (fun wc=>Eh w p (Hz (Gw (F1 (Fd (Ec (DI (Dp (CW (s))))))))) wc)
        case first=>
         obtain ⟨t,⟨f,g,i,k⟩,m,n,o,q⟩:=l;generalize Gw (F1 (Fd (Ec (DI (Dp (CW (s)))))))=r at *;obtain ⟨a,b,c,d⟩:=r;simp only at f g i k;go_region
         all_goals
          go_wp2;go_meet
          case rel=>exact ⟨j9,AI.is (AI.drew (AI.set2 (s:=⟨a,b,c,d⟩) ⟨⟨f,g,i,k⟩,m,n,o,q⟩ _)) (by simp [Hz,IntKind.wrap_u64])⟩
        case rest=>
         replace l:=hcut;clear hcut;go_upto_region 8 with fail
         go_cut [] (fun wc=>Eh w p (KN (Hz (Gw (F1 (Fd (Ec (DI (Dp (CW (s)))))))))) wc)
         case first=>
          obtain ⟨t,⟨f,g,i,k⟩,m,n,o,q⟩:=l;generalize Hz (Gw (F1 (Fd (Ec (DI (Dp (CW (s))))))))=r at *;obtain ⟨a,b,c,d⟩:=r;simp only at f g i k;go_region_with (go_at_call 209;refine (Ik _ 17 _ ji).mono ?_;rintro e u ⟨rfl,rfl⟩)
          all_goals
           go_wp2;go_meet
           case rel=>exact ⟨j9,AI.is (AI.drew (AI.set1 (s:=⟨a,b,c,d⟩) ⟨⟨f,g,i,k⟩,m,n,o,q⟩ _)) (by simp [KN])⟩
         case rest=>
          replace l:=hcut;clear hcut;go_upto_region 9 with fail
          obtain ⟨t,⟨f,g,i,k⟩,m,n,o,q⟩:=l;generalize KN (Hz (Gw (F1 (Fd (Ec (DI (Dp (CW (s)))))))))=r at *;obtain ⟨a,b,c,d⟩:=r;simp only at f g i k;go_wp2_with (go_at_call 209;refine (Ik _ 32 _ ji).mono ?_;rintro e u ⟨rfl,rfl⟩);go_end0;exact ⟨rfl,j9,AI.is (AI.drew (AI.set2 (s:=⟨a,b,c,d⟩) ⟨⟨f,g,i,k⟩,m,n,o,q⟩ _)) (by simp [ON])⟩
theorem LS (t:jt) (f:Nat) (w:jj) (p:t.size<=4611686018427387904) (q:f<=4611686018427387904):
  Calls Tryz.prog 200 #[.string t,.int .i64 f] w fun e w'=>e= .returned (.int .u64 (BE t f))/\w=w':=by
 go_enter Tryz.func200,Tryz.ntmps200;go_wp2;go_loopg [5,6] 8 (fun r b i wr=>w=wr/\∃n:Nat,r=8 - n/\n<=8/\i= .int .i64 (7 - n)/\b= .int .u64 (BI t f n))
 case atStart=>exact ⟨rfl,0,jo,jo,rfl,rfl⟩
 case round=>
  obtain ⟨rfl,n,s,u,rfl,rfl⟩:=hrel;by_cases v:n<8
  .have l:decide ((7 - (n:Int))>=0)=true:=jL jo;obtain ⟨j,d⟩:∃j:Nat,j=f+(7 - n):=⟨_,rfl⟩;have m:(f:Int)+(7 - (n:Int))=(j:Int):=jo
   have c:Hid (BI t f (n+1)=if f+(7 - n)<t.size then bits .or .u64 (BI t f n * 256 % 18446744073709551616) (AQ t (f+(7 - n))) else BI t f n * 256 % 18446744073709551616):=rfl;rw [<-d] at c;have x:=jp d;clear d;generalize BI t f n=b at *;by_cases a:j<t.size
   .rw [if_pos a] at c;have o:decide ((j:Int)<(t.size:Int))=true:=jL jo;have g:Hid (AQ t j=(t[j].toNat:Int)):=by rw [AQ,dif_pos a];rfl
    have y:=(t[j]).toNat_lt;go_wp2;go_roundg (8 - (n+1))
    case measure=>omega
    case rel=>exact ⟨rfl,n+1,rfl,jo,by go_num,by rw [c.out,g.out,IntKind.wrap_u64]⟩
   .rw [if_neg a] at c;have o:decide ((j:Int)<(t.size:Int))=false:=jK jo;go_wp2;go_roundg (8 - (n+1))
    case measure=>omega
    case rel=>exact ⟨rfl,n+1,rfl,jo,by go_num,by rw [c.out,IntKind.wrap_u64]⟩
  .have k:n=8:=jo
   subst k;go_wp2;go_ret;exact ⟨rfl,rfl⟩
theorem JM.of {w a b:jj} {p:Nat} {s:S4} (h:Ab [p] w a) (k:Eh a p s b):Eh w p s b:=⟨h.trans k.1,k.2⟩
theorem OZ (p:Nat) (s:S4) (m:Int) (w:jj) (h:AI w p s):
  Calls Tryz.prog 201 #[.pointer (some ⟨p,0,none⟩),.int .u64 m] w (JM w p (s.take m)):=by
 obtain ⟨⟨n,o,q,r⟩,u,v,x,y⟩:=h;obtain ⟨g,i,k,f⟩:=s;simp only at n o q r;go_enter Tryz.func201,Tryz.ntmps201;go_wp2_with fail;have B:AI (w.setCell ⟨p,3,none⟩ (.int .u64 (bits .xor .u64 f m))) p ⟨g,i,k,bits .xor .u64 f m⟩:=AI.set3 (s:=⟨g,i,k,f⟩) ⟨⟨n,o,q,r⟩,u,v,x,y⟩ _;have C:Ab [p] w (w.setCell ⟨p,3,none⟩ (.int .u64 (bits .xor .u64 f m))):=j9
 refine (KQ p _ _ B).mono ?_;rintro e F ⟨rfl,l⟩;go_wp2_with fail;refine (KQ p _ _ l.2).mono ?_;rintro e G ⟨rfl,t⟩;obtain ⟨D,z⟩:=JM.of C (JM.of l.1 t);have A:Hid (S4.take ⟨g,i,k,f⟩ m=⟨bits .xor .u64 (S4.round (S4.round ⟨g,i,k,bits .xor .u64 f m⟩)).a m,(S4.round (S4.round ⟨g,i,k,bits .xor .u64 f m⟩)).b,(S4.round (S4.round ⟨g,i,k,bits .xor .u64 f m⟩)).c,(S4.round (S4.round ⟨g,i,k,bits .xor .u64 f m⟩)).d⟩):=rfl;clear l t n o q r u v x y;generalize S4.round (S4.round ⟨g,i,k,bits .xor .u64 f m⟩)=E at *;obtain ⟨⟨n,o,q,r⟩,u,v,x,y⟩:=z;obtain ⟨a,b,c,d⟩:=E;simp only at n o q r A;go_wp2;go_end0;exact ⟨rfl,j9,(AI.set0 (s:=⟨a,b,c,d⟩) ⟨⟨n,o,q,r⟩,u,v,x,y⟩ _).is A.out.symm⟩
def G8:Nat->S4->S4
 |0,s=>s
 |n+1,s=>(G8 n s).round
def Kd (w:jj) (x:Int) (e:Ending) (w':jj):Prop:=e= .returned (.int .u64 x)/\Aa w w'
def ST (w:jj) (s:S4) (e:Ending) (w':jj):Prop:=e= .returned (.agg #[.int .u64 s.a,.int .u64 s.b,.int .u64 s.c,.int .u64 s.d])/\Aa w w'
theorem WI (k l:Int) (w:jj):Calls Tryz.prog 199 #[.int .u64 k,.int .u64 l] w (ST w (Dt k l)):=by
 obtain ⟨S,a⟩:∃S,S=Dt k l:=⟨_,rfl⟩;have b:=jp a;rw [<-a];clear a;go_enter Tryz.func199,Tryz.ntmps199;go_wp2;refine bodyPost_ret (v:= .agg #[.int .u64 (bits .xor .u64 k 8317987319222330741),.int .u64 (bits .xor .u64 l 7237128888997146477),.int .u64 (bits .xor .u64 k 7816392313619706465),.int .u64 (bits .xor .u64 l 8387220255154660723)]) (by simp [results,Tryz.results199,go_sem]) rfl ⟨?_,jq⟩;rw [b.out];rfl
theorem WD (key t:jt) (w:jj) (hk:key.size<=4611686018427387904) (ht:t.size<=4611686018427387000):
  Calls Tryz.prog 178 #[.string key,.string t] w (Kd w (Cs key t)):=by
 obtain ⟨X,hX⟩:∃X,X=Cs key t:=⟨_,rfl⟩;have HX:=jp hX;rw [<-hX];clear hX;have C:=fun N=>LS key 0 N hk jo
 have D:=fun N=>LS key 8 N hk jo
 obtain ⟨k0,l⟩:∃k0,k0=BE key 0:=⟨_,rfl⟩;obtain ⟨k8,m⟩:∃k8,k8=BE key 8:=⟨_,rfl⟩;rw [<-l] at C;rw [<-m] at D;have aa:=jp l;have ab:=jp m;clear l m;go_enter Tryz.func178,Tryz.ntmps178;go_wp2_with fail;refine (C _).mono ?_;rintro e w' ⟨rfl,rfl⟩;go_wp2_with fail;refine (D _).mono ?_;rintro e w' ⟨rfl,rfl⟩;clear C D;go_wp2_with fail;refine (WI _ _ _).mono ?_;rintro e w1 ⟨rfl,O⟩;obtain ⟨o,E⟩:∃o,o=Dt k0 k8:=⟨_,rfl⟩;have H0:=jp E;rw [<-E];clear E;obtain ⟨q,hq⟩:∃q:Nat,q=t.size / 8:=⟨_,rfl⟩;have ah:(t.size:Int) / 8=(q:Int):=jo
 have HQ:=jp hq;have ai:8 * q<=t.size:=jo
 clear hq;have aj:=O.size;go_wp2;obtain ⟨p,hp⟩:∃p,p=w1.heap.size:=⟨_,rfl⟩;obtain ⟨W,u⟩:∃W,W=w1.alloc (.cells #[.int .u64 o.a,.int .u64 o.b,.int .u64 o.c,.int .u64 o.d] 233):=⟨_,rfl⟩
 have L:AI W p o:=by
  subst u hp;exact ⟨⟨js,js,js,js⟩,js,js,js,js⟩
 have ac:Aa w W:=by subst u;exact O.step_alloc _
 rw [<-u,<-hp];have v:w.heap.size<=p:=jo
 clear u hp;go_loopg [7] q (fun r i wr=>∃k:Nat,r=q - k/\k<=q/\i= .int .i64 (8 * k)/\Aa w wr/\AI wr p (CH t o k))
 case atStart=>exact ⟨0,jo,jo,by go_num,ac,L⟩
 case round=>
  obtain ⟨k,hr,ak,rfl,hb,L⟩:=hrel;have g:=fun N=>LS t (8 * k) N jo jo
  rw [show (((8 * k:Nat)):Int)=8 * (k:Int) from by omega] at g;obtain ⟨Y,f⟩:∃Y,Y=BE t (8 * k):=⟨_,rfl⟩;obtain ⟨M,x⟩:∃M,M=CH t o k:=⟨_,rfl⟩;rw [<-f] at g;rw [<-x] at L;have HS:Hid (CH t o (k+1)=M.take Y):=by rw [x,f];rfl
  have HW:=jp f;have HK:=jp x;clear f x;by_cases al:k<q
  .have hd:decide (8 * (k:Int)<8 * (q:Int))=true:=jL jo;have P:decide (8 * (k:Int)<(t.size:Int) - (t.size:Int) % 8)=true:=jL jo;go_wp2_with fail;refine (g _).mono ?_;rintro e w' ⟨rfl,rfl⟩;go_wp2_with fail;refine (OZ p _ _ _ L).mono ?_;rintro e Z ⟨rfl,y,z⟩;have F:Aa w Z:=Ab.belTo hb y (by simpa using v);go_wp2;go_roundg (q - (k+1))
   case measure=>omega
   case rel=>exact ⟨k+1,rfl,jo,by go_num,F,z.is HS.out.symm⟩
  .have hd:decide (8 * (k:Int)<8 * (q:Int))=false:=jK jo;have P:decide (8 * (k:Int)<(t.size:Int) - (t.size:Int) % 8)=false:=jK jo;obtain rfl:k=q:=jo
   rw [show 8 * (k:Int)=(t.size:Int) - (t.size:Int) % 8 from by omega] at g;go_wp2_with fail;refine (g _).mono ?_;rintro e w' ⟨rfl,rfl⟩;go_wp2_with fail;refine (OZ p _ _ _ L).mono ?_;rintro e Z ⟨rfl,y,z⟩;have F:Aa w Z:=Ab.belTo hb y (by simpa using v);obtain ⟨sT,G⟩:∃sT,sT=M.take (bits .or .u64 Y (IntKind.u64.wrap ((t.size:Int) * 72057594037927936))):=⟨_,rfl⟩;rw [<-G] at z;have HT:=jp G;clear G y g L hd P;obtain ⟨⟨Q,R,S,T⟩,f0,f1,f2,f3⟩:=z;obtain ⟨a,b,c,d⟩:=sT;simp only at Q R S T;go_wp2;obtain ⟨w4,A⟩:∃w4,w4=Z.setCell ⟨p,2,none⟩ (.int .u64 (bits .xor .u64 c 255)):=⟨_,rfl⟩;obtain ⟨B,H⟩:∃B:S4,B=⟨a,b,bits .xor .u64 c 255,d⟩:=⟨_,rfl⟩;have ad:AI w4 p B:=by rw [A,H];exact AI.set2 (s:=⟨a,b,c,d⟩) ⟨⟨Q,R,S,T⟩,f0,f1,f2,f3⟩ _
   have ae:Aa w w4:=by rw [A];exact F.step_set v _
   rw [<-A];have HU:=jp H;clear A H Q R S T f0 f1 f2 f3
   have I:Hid (X=bits .xor .u64 (bits .xor .u64 (bits .xor .u64 (G8 4 B).a (G8 4 B).b) (G8 4 B).c) (G8 4 B).d):=by
    have e1:M.take (bits .or .u64 (BE t (8 * (t.size / 8))) ((t.size:Int) * 72057594037927936 % 18446744073709551616))=⟨a,b,c,d⟩:=by
     rw [<-HQ.out,<-HW.out,HT.out,IntKind.wrap_u64]
    have e2:CH t (Dt (BE key 0) (BE key 8)) (t.size / 8)=M:=by rw [<-HQ.out,<-aa.out,<-ab.out,<-H0.out,HK.out]
    unfold Hid;rw [HX.out,HU.out];simp only [Cs,e2,e1];rfl
   go_loopg [8] 4 (fun r i wz=>∃n:Nat,r=4 - n/\n<=4/\i= .int .i64 n/\Aa w wz/\AI wz p (G8 n B))
   case atStart=>exact ⟨0,jo,jo,rfl,ae,ad⟩
   case round=>
    obtain ⟨n,am,hn,rfl,U,J⟩:=hrel;obtain ⟨sn,K⟩:∃sn,sn=G8 n B:=⟨_,rfl⟩;rw [<-K] at J;have HN:=jp K;clear K;by_cases h4:n<4
    .go_wp2_with fail;refine (KQ p _ _ J).mono ?_;rintro e w5 ⟨rfl,af,ag⟩;have V:Aa w w5:=Ab.belTo U af (by simpa using v);go_wp2;go_roundg (4 - (n+1))
     case measure=>omega
     case rel=>exact ⟨n+1,rfl,jo,by go_num,V,ag.is (by rw [HN.out];rfl)⟩
    .obtain rfl:n=4:=jo
     rw [<-HN.out] at I;obtain ⟨⟨Q,R,S,T⟩,f0,f1,f2,f3⟩:=J;obtain ⟨a5,b5,c5,d5⟩:=sn;simp only at Q R S T I;go_wp2;go_ret;exact ⟨Nc I.out.symm,U⟩
def IM (w:jj) (v:ju) (l:jr):Prop:=Ap w v l.length (l.map fun (n:Nat)=>Value.int .i64 (n:Int))
theorem IM.open {w:jj} {v:ju} {l:jr} (h:IM w v l):∃b cap,v= .slice b l.length cap/\∀j (a:j<l.length),∃g,b=some ⟨g,0,none⟩/\w.cell? ⟨g,j,none⟩=some (.int .i64 (l[j]:Int)):=by
 rcases h with ⟨c,d,_⟩|⟨g,cap,f,k,m,i⟩
 .exact ⟨none,0,by rw [c,d],fun j a=>by omega⟩
 .exact ⟨_,cap,f,fun j a=>⟨g,rfl,i j _ (by simp [a])⟩⟩
def FK (b:UInt8):Value:= .int .u8 (b.toNat:Int)
theorem Pt (n:Nat):((UInt8.ofNat n).toNat:Int)=(n:Int) % 256:=js
theorem TW (letter:UInt8) (a:jr) (k:Nat) (h:k<a.length):CK letter (a.take (k+1))=CK letter (a.take k)++[UInt8.ofNat (a[k] / 256),UInt8.ofNat a[k]]:=by
 rw [jQ h,CK,List.flatMap_append,CK];simp
theorem UW (letter:UInt8) (a:jr):(CK letter a).length=1+2 * a.length:=by
 induction a with
 |nil=>rfl
 |cons n l ih=>simp only [CK,List.flatMap_cons,List.length_cons,jO,List.length_nil] at ih |-;omega
theorem Tg {w:jj} {base:Nat} {v:ju} {l:jy} (h:w.ownsRow base 5 1 v l.length (l.map FK)) (f:0<l.length):
  (convert 78 9 v).run Tryz.prog w= .ok (.string ⟨l.toArray⟩) w:=by
 rcases h.2 with ⟨_,i⟩|⟨g,cap,b,a,k,m,r⟩
 .omega
 .have c:=h.cells (g:=g) (by rw [a];rfl);rw [a];refine run_convert_bytes_back w 78 9 5 _ cap l Tryz.underlying78 Tryz.underlying5 Tryz.underlying9 (fun j d=>?_);exact c j _ (by simp [d,FK])
theorem F5 (key:jt) (letter:UInt8) (a:jr) (E:ju) (t:jt) (w:jj) (J:IM w E a) (Z:a.length<=2) (K:key.size<=4611686018427387904) (ht:t.size<=4611686018427386000):
  Calls Tryz.prog 142 #[.string key,.int .u8 (letter.toNat:Int),E,.string t] w (Kd w (Al key letter a t)):=by
 obtain ⟨L,M,y,z,A⟩:=info_parts Tryz.infoByte;obtain ⟨ao,cap,rfl,B⟩:=J.open;obtain ⟨X,C⟩:∃X,X=Al key letter a t:=⟨_,rfl⟩;have HX:=jp C;rw [<-C];clear C;go_enter Tryz.func142,Tryz.ntmps142;go_wp2;have d:(w.alloc (.cells #[.int .u8 (letter.toNat:Int)] 5)).ownsRow w.heap.size 5 1 (.slice (some ⟨w.heap.size,0,none⟩) 1 1) 1 [.int .u8 (letter.toNat:Int)]:=World.ownsRow_lit w #[.int .u8 (letter.toNat:Int)] 1 (jH _) ji rfl;go_loopg [9,16] a.length (fun r N n wr=>∃k:Nat,r=a.length - k/\k<=a.length/\n= .int .i64 k/\Aa w wr/\wr.ownsRow w.heap.size 5 1 N (CK letter (a.take k)).length ((CK letter (a.take k)).map FK))
 case atStart=>exact ⟨0,jo,jo,rfl,jq,d⟩
 case round=>
  obtain ⟨k,hr,O,rfl,u,F⟩:=hrel;have v:=jp F;have m:=UW letter (a.take k);have p:(CK letter (a.take k)).length<=5:=by rw [m];simp;omega
  have f:0<(CK letter (a.take k)).length:=by rw [m];omega
  clear F d m;have P:=u.size;by_cases q:k<a.length
  .obtain ⟨g,rfl,G⟩:=B k q;have Q:=u.cell G;have R:=jp (TW letter a k q);clear B G;generalize a[k]=i at *;generalize CK letter (a.take k)=D at *
   have H:Hid (FK (UInt8.ofNat (i / 256))= .int .u8 ((i:Int) / 256 % 256)):=by
    show FK (UInt8.ofNat (i / 256))=_;rw [FK,Pt,Int.natCast_ediv];rfl
   have I:Hid (FK (UInt8.ofNat i)= .int .u8 ((i:Int) % 256)):=by
    show FK (UInt8.ofNat i)=_;rw [FK,Pt]
   go_wp2_with (first|(at_builtin;refine wpList_append_own _ rfl _ _ 78 rfl w.heap.size 5 L (.int .u8 0) 1 1 Tryz.underlying78 M y z A rfl ji _ D.length (D.map FK) rfl ?p1 ⟨wr.heap.size,0,none⟩ 2 2 [.int .u8 ((i:Int) / 256 % 256),.int .u8 ((i:Int) % 256)] rfl rfl ?d1 ?d2 ?d3 ?d4 ?d5 ?_))
   case p1=>exact World.ownsRow.alloc v.out _
   try (case d1=>exact C8 _ _ _ _ _ js)
   case d2=>first|exact ⟨rfl,rfl⟩|exact Df rfl rfl
   case d3=>unfold maxLen;omega
   case d4=>omega
   case d5=>first|omega|(simp;omega)
   intro S x c b _;have o:Aa w x:=(u.step_alloc _).grown b (fun g T=>(World.ownsRow.lt v.out g T).1)
   have U:Hid (x.ownsRow w.heap.size 5 1 S (CK letter (a.take (k+1))).length ((CK letter (a.take (k+1))).map FK)):=by
    show x.ownsRow _ _ _ _ _ _;rw [R.out,List.map_append,jO];simp only [List.map_cons,List.map_nil,H.out,I.out];exact c
   clear c b H I;go_wp2;go_roundg (a.length - (k+1))
   case measure=>omega
   case rel=>exact ⟨k+1,rfl,jo,by go_num,o,U.out⟩
  .have s:a.take k=a:=jR jo;rw [s] at v f p;clear B s;have V:=Tg v.out f
   have l := fun W => WD key (ByteArray.mk (CK letter a).toArray ++ t) W K (by
     rw [jY]
     have : (ByteArray.mk (CK letter a).toArray).size = (CK letter a).length := by simp [ByteArray.size]
     rw [this]; omega)
   rw [show Cs key (ByteArray.mk (CK letter a).toArray++t)=X from HX.out.symm] at l
   have Y:(ByteArray.mk (CK letter a).toArray).size<=5:=by
    have:(ByteArray.mk (CK letter a).toArray).size=(CK letter a).length:=by simp [ByteArray.size]
    rw [this];omega
   generalize (ByteArray.mk (CK letter a).toArray)=D at *;go_wp2_with fail;refine (l _).mono ?_;rintro e x ⟨rfl,o⟩;go_wp2;go_ret;exact ⟨rfl,u.trans o⟩
end Go.Proofs.YtpapdkhjdelfcaaGreat
