import Derived.Test.YtpapdkhjdelfcabGreatHAB
import Derived.Deep.RegionWith
import Derived.Deep.DeepCutAuto
import Derived.Deep.LoopGhost
set_option maxRecDepth 100000
set_option maxHeartbeats 4000000
namespace Go.Proofs.YtpapdkhjdelfcabGreat
open Go.RowKit
theorem ret_u64 {a b:Int} (h:a=b):Ending.returned (.int .u64 a)= .returned (.int .u64 b):=by rw [h]
theorem turned_is (x:Int) (n:Nat) (w:World) (hn:n≤64):
  Calls Tryz.prog 239 #[.int .u64 x,.int .u64 n] w fun e w'=>e= .returned (.int .u64 (rotF x n))∧w=w':=by
 have e1:((n:Int)).toNat=n:=rfl;have e2:(64 - (n:Int)).toNat=64 - n:=by omega
 go_enter Tryz.func239,Tryz.ntmps239;go_wp2;go_ret;refine ⟨ret_u64 ?_,rfl⟩;rw [IntKind.wrap_u64];rfl
def StAt (w:World) (p:Nat) (s:S4):Prop:=(w.cell? ⟨p,0,none⟩=some (.int .u64 s.a)∧w.cell? ⟨p,1,none⟩=some (.int .u64 s.b)∧w.cell? ⟨p,2,none⟩=some (.int .u64 s.c)∧w.cell? ⟨p,3,none⟩=some (.int .u64 s.d))∧w.frozen? ⟨p,0,none⟩=false∧w.frozen? ⟨p,1,none⟩=false∧w.frozen? ⟨p,2,none⟩=false∧w.frozen? ⟨p,3,none⟩=false
theorem StAt.later {a w:World} {p:Nat} {s:S4} (h:StAt a p s) (k:Bel a w):StAt w p s:=by
 obtain ⟨⟨h0,h1,h2,h3⟩,f0,f1,f2,f3⟩:=h;exact ⟨⟨k.cell h0,k.cell h1,k.cell h2,k.cell h3⟩,k.frozen h0 f0,k.frozen h1 f1,k.frozen h2 f2,k.frozen h3 f3⟩
theorem StAt.drew {w:World} {p:Nat} {s:S4} (h:StAt w p s):StAt w.drew p s:=h.later ((Bel.refl w).step_drew)
theorem StAt.set0 {w:World} {p:Nat} {s:S4} (h:StAt w p s) (x:Int):StAt (w.setCell ⟨p,0,none⟩ (.int .u64 x)) p ⟨x,s.b,s.c,s.d⟩:=by
 obtain ⟨⟨h0,h1,h2,h3⟩,f0,f1,f2,f3⟩:=h;exact ⟨⟨set_same h0,by rw [set_other (by simp)];exact h1,by rw [set_other (by simp)];exact h2,by rw [set_other (by simp)];exact h3⟩,by rw [frozen_set];exact f0,by rw [frozen_set];exact f1,by rw [frozen_set];exact f2,by rw [frozen_set];exact f3⟩
theorem StAt.set1 {w:World} {p:Nat} {s:S4} (h:StAt w p s) (x:Int):StAt (w.setCell ⟨p,1,none⟩ (.int .u64 x)) p ⟨s.a,x,s.c,s.d⟩:=by
 obtain ⟨⟨h0,h1,h2,h3⟩,f0,f1,f2,f3⟩:=h;exact ⟨⟨by rw [set_other (by simp)];exact h0,set_same h1,by rw [set_other (by simp)];exact h2,by rw [set_other (by simp)];exact h3⟩,by rw [frozen_set];exact f0,by rw [frozen_set];exact f1,by rw [frozen_set];exact f2,by rw [frozen_set];exact f3⟩
theorem StAt.set2 {w:World} {p:Nat} {s:S4} (h:StAt w p s) (x:Int):StAt (w.setCell ⟨p,2,none⟩ (.int .u64 x)) p ⟨s.a,s.b,x,s.d⟩:=by
 obtain ⟨⟨h0,h1,h2,h3⟩,f0,f1,f2,f3⟩:=h;exact ⟨⟨by rw [set_other (by simp)];exact h0,by rw [set_other (by simp)];exact h1,set_same h2,by rw [set_other (by simp)];exact h3⟩,by rw [frozen_set];exact f0,by rw [frozen_set];exact f1,by rw [frozen_set];exact f2,by rw [frozen_set];exact f3⟩
theorem StAt.set3 {w:World} {p:Nat} {s:S4} (h:StAt w p s) (x:Int):StAt (w.setCell ⟨p,3,none⟩ (.int .u64 x)) p ⟨s.a,s.b,s.c,x⟩:=by
 obtain ⟨⟨h0,h1,h2,h3⟩,f0,f1,f2,f3⟩:=h;exact ⟨⟨by rw [set_other (by simp)];exact h0,by rw [set_other (by simp)];exact h1,by rw [set_other (by simp)];exact h2,set_same h3⟩,by rw [frozen_set];exact f0,by rw [frozen_set];exact f1,by rw [frozen_set];exact f2,by rw [frozen_set];exact f3⟩
theorem StAt.is {w:World} {p:Nat} {s t:S4} (h:StAt w p s) (e:s=t):StAt w p t:=e ▸ h
def StOn (w:World) (p:Nat) (s:S4) (w':World):Prop:=But [p] w w'∧StAt w' p s
theorem StOn.first {w w':World} {p:Nat} {s:S4} (h:StOn w p s w'):But [p] w w':=h.1
def RSt (w:World) (p:Nat) (s:S4) (e:Ending) (w':World):Prop:=e= .returned (.tuple #[])∧StOn w p s w'
def stp0 (s:S4):S4:=⟨((s.a+s.b) % 18446744073709551616),s.b,s.c,s.d⟩
def stp1 (s:S4):S4:=⟨s.a,(bits .xor .u64 (rotF s.b 13) s.a),s.c,s.d⟩
def stp2 (s:S4):S4:=⟨(rotF s.a 32),s.b,s.c,s.d⟩
def stp3 (s:S4):S4:=⟨s.a,s.b,((s.c+s.d) % 18446744073709551616),s.d⟩
def stp4 (s:S4):S4:=⟨s.a,s.b,s.c,(bits .xor .u64 (rotF s.d 16) s.c)⟩
def stp5 (s:S4):S4:=⟨((s.a+s.d) % 18446744073709551616),s.b,s.c,s.d⟩
def stp6 (s:S4):S4:=⟨s.a,s.b,s.c,(bits .xor .u64 (rotF s.d 21) s.a)⟩
def stp7 (s:S4):S4:=⟨s.a,s.b,((s.c+s.b) % 18446744073709551616),s.d⟩
def stp8 (s:S4):S4:=⟨s.a,(bits .xor .u64 (rotF s.b 17) s.c),s.c,s.d⟩
def stp9 (s:S4):S4:=⟨s.a,s.b,(rotF s.c 32),s.d⟩
theorem stp_all (s:S4):stp9 (stp8 (stp7 (stp6 (stp5 (stp4 (stp3 (stp2 (stp1 (stp0 (s))))))))))=s.round:=rfl
theorem round_is (p:Nat) (s:S4) (w:World) (h:StAt w p s):
  Calls Tryz.prog 234 #[.pointer (some ⟨p,0,none⟩)] w (RSt w p s.round):=by
 have hS:StOn w p s w:=⟨But.refl _ _,h⟩;clear h;rw [←stp_all];go_enter Tryz.func234,Tryz.ntmps234;go_upto_region 0 with fail
 go_cut [] (fun wc=>StOn w p (stp0 (s)) wc)
 case first=>
  obtain ⟨hb,⟨h0,h1,h2,h3⟩,f0,f1,f2,f3⟩:=hS;generalize s=s0 at *;obtain ⟨a,b,c,d⟩:=s0;simp only at h0 h1 h2 h3;go_region
  all_goals
   go_wp2_with fail;go_meet
   case rel=>exact ⟨by (repeat (first|exact But.refl _ _|assumption|refine But.drew ?_|refine But.drewN ?_ _|refine But.alloc ?_ _|refine But.set ?_ (by simp) _|refine But.trans ?_ (by assumption)|refine But.step ?_ (by assumption))),StAt.is (StAt.drew (StAt.set0 (s:=⟨a,b,c,d⟩) ⟨⟨h0,h1,h2,h3⟩,f0,f1,f2,f3⟩ _)) (by simp [stp0,IntKind.wrap_u64])⟩
 case rest=>
  replace hS:=hcut;clear hcut;go_upto_region 1 with fail
  go_cut [] (fun wc=>StOn w p (stp1 (stp0 (s))) wc)
  case first=>
   obtain ⟨hb,⟨h0,h1,h2,h3⟩,f0,f1,f2,f3⟩:=hS;generalize stp0 (s)=s0 at *;obtain ⟨a,b,c,d⟩:=s0;simp only at h0 h1 h2 h3;go_region_with (go_at_call 239;refine (turned_is _ 13 _ (by decide)).mono ?_;rintro e w1 ⟨rfl,rfl⟩)
   all_goals
    go_wp2_with fail;go_meet
    case rel=>exact ⟨by (repeat (first|exact But.refl _ _|assumption|refine But.drew ?_|refine But.drewN ?_ _|refine But.alloc ?_ _|refine But.set ?_ (by simp) _|refine But.trans ?_ (by assumption)|refine But.step ?_ (by assumption))),StAt.is (StAt.drew (StAt.set1 (s:=⟨a,b,c,d⟩) ⟨⟨h0,h1,h2,h3⟩,f0,f1,f2,f3⟩ _)) (by simp [stp1])⟩
  case rest=>
   replace hS:=hcut;clear hcut;go_upto_region 2 with fail
   go_cut [] (fun wc=>StOn w p (stp2 (stp1 (stp0 (s)))) wc)
   case first=>
    obtain ⟨hb,⟨h0,h1,h2,h3⟩,f0,f1,f2,f3⟩:=hS;generalize stp1 (stp0 (s))=s0 at *;obtain ⟨a,b,c,d⟩:=s0;simp only at h0 h1 h2 h3;go_wp2_with (go_at_call 239;refine (turned_is _ 32 _ (by decide)).mono ?_;rintro e w1 ⟨rfl,rfl⟩)
    all_goals
     go_wp2_with fail;go_meet
     case rel=>exact ⟨by (repeat (first|exact But.refl _ _|assumption|refine But.drew ?_|refine But.drewN ?_ _|refine But.alloc ?_ _|refine But.set ?_ (by simp) _|refine But.trans ?_ (by assumption)|refine But.step ?_ (by assumption))),StAt.is (StAt.drew (StAt.set0 (s:=⟨a,b,c,d⟩) ⟨⟨h0,h1,h2,h3⟩,f0,f1,f2,f3⟩ _)) (by simp [stp2])⟩
   case rest=>
    replace hS:=hcut;clear hcut;go_upto_region 3 with fail
    go_cut [] (fun wc=>StOn w p (stp3 (stp2 (stp1 (stp0 (s))))) wc)
    case first=>
     obtain ⟨hb,⟨h0,h1,h2,h3⟩,f0,f1,f2,f3⟩:=hS;generalize stp2 (stp1 (stp0 (s)))=s0 at *;obtain ⟨a,b,c,d⟩:=s0;simp only at h0 h1 h2 h3;go_region
     all_goals
      go_wp2_with fail;go_meet
      case rel=>exact ⟨by (repeat (first|exact But.refl _ _|assumption|refine But.drew ?_|refine But.drewN ?_ _|refine But.alloc ?_ _|refine But.set ?_ (by simp) _|refine But.trans ?_ (by assumption)|refine But.step ?_ (by assumption))),StAt.is (StAt.drew (StAt.set2 (s:=⟨a,b,c,d⟩) ⟨⟨h0,h1,h2,h3⟩,f0,f1,f2,f3⟩ _)) (by simp [stp3,IntKind.wrap_u64])⟩
    case rest=>
     replace hS:=hcut;clear hcut;go_upto_region 4 with fail
     go_cut [] (fun wc=>StOn w p (stp4 (stp3 (stp2 (stp1 (stp0 (s)))))) wc)
     case first=>
      obtain ⟨hb,⟨h0,h1,h2,h3⟩,f0,f1,f2,f3⟩:=hS;generalize stp3 (stp2 (stp1 (stp0 (s))))=s0 at *;obtain ⟨a,b,c,d⟩:=s0;simp only at h0 h1 h2 h3;go_region_with (go_at_call 239;refine (turned_is _ 16 _ (by decide)).mono ?_;rintro e w1 ⟨rfl,rfl⟩)
      all_goals
       go_wp2_with fail;go_meet
       case rel=>exact ⟨by (repeat (first|exact But.refl _ _|assumption|refine But.drew ?_|refine But.drewN ?_ _|refine But.alloc ?_ _|refine But.set ?_ (by simp) _|refine But.trans ?_ (by assumption)|refine But.step ?_ (by assumption))),StAt.is (StAt.drew (StAt.set3 (s:=⟨a,b,c,d⟩) ⟨⟨h0,h1,h2,h3⟩,f0,f1,f2,f3⟩ _)) (by simp [stp4])⟩
     case rest=>
      replace hS:=hcut;clear hcut;go_upto_region 5 with fail
      go_cut [] (fun wc=>StOn w p (stp5 (stp4 (stp3 (stp2 (stp1 (stp0 (s))))))) wc)
      case first=>
       obtain ⟨hb,⟨h0,h1,h2,h3⟩,f0,f1,f2,f3⟩:=hS;generalize stp4 (stp3 (stp2 (stp1 (stp0 (s)))))=s0 at *;obtain ⟨a,b,c,d⟩:=s0;simp only at h0 h1 h2 h3;go_region
       all_goals
        go_wp2_with fail;go_meet
        case rel=>exact ⟨by (repeat (first|exact But.refl _ _|assumption|refine But.drew ?_|refine But.drewN ?_ _|refine But.alloc ?_ _|refine But.set ?_ (by simp) _|refine But.trans ?_ (by assumption)|refine But.step ?_ (by assumption))),StAt.is (StAt.drew (StAt.set0 (s:=⟨a,b,c,d⟩) ⟨⟨h0,h1,h2,h3⟩,f0,f1,f2,f3⟩ _)) (by simp [stp5,IntKind.wrap_u64])⟩
      case rest=>
       replace hS:=hcut;clear hcut;go_upto_region 6 with fail
       go_cut [] (fun wc=>StOn w p (stp6 (stp5 (stp4 (stp3 (stp2 (stp1 (stp0 (s)))))))) wc)
       case first=>
        obtain ⟨hb,⟨h0,h1,h2,h3⟩,f0,f1,f2,f3⟩:=hS;generalize stp5 (stp4 (stp3 (stp2 (stp1 (stp0 (s))))))=s0 at *;obtain ⟨a,b,c,d⟩:=s0;simp only at h0 h1 h2 h3;go_region_with (go_at_call 239;refine (turned_is _ 21 _ (by decide)).mono ?_;rintro e w1 ⟨rfl,rfl⟩)
        all_goals
         go_wp2_with fail;go_meet
         case rel=>exact ⟨by (repeat (first|exact But.refl _ _|assumption|refine But.drew ?_|refine But.drewN ?_ _|refine But.alloc ?_ _|refine But.set ?_ (by simp) _|refine But.trans ?_ (by assumption)|refine But.step ?_ (by assumption))),StAt.is (StAt.drew (StAt.set3 (s:=⟨a,b,c,d⟩) ⟨⟨h0,h1,h2,h3⟩,f0,f1,f2,f3⟩ _)) (by simp [stp6])⟩
       case rest=>
        replace hS:=hcut;clear hcut;go_upto_region 7 with fail
        go_cut [] (fun wc=>StOn w p (stp7 (stp6 (stp5 (stp4 (stp3 (stp2 (stp1 (stp0 (s))))))))) wc)
        case first=>
         obtain ⟨hb,⟨h0,h1,h2,h3⟩,f0,f1,f2,f3⟩:=hS;generalize stp6 (stp5 (stp4 (stp3 (stp2 (stp1 (stp0 (s)))))))=s0 at *;obtain ⟨a,b,c,d⟩:=s0;simp only at h0 h1 h2 h3;go_region
         all_goals
          go_wp2_with fail;go_meet
          case rel=>exact ⟨by (repeat (first|exact But.refl _ _|assumption|refine But.drew ?_|refine But.drewN ?_ _|refine But.alloc ?_ _|refine But.set ?_ (by simp) _|refine But.trans ?_ (by assumption)|refine But.step ?_ (by assumption))),StAt.is (StAt.drew (StAt.set2 (s:=⟨a,b,c,d⟩) ⟨⟨h0,h1,h2,h3⟩,f0,f1,f2,f3⟩ _)) (by simp [stp7,IntKind.wrap_u64])⟩
        case rest=>
         replace hS:=hcut;clear hcut;go_upto_region 8 with fail
         go_cut [] (fun wc=>StOn w p (stp8 (stp7 (stp6 (stp5 (stp4 (stp3 (stp2 (stp1 (stp0 (s)))))))))) wc)
         case first=>
          obtain ⟨hb,⟨h0,h1,h2,h3⟩,f0,f1,f2,f3⟩:=hS;generalize stp7 (stp6 (stp5 (stp4 (stp3 (stp2 (stp1 (stp0 (s))))))))=s0 at *;obtain ⟨a,b,c,d⟩:=s0;simp only at h0 h1 h2 h3;go_region_with (go_at_call 239;refine (turned_is _ 17 _ (by decide)).mono ?_;rintro e w1 ⟨rfl,rfl⟩)
          all_goals
           go_wp2_with fail;go_meet
           case rel=>exact ⟨by (repeat (first|exact But.refl _ _|assumption|refine But.drew ?_|refine But.drewN ?_ _|refine But.alloc ?_ _|refine But.set ?_ (by simp) _|refine But.trans ?_ (by assumption)|refine But.step ?_ (by assumption))),StAt.is (StAt.drew (StAt.set1 (s:=⟨a,b,c,d⟩) ⟨⟨h0,h1,h2,h3⟩,f0,f1,f2,f3⟩ _)) (by simp [stp8])⟩
         case rest=>
          replace hS:=hcut;clear hcut;go_upto_region 9 with fail
          obtain ⟨hb,⟨h0,h1,h2,h3⟩,f0,f1,f2,f3⟩:=hS;generalize stp8 (stp7 (stp6 (stp5 (stp4 (stp3 (stp2 (stp1 (stp0 (s)))))))))=s0 at *;obtain ⟨a,b,c,d⟩:=s0;simp only at h0 h1 h2 h3;go_wp2_with (go_at_call 239;refine (turned_is _ 32 _ (by decide)).mono ?_;rintro e w1 ⟨rfl,rfl⟩);go_end0;exact ⟨rfl,by (repeat (first|exact But.refl _ _|assumption|refine But.drew ?_|refine But.drewN ?_ _|refine But.alloc ?_ _|refine But.set ?_ (by simp) _|refine But.trans ?_ (by assumption)|refine But.step ?_ (by assumption))),StAt.is (StAt.drew (StAt.set2 (s:=⟨a,b,c,d⟩) ⟨⟨h0,h1,h2,h3⟩,f0,f1,f2,f3⟩ _)) (by simp [stp9])⟩
end Go.Proofs.YtpapdkhjdelfcabGreat
