import Derived.Test.YtpapdkhjdelfcabGreatLBG
import Derived.Deep.QuietTactic
import Derived.BigQuiet
import Derived.Deep.RegionWith
namespace Go.Proofs.YtpapdkhjdelfcabGreat
open Go.RowKit
set_option maxRecDepth 100000
set_option maxHeartbeats 4000000
theorem KH:GP ⟨#[52,49,50,50]⟩:=IH [52,49,50,50] (by decide)
theorem Aj.four {a b c d:Int} (ha:Aj a) (hb:Aj b) (hc:Aj c) (hd:Aj d):∀t,Aj ([a,b,c,d].getD t 0):=by
 intro t
 match t with
 |0=>exact ha
 |1=>exact hb
 |2=>exact hc
 |3=>exact hd
 |_+4=>exact (show Aj 0 from ⟨by decide,by decide⟩)
theorem Xa (a:Nat) (b:Int) (ha:a≤255) (hb:0≤b) (hb2:b≤9223372036854775807):0≤bits .and .i64 (a:Int) b∧bits .and .i64 (a:Int) b≤255:=by
 obtain ⟨B,rfl⟩:=jM hb;rw [Oi a B (by omega) (by omega)];have:=Nat.and_le_left (n:=a) (m:=B);omega
theorem MY (vs:Value) (gen speaks:Int) (frame:ByteArray) (w:World) (hv:Do w vs gen) (hs1:0≤speaks) (hs3:speaks≤3) (hf:frame.size≤1099511627776):
  Calls Tryz.prog 54 #[vs,.int .i64 speaks,.string frame] w (En w Kz):=by
 go_enter Tryz.func54,Tryz.ntmps54;go_wp2_with fail;refine (KD frame _ hf).mono ?_;rintro e w1 ⟨q,ok,rfl,hb1,hq, -⟩;cases ok
 ·go_wp2;go_ret;exact ⟨_,rfl,hb1,trivial⟩
 by_cases h13:q.size=13
 rotate_left
 ·have h13':((q.size:Int) !=13)=true:=by rw [bne_iff_ne];omega
  go_wp2;go_ret;exact ⟨_,rfl,hb1,trivial⟩
 have h13a:13≤q.size:=by omega
 have h13b:q.size≤13:=by omega
 have h13':((q.size:Int) !=13)=false:=by rw [jc];omega
 clear h13;have hb0:=D4 q 0 (by omega);have hb5:=D4 q 5 (by omega);cases hQ:(((q[0]'(by omega)).toNat:Int) !=81)
 rotate_left
 ·go_wp2;go_ret;exact ⟨_,rfl,hb1,trivial⟩
 have hz1:(q.extract 1 5).size=4:=by simp;omega
 have hz2:(q.extract 6 10).size=4:=by simp;omega
 have hz3:(q.extract 11 13).size=2:=by simp;omega
 go_wp2_with fail;refine (Fu _ _ (by omega)).mono ?_;rintro e w2 ⟨rfl,rfl⟩;have n1:=Jx _ hz1;generalize BQ (q.extract 1 5).data.toList=has at *;have hand:=Xa (q[5]'(by omega)).toNat speaks (by omega) hs1 (by omega);go_wp2_with fail;refine (Fu _ _ (by omega)).mono ?_;rintro e w3 ⟨rfl,rfl⟩;have n2:=Jx _ hz2;generalize BQ (q.extract 6 10).data.toList=qgen at *;go_wp2_with fail;refine (Fu _ _ (by omega)).mono ?_;rintro e w4 ⟨rfl,rfl⟩;have n3:=Kg _ 2 (Nat.le_of_eq hz3);generalize BQ (q.extract 11 13).data.toList=k at *;obtain ⟨k0,k1⟩:=n3;have k1':k<65536:=by simpa using k1
 clear k1;obtain ⟨kk,rfl⟩:=jM k0;have k2:kk≤65535:=by omega
 clear k0 k1';generalize bits BinOp.and IntKind.i64 ((q[5]'(by omega)).toNat:Int) speaks=f at *;obtain ⟨f0,f1⟩:=hand;by_cases hf0:f=0
 ·subst hf0;go_wp2_with fail;refine (D3 _ _ (by decide)).mono ?_;rintro e w5 ⟨t,rfl,hb5, -⟩;go_wp2;go_ret;exact ⟨_,rfl,by (repeat (first|exact jD _|assumption|refine jA ?_|refine jB ?_|refine jC ?_|refine Aa.step_set ?_ (by simp <;>omega) _|refine jE ?_ (by assumption))),trivial⟩
 have hf0':(f==0)=false:=by simpa using hf0
 rcases hv with ⟨rfl,rfl⟩|⟨p,c,B,E,rfl,hSt,hOK,hWW⟩
 ·go_wp2_with fail;refine (D3 _ _ (by decide)).mono ?_;rintro e w5 ⟨t,rfl,hb5, -⟩;go_wp2;go_ret;exact ⟨_,rfl,by (repeat (first|exact jD _|assumption|refine jA ?_|refine jB ?_|refine jC ?_|refine Aa.step_set ?_ (by simp <;>omega) _|refine jE ?_ (by assumption))),trivial⟩
 have hSt1:=hSt.later hb1;have hgi:=hOK.2.1;obtain ⟨vB,vE,_,c6,_⟩:=hSt1;by_cases hhas:has=gen
 ·subst hhas;go_wp2_with fail;refine (D3 _ _ (by decide)).mono ?_;rintro e w5 ⟨t,rfl,hb5, -⟩;go_wp2;go_ret;exact ⟨_,rfl,by (repeat (first|exact jD _|assumption|refine jA ?_|refine jB ?_|refine jC ?_|refine Aa.step_set ?_ (by simp <;>omega) _|refine jE ?_ (by assumption))),trivial⟩
 have hhas':(has==gen)=false:=by simpa using hhas
 go_upto_region 12 with fail
 go_cut [13] (fun v13 wc=>w1=wc∧∃g:Bool,v13= .bool g)
 case first=>
  have hb10:=D4 q 10 (by omega);cases hf3:(f==3)<;>cases hqg:(qgen==gen)<;>cases hq10:(((q[10]'(by omega)).toNat:Int)==1)
  all_goals
   go_wp2_with fail;go_meet
   case rel=>exact ⟨rfl,_,rfl⟩
 case rest=>
  obtain ⟨rfl,goes,rfl⟩:=hcut;cases goes
  ·by_cases hf2:1<f
   ·go_wp2_with fail;refine (Fw p c gen B E _ _ (hSt.later hb1) hOK ⟨by omega,by omega⟩ (fun x hx=>⟨(hWW x hx).1.i64,(hWW x hx).2.i64⟩)).mono ?_;rintro e w5 ⟨t,rfl,hb5',ht1,ht2⟩;have d6:=hb5'.cell c6;go_upto_region 19 with fail
    go_cut [104] (fun v wc=>w5=wc∧∃b:Bool,v= .bool b∧(b=false→48 * kk≤t.size))
    case first=>
     cases hqg:(qgen !=gen)
     ·by_cases hkn:(kk:Int)<((t.size:Int)+47) / 48
      all_goals
       go_wp2_with fail;go_meet
       case rel=>exact ⟨rfl,_,rfl,fun h=>by first|omega|(cases h;done)|(simp at h;omega)⟩
     ·go_wp2_with fail;go_meet
      case rel=>exact ⟨rfl,_,rfl,fun h=>by cases h⟩
    case rest=>
     obtain ⟨rfl,b,rfl,hkk⟩:=hcut;go_upto_if 104 with fail
     go_cut [12] (fun v12 wc=>w5=wc∧∃k2:Nat,v12= .int .i64 k2∧48 * k2≤t.size∧k2≤65535)
     case first=>
      cases b
      ·have hk3:=hkk rfl;go_wp2_with fail;go_meet
       case rel=>exact ⟨rfl,kk,rfl,hk3,k2⟩
      ·go_wp2_with fail;go_meet
       case rel=>exact ⟨rfl,0,rfl,by omega,by omega⟩
     case rest=>
      obtain ⟨rfl,k3,rfl,hk3,hk4⟩:=hcut;clear hkk;go_upto_region 22 with fail
      have hpz:(t.extract (48 * k3) t.size).size≤9000000:=by simp;omega
      generalize t.extract (48 * k3) t.size=piece at *;go_upto_if 111 with fail
      all_goals
       go_cut [16] (fun v wc=>w5=wc∧∃pc:ByteArray,v= .string pc∧pc.size≤9000000)
       case first=>
        go_wp2_with fail
        all_goals
         go_meet
         case rel=>exact ⟨rfl,_,rfl,by first|exact hpz|(simp;omega)⟩
       case rest=>
        obtain ⟨rfl,pc,rfl,hpc⟩:=hcut;go_wp2_with fail;refine (FS _ 4 _ _ [gen,2,((t.size:Int)+47) / 48,(k3:Int)] _ rfl (by decide) KH (by intro t ht;match t,ht with|0,_=>simp|1,_=>simp|2,_=>simp|3,_=>simp) (Aj.four hgi ⟨by omega,by omega⟩ ⟨by omega,by omega⟩ ⟨by omega,by omega⟩)).mono ?_;rintro e w7 ⟨hh,rfl,hb7,hhh⟩;have hh2:hh.size≤36:=hhh;clear hhh;go_wp2_with fail;refine (D3 _ _ (by simp only [jY,show (({data:=#[65,1]}:ByteArray)).size=2 from rfl];omega)).mono ?_;rintro e w8 ⟨t8,rfl,hb8, -⟩;go_wp2;go_ret;exact ⟨_,rfl,by (repeat (first|exact jD _|assumption|refine jA ?_|refine jB ?_|refine jC ?_|refine Aa.step_set ?_ (by simp <;>omega) _|refine jE ?_ (by assumption))),trivial⟩
   ·go_wp2_with fail;refine (Fw p c gen B E _ _ (hSt.later hb1) hOK ⟨by omega,by omega⟩ (fun x hx=>⟨(hWW x hx).1.i64,(hWW x hx).2.i64⟩)).mono ?_;rintro e w5 ⟨t,rfl,hb5',ht1,ht2⟩;have d6:=hb5'.cell c6;go_upto_region 19 with fail
    go_cut [104] (fun v wc=>w5=wc∧∃b:Bool,v= .bool b∧(b=false→48 * kk≤t.size))
    case first=>
     cases hqg:(qgen !=gen)
     ·by_cases hkn:(kk:Int)<((t.size:Int)+47) / 48
      all_goals
       go_wp2_with fail;go_meet
       case rel=>exact ⟨rfl,_,rfl,fun h=>by first|omega|(cases h;done)|(simp at h;omega)⟩
     ·go_wp2_with fail;go_meet
      case rel=>exact ⟨rfl,_,rfl,fun h=>by cases h⟩
    case rest=>
     obtain ⟨rfl,b,rfl,hkk⟩:=hcut;go_upto_if 104 with fail
     go_cut [12] (fun v12 wc=>w5=wc∧∃k2:Nat,v12= .int .i64 k2∧48 * k2≤t.size∧k2≤65535)
     case first=>
      cases b
      ·have hk3:=hkk rfl;go_wp2_with fail;go_meet
       case rel=>exact ⟨rfl,kk,rfl,hk3,k2⟩
      ·go_wp2_with fail;go_meet
       case rel=>exact ⟨rfl,0,rfl,by omega,by omega⟩
     case rest=>
      obtain ⟨rfl,k3,rfl,hk3,hk4⟩:=hcut;clear hkk;go_upto_region 22 with fail
      have hpz:(t.extract (48 * k3) t.size).size≤9000000:=by simp;omega
      generalize t.extract (48 * k3) t.size=piece at *;go_upto_if 111 with fail
      all_goals
       go_cut [16] (fun v wc=>w5=wc∧∃pc:ByteArray,v= .string pc∧pc.size≤9000000)
       case first=>
        go_wp2_with fail
        all_goals
         go_meet
         case rel=>exact ⟨rfl,_,rfl,by first|exact hpz|(simp;omega)⟩
       case rest=>
        obtain ⟨rfl,pc,rfl,hpc⟩:=hcut;go_wp2_with fail;refine (FS _ 4 _ _ [gen,f,((t.size:Int)+47) / 48,(k3:Int)] _ rfl (by decide) KH (by intro t ht;match t,ht with|0,_=>simp|1,_=>simp|2,_=>simp|3,_=>simp) (Aj.four hgi ⟨by omega,by omega⟩ ⟨by omega,by omega⟩ ⟨by omega,by omega⟩)).mono ?_;rintro e w7 ⟨hh,rfl,hb7,hhh⟩;have hh2:hh.size≤36:=hhh;clear hhh;go_wp2_with fail;refine (D3 _ _ (by simp only [jY,show (({data:=#[65,1]}:ByteArray)).size=2 from rfl];omega)).mono ?_;rintro e w8 ⟨t8,rfl,hb8, -⟩;go_wp2;go_ret;exact ⟨_,rfl,by (repeat (first|exact jD _|assumption|refine jA ?_|refine jB ?_|refine jC ?_|refine Aa.step_set ?_ (by simp <;>omega) _|refine jE ?_ (by assumption))),trivial⟩
  ·by_cases hf2:1<f
   ·go_wp2_with fail;refine (Fw p c gen B E _ _ (hSt.later hb1) hOK ⟨by omega,by omega⟩ (fun x hx=>⟨(hWW x hx).1.i64,(hWW x hx).2.i64⟩)).mono ?_;rintro e w5 ⟨t,rfl,hb5',ht1,ht2⟩;have d6:=hb5'.cell c6;go_upto_region 19 with fail
    go_cut [104] (fun v wc=>w5=wc∧∃b:Bool,v= .bool b∧(b=false→48 * kk≤t.size))
    case first=>
     cases hqg:(qgen !=gen)
     ·by_cases hkn:(kk:Int)<((t.size:Int)+47) / 48
      all_goals
       go_wp2_with fail;go_meet
       case rel=>exact ⟨rfl,_,rfl,fun h=>by first|omega|(cases h;done)|(simp at h;omega)⟩
     ·go_wp2_with fail;go_meet
      case rel=>exact ⟨rfl,_,rfl,fun h=>by cases h⟩
    case rest=>
     obtain ⟨rfl,b,rfl,hkk⟩:=hcut;go_upto_if 104 with fail
     go_cut [12] (fun v12 wc=>w5=wc∧∃k2:Nat,v12= .int .i64 k2∧48 * k2≤t.size∧k2≤65535)
     case first=>
      cases b
      ·have hk3:=hkk rfl;go_wp2_with fail;go_meet
       case rel=>exact ⟨rfl,kk,rfl,hk3,k2⟩
      ·go_wp2_with fail;go_meet
       case rel=>exact ⟨rfl,0,rfl,by omega,by omega⟩
     case rest=>
      obtain ⟨rfl,k3,rfl,hk3,hk4⟩:=hcut;clear hkk;go_upto_region 22 with fail
      have hpz:(t.extract (48 * k3) t.size).size≤9000000:=by simp;omega
      generalize t.extract (48 * k3) t.size=piece at *;go_upto_if 111 with fail
      all_goals
       go_cut [16] (fun v wc=>w5=wc∧∃pc:ByteArray,v= .string pc∧pc.size≤9000000)
       case first=>
        go_wp2_with fail
        all_goals
         go_meet
         case rel=>exact ⟨rfl,_,rfl,by first|exact hpz|(simp;omega)⟩
       case rest=>
        obtain ⟨rfl,pc,rfl,hpc⟩:=hcut;go_wp2_with fail;refine (FS _ 4 _ _ [gen,1,((t.size:Int)+47) / 48,(k3:Int)] _ rfl (by decide) KH (by intro t ht;match t,ht with|0,_=>simp|1,_=>simp|2,_=>simp|3,_=>simp) (Aj.four hgi ⟨by omega,by omega⟩ ⟨by omega,by omega⟩ ⟨by omega,by omega⟩)).mono ?_;rintro e w7 ⟨hh,rfl,hb7,hhh⟩;have hh2:hh.size≤36:=hhh;clear hhh;go_wp2_with fail;refine (D3 _ _ (by simp only [jY,show (({data:=#[65,1]}:ByteArray)).size=2 from rfl];omega)).mono ?_;rintro e w8 ⟨t8,rfl,hb8, -⟩;go_wp2;go_ret;exact ⟨_,rfl,by (repeat (first|exact jD _|assumption|refine jA ?_|refine jB ?_|refine jC ?_|refine Aa.step_set ?_ (by simp <;>omega) _|refine jE ?_ (by assumption))),trivial⟩
   ·go_wp2_with fail;refine (Fw p c gen B E _ _ (hSt.later hb1) hOK ⟨by omega,by omega⟩ (fun x hx=>⟨(hWW x hx).1.i64,(hWW x hx).2.i64⟩)).mono ?_;rintro e w5 ⟨t,rfl,hb5',ht1,ht2⟩;have d6:=hb5'.cell c6;go_upto_region 19 with fail
    go_cut [104] (fun v wc=>w5=wc∧∃b:Bool,v= .bool b∧(b=false→48 * kk≤t.size))
    case first=>
     cases hqg:(qgen !=gen)
     ·by_cases hkn:(kk:Int)<((t.size:Int)+47) / 48
      all_goals
       go_wp2_with fail;go_meet
       case rel=>exact ⟨rfl,_,rfl,fun h=>by first|omega|(cases h;done)|(simp at h;omega)⟩
     ·go_wp2_with fail;go_meet
      case rel=>exact ⟨rfl,_,rfl,fun h=>by cases h⟩
    case rest=>
     obtain ⟨rfl,b,rfl,hkk⟩:=hcut;go_upto_if 104 with fail
     go_cut [12] (fun v12 wc=>w5=wc∧∃k2:Nat,v12= .int .i64 k2∧48 * k2≤t.size∧k2≤65535)
     case first=>
      cases b
      ·have hk3:=hkk rfl;go_wp2_with fail;go_meet
       case rel=>exact ⟨rfl,kk,rfl,hk3,k2⟩
      ·go_wp2_with fail;go_meet
       case rel=>exact ⟨rfl,0,rfl,by omega,by omega⟩
     case rest=>
      obtain ⟨rfl,k3,rfl,hk3,hk4⟩:=hcut;clear hkk;go_upto_region 22 with fail
      have hpz:(t.extract (48 * k3) t.size).size≤9000000:=by simp;omega
      generalize t.extract (48 * k3) t.size=piece at *;go_upto_if 111 with fail
      all_goals
       go_cut [16] (fun v wc=>w5=wc∧∃pc:ByteArray,v= .string pc∧pc.size≤9000000)
       case first=>
        go_wp2_with fail
        all_goals
         go_meet
         case rel=>exact ⟨rfl,_,rfl,by first|exact hpz|(simp;omega)⟩
       case rest=>
        obtain ⟨rfl,pc,rfl,hpc⟩:=hcut;go_wp2_with fail;refine (FS _ 4 _ _ [gen,1,((t.size:Int)+47) / 48,(k3:Int)] _ rfl (by decide) KH (by intro t ht;match t,ht with|0,_=>simp|1,_=>simp|2,_=>simp|3,_=>simp) (Aj.four hgi ⟨by omega,by omega⟩ ⟨by omega,by omega⟩ ⟨by omega,by omega⟩)).mono ?_;rintro e w7 ⟨hh,rfl,hb7,hhh⟩;have hh2:hh.size≤36:=hhh;clear hhh;go_wp2_with fail;refine (D3 _ _ (by simp only [jY,show (({data:=#[65,1]}:ByteArray)).size=2 from rfl];omega)).mono ?_;rintro e w8 ⟨t8,rfl,hb8, -⟩;go_wp2;go_ret;exact ⟨_,rfl,by (repeat (first|exact jD _|assumption|refine jA ?_|refine jB ?_|refine jC ?_|refine Aa.step_set ?_ (by simp <;>omega) _|refine jE ?_ (by assumption))),trivial⟩
theorem Ab.put {M:List Nat} {a w:World} (h:Ab M a w) {p:Addr} (hp:p.block∈M∨a.heap.size≤p.block) (u:Value):Ab M a (w.setCell p u):=
 Ab.mk h.os h.tape h.output (by have := h.size; simpa [World.setCell] using this) (fun k hk hm => by
   have hne : k ≠ p.block := fun e => by
     rcases hp with h1 | h1
     · exact hm (e ▸ h1)
     · omega
   rw [Below.heap_setCell _ _ _ _ hne]
   exact h.block k hk hm)
theorem BX.put0 {w:World} {p:Nat} {speaks:Int} {has:Value} {gen format:Int} {got:Value} {no:Bool} (h:BX w p speaks has gen format got no):
  (∀x:Int,BX (w.setCell ⟨p,2,none⟩ (.int .i64 x)) p speaks has x format got no)∧(∀x:Int,BX (w.setCell ⟨p,3,none⟩ (.int .i64 x)) p speaks has gen x got no)∧(∀v:Value,BX (w.setCell ⟨p,4,none⟩ v) p speaks has gen format v no)∧
  (∀b:Bool,BX (w.setCell ⟨p,5,none⟩ (.bool b)) p speaks has gen format got b)∧∀v:Value,BX (w.setCell ⟨p,1,none⟩ v) p speaks v gen format got no:=by
 obtain ⟨⟨h0,h1,h2,h3,h4,h5⟩,hf⟩:=h;refine ⟨fun x=>?_,fun x=>?_,fun x=>?_,fun x=>?_,fun x=>?_⟩
 ·exact ⟨⟨(Ad (by simp)).trans h0,(Ad (by simp)).trans h1,Bc h2,(Ad (by simp)).trans h3,(Ad (by simp)).trans h4,(Ad (by simp)).trans h5⟩,fun j=>by rw [Ag];exact hf j⟩
 ·exact ⟨⟨(Ad (by simp)).trans h0,(Ad (by simp)).trans h1,(Ad (by simp)).trans h2,Bc h3,(Ad (by simp)).trans h4,(Ad (by simp)).trans h5⟩,fun j=>by rw [Ag];exact hf j⟩
 ·exact ⟨⟨(Ad (by simp)).trans h0,(Ad (by simp)).trans h1,(Ad (by simp)).trans h2,(Ad (by simp)).trans h3,Bc h4,(Ad (by simp)).trans h5⟩,fun j=>by rw [Ag];exact hf j⟩
 ·exact ⟨⟨(Ad (by simp)).trans h0,(Ad (by simp)).trans h1,(Ad (by simp)).trans h2,(Ad (by simp)).trans h3,(Ad (by simp)).trans h4,Bc h5⟩,fun j=>by rw [Ag];exact hf j⟩
 ·exact ⟨⟨(Ad (by simp)).trans h0,Bc h1,(Ad (by simp)).trans h2,(Ad (by simp)).trans h3,(Ad (by simp)).trans h4,(Ad (by simp)).trans h5⟩,fun j=>by rw [Ag];exact hf j⟩
theorem BX.other {w:World} {p:Nat} {speaks:Int} {has:Value} {gen format:Int} {got:Value} {no:Bool} (h:BX w p speaks has gen format got no) {a:Addr} (ha:a.block≠p) (u:Value):BX (w.setCell a u) p speaks has gen format got no:=by
 obtain ⟨⟨h0,h1,h2,h3,h4,h5⟩,hf⟩:=h;have hs:∀o:Nat,(w.setCell a u).cell? ⟨p,o,none⟩=w.cell? ⟨p,o,none⟩:=fun o=>Ad (Or.inl ha)
 exact ⟨⟨(hs 0).trans h0,(hs 1).trans h1,(hs 2).trans h2,(hs 3).trans h3,(hs 4).trans h4,(hs 5).trans h5⟩,fun j=>by rw [Ag];exact hf j⟩
def CN (w:World) (p:Nat) (speaks:Int) (has got:Value) (gen format:Int) (got':Value) (ng:Nat) (no:Bool) (wr:World):Prop:=
 Ab (p::got.ownBlock.toList) w wr∧BX wr p speaks has gen format got' no∧Aj gen∧Aj format∧Di wr got' ng∧ng≤65535∧∀g,got'.ownBlock=some g→g≠p∧(got.ownBlock=some g∨w.heap.size≤g)
def Jy (w:World) (p:Nat) (speaks:Int) (has got:Value) (e:Ending) (w':World):Prop:=e= .returned (.tuple #[])∧∃(has' got':Value) (hg gen format:Int) (ng:Nat) (no:Bool),CN w p speaks has' got gen format got' ng no w'∧
 (has'=has∨∃q c B E,got'.ownBlock=none∧has'= .pointer (some ⟨q,0,none⟩)∧CL w.heap.size w' q c hg B E∧Dh c hg B E∧∀x∈E,Af x.2.1∧Af x.2.2)
theorem CN.done {w:World} {p:Nat} {speaks:Int} {has got:Value} {gen format:Int} {got':Value} {ng:Nat} {no:Bool} {wr:World} (h:CN w p speaks has got gen format got' ng no wr):Jy w p speaks has got (.returned (.tuple #[])) wr:=⟨rfl,has,got',0,gen,format,ng,no,h,Or.inl rfl⟩
theorem CN.later {w:World} {p:Nat} {speaks:Int} {has got:Value} {gen format:Int} {got':Value} {ng:Nat} {no:Bool} {wr wx:World} (h:CN w p speaks has got gen format got' ng no wr) (b:Aa wr wx):CN w p speaks has got gen format got' ng no wx:=by
 obtain ⟨h1,h2,h3,h4,h5,r⟩:=h;exact ⟨h1.step b,h2.later b,h3,h4,h5.later b,r⟩
theorem Di.put {w:World} {v:Value} {n:Nat} (h:Di w v n) {a:Addr} (ha:v.ownBlock≠some a.block) (u:Value):Di (w.setCell a u) v n:=by
 rcases h with h|⟨g,cap,rfl,hg,hc⟩
 ·exact Or.inl h
 ·refine Or.inr ⟨g,cap,rfl,by simpa [World.setCell] using hg,fun j hj=>?_⟩;obtain ⟨s,h1,h2,h3⟩:=hc j hj;have hne:a.block≠g:=fun e=>ha (by rw [e];rfl)
  exact ⟨s,(Ad (Or.inl hne)).trans h1,by rw [Ag];exact h2,h3⟩
theorem Di.set {w:World} {g n cap:Nat} (h:Di w (.slice (some ⟨g,0,none⟩) n cap) n) (k:Nat) (s:ByteArray) (hs:s.size≤48):Di (w.setCell ⟨g,k,none⟩ (.string s)) (.slice (some ⟨g,0,none⟩) n cap) n:=by
 rcases h with ⟨h,_⟩|⟨g',cap',hv,hg,hc⟩
 ·cases h
 ·simp only [Value.slice.injEq,Option.some.injEq,Addr.mk.injEq,and_true,true_and] at hv;obtain ⟨rfl,rfl⟩:=hv;refine Or.inr ⟨g,cap,rfl,by simpa [World.setCell] using hg,fun j hj=>?_⟩;obtain ⟨x,h1,h2,h3⟩:=hc j hj;by_cases hjk:k=j
  ·subst hjk;exact ⟨s,Bc h1,by rw [Ag];exact h2,hs⟩
  ·exact ⟨x,(Ad (Or.inr hjk)).trans h1,by rw [Ag];exact h2,h3⟩
theorem Di.made {w:World} {base g n:Nat} (h:w.ownsRow base 9 1 (.slice (some ⟨g,0,none⟩) n n) n (madeCells #[Value.string ByteArray.empty] n).toList):Di w (.slice (some ⟨g,0,none⟩) n n) n:=by
 refine Or.inr ⟨g,n,rfl,(World.ownsRow.lt h g rfl).2,fun j hj=>⟨ByteArray.empty,?_,World.ownsRow.frozenAt h j,by decide⟩⟩;rw [World.ownsRow.cellAt h j (by omega),toList_madeCells_one,List.getElem?_replicate,if_pos (by omega)]
theorem CN.fresh {w:World} {p:Nat} {speaks:Int} {has got:Value} {gen format:Int} {got':Value} {ng:Nat} {no:Bool} {w1 w3:World} {x y:Int} {n:Nat} (h:CN w p speaks has got gen format got' ng no w1) (hx:Aj x) (hy:Aj y) (hn:n≤65535) (hb:Aa ((w1.setCell ⟨p,2,none⟩ (.int .i64 x)).setCell ⟨p,3,none⟩ (.int .i64 y)) w3)
  (hs:Di w3 (.slice (some ⟨w1.heap.size,0,none⟩) n n) n) (hp:p<w1.heap.size):CN w p speaks has got x y (.slice (some ⟨w1.heap.size,0,none⟩) n n) n no (w3.setCell ⟨p,4,none⟩ (.slice (some ⟨w1.heap.size,0,none⟩) n n)):=by
 obtain ⟨q1,q2,q3,q4,q5,q6,q7⟩:=h;have b1:Ab (p::got.ownBlock.toList) w w3:=((q1.put (p:=⟨p,2,none⟩) (Or.inl (by simp)) _).put (p:=⟨p,3,none⟩) (Or.inl (by simp)) _).step hb;refine ⟨b1.put (Or.inl (by simp)) _,(((q2.put0.1 x).put0.2.1 y).later hb).put0.2.2.1 _,hx,hy,hs.put (by simp [Value.ownBlock];omega) _,hn,fun g hg=>?_⟩;simp [Value.ownBlock] at hg;have:=q1.size;exact ⟨by omega,Or.inr (by omega)⟩
theorem CN.piece {w:World} {p:Nat} {speaks:Int} {has got:Value} {gen format:Int} {g n cap:Nat} {no:Bool} {w1 w2:World} {k:Nat} {s:ByteArray} (h:CN w p speaks has got gen format (.slice (some ⟨g,0,none⟩) n cap) n no w1) (hs:s.size≤48) (hb:Aa (w1.setCell ⟨p,5,none⟩ (.bool false)) w2):
  CN w p speaks has got gen format (.slice (some ⟨g,0,none⟩) n cap) n false (w2.setCell ⟨g,k,none⟩ (.string s)):=by
 obtain ⟨q1,q2,q3,q4,q5,q6,q7⟩:=h;obtain ⟨g1,g2⟩:=q7 g rfl;have b1:Ab (p::got.ownBlock.toList) w w2:=(q1.put (p:=⟨p,5,none⟩) (Or.inl (by simp)) _).step hb;refine ⟨b1.put ?_ _,(((q2.put0.2.2.2.1 false).later hb).other g1 _),q3,q4,((q5.put (a:=⟨p,5,none⟩) (by simpa [Value.ownBlock] using g1) _).later hb).set k s hs,q6,q7⟩;rcases g2 with h|h
 ·exact Or.inl (by simp [h])
 ·exact Or.inr h
theorem CN.over {w:World} {p:Nat} {speaks:Int} {has got:Value} {gen format:Int} {got':Value} {ng:Nat} {no:Bool} {w1:World} (h:CN w p speaks has got gen format got' ng no w1):
  CN w p speaks has got 0 format (.slice none 0 0) 0 no ((w1.setCell ⟨p,2,none⟩ (.int .i64 0)).setCell ⟨p,4,none⟩ (.slice none 0 0)):=by
 obtain ⟨q1,q2,q3,q4,q5,q6,q7⟩:=h;exact ⟨(q1.put (p:=⟨p,2,none⟩) (Or.inl (by simp)) _).put (p:=⟨p,4,none⟩) (Or.inl (by simp)) _,(q2.put0.1 0).put0.2.2.1 _,⟨by decide,by decide⟩,q4,Or.inl ⟨rfl,rfl⟩,by omega,fun g hg=>by cases hg⟩
theorem CN.holds {w:World} {p:Nat} {speaks:Int} {has got:Value} {gen format:Int} {no:Bool} {w1:World} {q:Nat} {c:Ac} {hg:Int} {B:List BK} {E:List EN} {b:Nat} (h:CN w p speaks has got gen format (.slice none 0 0) 0 no w1) (hS:CL b w1 q c hg B E) (hb:w.heap.size≤b) (hp:p<w.heap.size) (hO:Dh c hg B E) (hW:∀x∈E,Af x.2.1∧Af x.2.2):
  Jy w p speaks has got (.returned (.tuple #[])) (w1.setCell ⟨p,1,none⟩ (.pointer (some ⟨q,0,none⟩))):=by
 obtain ⟨q1,q2,q3,q4,q5,q6,q7⟩:=h;refine ⟨rfl,.pointer (some ⟨q,0,none⟩),.slice none 0 0,hg,gen,format,0,no,⟨q1.put (Or.inl (by simp)) _,q2.put0.2.2.2.2 _,q3,q4,q5.put (by simp [Value.ownBlock]) _,q6,q7⟩,Or.inr ⟨q,c,B,E,rfl,rfl,?_,hO,hW⟩⟩;obtain ⟨vB,vE,⟨⟨h0,h1,h2,h3,h4,h5⟩,h6,h7,h8,h9,h10⟩,r1,r2,r3⟩:=hS;have hs:∀o:Nat,(w1.setCell ⟨p,1,none⟩ (.pointer (some ⟨q,0,none⟩))).cell? ⟨q,o,none⟩=w1.cell? ⟨q,o,none⟩:=fun o=>Ad (Or.inl (by simp only;omega))
 have hrow:∀{v:Value} {n:Nat} {xs:List Value},Ap w1 v n xs→(∀g,v.ownBlock=some g→b≤g)→Ap (w1.setCell ⟨p,1,none⟩ (.pointer (some ⟨q,0,none⟩))) v n xs:=fun {v n xs} hr hn=>by
  rcases hr with hr|⟨g,cap,rfl,hn',hgl,hc⟩
  ·exact Or.inl hr
  ·have hgb:=hn g rfl;refine Or.inr ⟨g,cap,rfl,hn',by simpa [World.setCell] using hgl,fun j u hu=>(Ad (Or.inl (by simp only;omega))).trans (hc j u hu)⟩
 exact ⟨vB,vE,⟨⟨(hs 0).trans h0,(hs 1).trans h1,(hs 2).trans h2,(hs 3).trans h3,(hs 4).trans h4,(hs 5).trans h5⟩,(hs 6).trans h6,(hs 7).trans h7,(hs 8).trans h8,hrow h9 r2,hrow h10 r3⟩,by omega,fun g hg=>jX hb (r2 g hg),fun g hg=>jX hb (r3 g hg)⟩
theorem Yz (p:Nat) (speaks:Int) (has:Value) (hg gen format:Int) (got:Value) (ng:Nat) (no:Bool) (frame:ByteArray) (w:World) (h:BX w p speaks has gen format got no) (hh:Do w has hg) (hge:Aj gen) (hfo:Aj format) (hgot:Di w got ng) (hng:ng≤65535) (hgp:∀g,got.ownBlock=some g→g≠p) (hfr:frame.size≤1099511627776):
  Calls Tryz.prog 109 #[.pointer (some ⟨p,0,none⟩),.string frame] w (Jy w p speaks has got):=by
 have hpw:p<w.heap.size:=World.block_lt_of_cell? w _ h.1.1;have HI0:Hid (CN w p speaks has got gen format got ng no w):=⟨Ab.refl _ _,h,hge,hfo,hgot,hng,fun g hg=>⟨hgp g hg,Or.inl hg⟩⟩;have HH:=jp hh;clear h hh hge hfo hgot hng hgp;obtain ⟨i0,hi,hz0,hz1,hz2⟩:=info_parts Tryz.infoStr;go_enter Tryz.func109,Tryz.ntmps109;go_wp2_with fail;refine (KD frame _ hfr).mono ?_;rintro e w1 ⟨a,ok,rfl,hb1,ha, -⟩;have HI1:=jp (HI0.out.later hb1);have HH1:=jp (HH.out.later hb1);clear HI0 HH hb1;cases ok
 ·go_wp2;(first|((try simp only [Exit.inBlock,Exit.then]);refine bodyPost_ret (results_none rfl _ _ _) rfl ?_)|go_end0);exact HI1.out.done
 by_cases h2:a.size<2
 ·have h2b:decide ((a.size:Int)<2)=true:=jL (by omega);go_wp2;(first|((try simp only [Exit.inBlock,Exit.then]);refine bodyPost_ret (results_none rfl _ _ _) rfl ?_)|go_end0);exact HI1.out.done
 have h2b:decide ((a.size:Int)<2)=false:=jK (by omega);have hby0:=D4 a 0 (by omega);cases hA:(((a[0]'(by omega)).toNat:Int) !=65)
 rotate_left
 ·go_wp2;(first|((try simp only [Exit.inBlock,Exit.then]);refine bodyPost_ret (results_none rfl _ _ _) rfl ?_)|go_end0);exact HI1.out.done
 have hby1:=D4 a 1 (by omega);by_cases h22:a.size=2
 ·have h22b:((a.size:Int)==2)=true:=by rw [h22];rfl
  obtain ⟨c0,c1,c2,c3,c4,c5⟩:=HI1.out.2.1.1;have f5:=HI1.out.2.1.2 5
  have HP:Hid (∀b:Bool,CN w p speaks has got gen format got ng b (w1.setCell ⟨p,5,none⟩ (.bool b))):=fun b=>by
   obtain ⟨q1,q2,q3,q4,q5,q6,q7⟩:=HI1.out;exact ⟨q1.put (Or.inl (by simp)) _,q2.put0.2.2.2.1 b,q3,q4,q5.put (fun e=>(q7 _ e).1 rfl) _,q6,q7⟩
  go_wp2
  all_goals (first|((try simp only [Exit.inBlock,Exit.then]);refine bodyPost_ret (results_none rfl _ _ _) rfl ?_)|go_end0)
  all_goals first|exact HI1.out.done|exact (HP.out _).done
 have h22b:((a.size:Int)==2)=false:=by rw [jI];omega
 cases hB:(((a[1]'(by omega)).toNat:Int) !=1)
 rotate_left
 ·go_wp2;(first|((try simp only [Exit.inBlock,Exit.then]);refine bodyPost_ret (results_none rfl _ _ _) rfl ?_)|go_end0);exact HI1.out.done
 by_cases h12:a.size<12
 ·have h12b:decide ((a.size:Int)<12)=true:=jL (by omega);go_wp2;(first|((try simp only [Exit.inBlock,Exit.then]);refine bodyPost_ret (results_none rfl _ _ _) rfl ?_)|go_end0);exact HI1.out.done
 have h12b:decide ((a.size:Int)<12)=false:=jK (by omega);by_cases h59:59<a.size
 ·have h59b:decide ((a.size:Int)>59)=true:=jL (by omega);go_wp2;(first|((try simp only [Exit.inBlock,Exit.then]);refine bodyPost_ret (results_none rfl _ _ _) rfl ?_)|go_end0);exact HI1.out.done
 have h59b:decide ((a.size:Int)>59)=false:=jK (by omega);have hz1:(a.extract 2 6).size=4:=by simp;omega
 have hz2:(a.extract 7 9).size=2:=by simp;omega
 have hz3:(a.extract 9 11).size=2:=by simp;omega
 have hby6:=D4 a 6 (by omega);go_wp2_with fail;refine (Fu _ _ (by omega)).mono ?_;rintro e w2 ⟨rfl,rfl⟩;have n1:=Jx _ hz1;generalize BQ (a.extract 2 6).data.toList=fgen at *;go_wp2_with fail;refine (Fu _ _ (by omega)).mono ?_;rintro e w2 ⟨rfl,rfl⟩;have n2:=Kg _ 2 (Nat.le_of_eq hz2);generalize BQ (a.extract 7 9).data.toList=fn at *;go_wp2_with fail;refine (Fu _ _ (by omega)).mono ?_;rintro e w2 ⟨rfl,rfl⟩;have n3:=Kg _ 2 (Nat.le_of_eq hz3);generalize BQ (a.extract 9 11).data.toList=fk at *;obtain ⟨n20,n21⟩:=n2;obtain ⟨n30,n31⟩:=n3;have n21':fn<65536:=by simpa using n21
 have n31':fk<65536:=by simpa using n31
 clear n21 n31 hz1 hz2 hz3;obtain ⟨nn,rfl⟩:=jM n20;obtain ⟨kk,rfl⟩:=jM n30;have hpg:=LC p speaks has hg gen format got no w1 HI1.out.2.1 HH1.out;go_wp2_with fail;refine hpg.mono ?_;rintro e w2 ⟨rfl,rfl⟩;clear hpg;obtain ⟨c0,c1,c2,c3,c4,c5⟩:=HI1.out.2.1.1;have hz4:(a.extract 11 a.size).size≤48:=by simp;omega
 have HZ4:=jp hz4;clear hA hB hby0 hby1 h2b h22b h12b h59b hz4;generalize hfb:((a[6]'(by omega)).toNat:Int)=fb at *;by_cases e1:fgen≤hg
 ·have e1b:decide (fgen≤hg)=true:=jL e1;go_wp2;(first|((try simp only [Exit.inBlock,Exit.then]);refine bodyPost_ret (results_none rfl _ _ _) rfl ?_)|go_end0);exact HI1.out.done
 have e1b:decide (fgen≤hg)=false:=jK e1;by_cases e2:fgen<gen
 ·have e2b:decide (fgen<gen)=true:=jL e2;go_wp2;(first|((try simp only [Exit.inBlock,Exit.then]);refine bodyPost_ret (results_none rfl _ _ _) rfl ?_)|go_end0);exact HI1.out.done
 have e2b:decide (fgen<gen)=false:=jK e2;by_cases e3:nn≤kk
 ·have e3b:decide ((kk:Int)≥(nn:Int))=true:=jL (by omega);go_wp2;(first|((try simp only [Exit.inBlock,Exit.then]);refine bodyPost_ret (results_none rfl _ _ _) rfl ?_)|go_end0);exact HI1.out.done
 have e3b:decide ((kk:Int)≥(nn:Int))=false:=jK (by omega);cases e4:(bits BinOp.and IntKind.i64 fb speaks==0)
 rotate_left
 ·go_wp2;(first|((try simp only [Exit.inBlock,Exit.then]);refine bodyPost_ret (results_none rfl _ _ _) rfl ?_)|go_end0);exact HI1.out.done
 have hnn:nn≤65535:=by omega
 have hkn:kk<nn:=by omega
 clear n20 n21' n30 n31';go_upto_if 108 with fail
 go_cut [7] (fun u wc=>u= .int .i64 fb∧∃(gen' format':Int) (got':Value) (ng':Nat),CN w p speaks has got gen' format' got' ng' no wc)
 case first=>
  by_cases e5:gen<fgen
  ·have e5b:decide (fgen>gen)=true:=jL e5;have f2:=HI1.out.2.1.2 2;have f3:=HI1.out.2.1.2 3;have f4:=HI1.out.2.1.2 4;have hplt:p<w1.heap.size:=jF c0;go_wp2_with (first|(at_make;refine wpList_make_full _ rfl _ _ 40 rfl w1.heap.size 9 i0 (.string ByteArray.empty) 1 Tryz.underlying40 hi hz0 hz1 _ _ _ _ nn rfl rfl rfl rfl ?b2 ?b3 ?b4 ?_))
   case b2=>first|omega|(rw [hz2];omega)
   case b3=>unfold maxLen;omega
   case b4=>simp [World.setCell]
   intro w3 hown3 hg3;have hb3:=(jD _).grown hg3 (fun g hg=>by cases hg);have HF:=jp (HI1.out.fresh ⟨by have:=n1.1;omega,by have:=n1.2;omega⟩ ⟨by omega,by omega⟩ hnn hb3 (Di.made hown3) hplt);have d4:w3.cell? ⟨p,4,none⟩=some got:=hb3.cell ((Ad (by simp)).trans ((Ad (by simp)).trans c4));have g4:w3.frozen? ⟨p,4,none⟩=false:=hb3.frozen ((Ad (by simp)).trans ((Ad (by simp)).trans c4)) (by rw [Ag,Ag];exact f4);clear hown3 hg3 hb3;go_wp2_with fail;go_meet
   case rel=>exact ⟨rfl,_,_,_,_,HF.out⟩
  ·have e5b:decide (fgen>gen)=false:=jK e5;go_wp2_with fail;go_meet
   case rel=>exact ⟨rfl,gen,format,got,ng,HI1.out⟩
 case rest=>
  obtain ⟨rfl,gen',format',got',ng',hI⟩:=hcut;have HI2:=jp hI;obtain ⟨d0,d1,d2,d3,d4,d5⟩:=hI.2.1.1;have hst:=hI.2.2.2.2.1;have hfz:=jp hI.2.1.2;clear hI HI1 HH1 c0 c1 c2 c3 c4 c5 e4 e1b e2b e3b;generalize wc=w2 at *;cases e6:(fb !=format')
  rotate_left
  ·rcases hst with ⟨rfl,rfl⟩|⟨g,cap,rfl, -, -⟩
   all_goals
    go_wp2;(first|((try simp only [Exit.inBlock,Exit.then]);refine bodyPost_ret (results_none rfl _ _ _) rfl ?_)|go_end0);exact HI2.out.done
  rcases hst with ⟨rfl,rfl⟩|⟨g,cap,rfl,hgl,hcs⟩
  ·have e7:((nn:Int) !=0)=true:=by rw [bne_iff_ne];omega
   go_wp2;(first|((try simp only [Exit.inBlock,Exit.then]);refine bodyPost_ret (results_none rfl _ _ _) rfl ?_)|go_end0);exact HI2.out.done
  by_cases h7:nn=ng'
  rotate_left
  ·have e7:((nn:Int) !=(ng':Int))=true:=by rw [bne_iff_ne];omega
   go_wp2;(first|((try simp only [Exit.inBlock,Exit.then]);refine bodyPost_ret (results_none rfl _ _ _) rfl ?_)|go_end0);exact HI2.out.done
  subst h7;have e7:((nn:Int) !=(nn:Int))=false:=by simp
  have f5:=hfz.out 5;have hgp:g≠p:=(HI2.out.2.2.2.2.2.2 g rfl).1;obtain ⟨s0,k0,k1, -⟩:=hcs kk hkn;have x4:(w2.setCell ⟨p,5,none⟩ (.bool false)).cell? ⟨p,4,none⟩=some (.slice (some ⟨g,0,none⟩) nn cap):=(Ad (by simp)).trans d4;have xk:(w2.setCell ⟨p,5,none⟩ (.bool false)).cell? ⟨g,kk,none⟩=some (.string s0):=(Ad (Or.inl hgp.symm)).trans k0;have fk:(w2.setCell ⟨p,5,none⟩ (.bool false)).frozen? ⟨g,kk,none⟩=false:=by rw [Ag];exact k1
  have HP:Hid (∀wx,Aa (w2.setCell ⟨p,5,none⟩ (.bool false)) wx→CN w p speaks has got gen' format' (.slice (some ⟨g,0,none⟩) nn cap) nn false (wx.setCell ⟨g,kk,none⟩ (.string (a.extract 11 a.size)))):=fun wx hb=>HI2.out.piece HZ4.out hb
  clear hcs k0 k1 HI2 d0 d1 d2;go_upto_region 18 with fail
  generalize w2.setCell ⟨p,5,none⟩ (.bool false)=w3 at *;have hpl:p<w3.heap.size:=jF x4;have hgl3:g<w3.heap.size:=jF xk;go_cut [9] (fun u wc=>u= .int .i64 (kk:Int)∧CN w p speaks has got gen' format' (.slice (some ⟨g,0,none⟩) nn cap) nn false wc)
  case first=>
   go_region_with fail
   all_goals
    go_wp2_with fail;go_meet
    case rel=>first|exact ⟨rfl,HP.out _ (by (repeat (first|exact jD _|assumption|refine jA ?_|refine jB ?_|refine jC ?_|refine Aa.step_set ?_ (by simp <;>omega) _|refine jE ?_ (by assumption))))⟩|exact ⟨rfl,(HP.out _ (by (repeat (first|exact jD _|assumption|refine jA ?_|refine jB ?_|refine jC ?_|refine Aa.step_set ?_ (by simp <;>omega) _|refine jE ?_ (by assumption))))).later (by (repeat (first|exact jD _|assumption|refine jA ?_|refine jB ?_|refine jC ?_|refine Aa.step_set ?_ (by simp <;>omega) _|refine jE ?_ (by assumption))))⟩
  case rest=>
   obtain ⟨rfl,hI⟩:=hcut;clear x4 xk fk HP hpl hgl3 d3 d4 d5 hfz f5;generalize wc=w4 at *;have HI4:=jp hI;obtain ⟨d0,d1,d2,d3,d4,d5⟩:=hI.2.1.1;have f1:=hI.2.1.2 1;have f2:=hI.2.1.2 2;have f4:=hI.2.1.2 4
   obtain hcs:∀j,j<nn→∃s:ByteArray,w4.cell? ⟨g,j,none⟩=some (.string s)∧s.size≤48:=fun j hj=>by
    rcases hI.2.2.2.2.1 with ⟨h,_⟩|⟨g',cap',hv, -,hc⟩
    ·cases h
    ·simp only [Value.slice.injEq,Option.some.injEq,Addr.mk.injEq,and_true,true_and] at hv;obtain ⟨rfl, -⟩:=hv;obtain ⟨s,h1, -,h3⟩:=hc j hj;exact ⟨s,h1,h3⟩
   have HCS:=jp hcs;clear hI hcs;go_wp2;go_loopg [11,12,13] nn (fun r va vw vi wr=>w4=wr∧∃(k:Nat) (all:ByteArray) (wh:Bool),r=nn - k∧k≤nn∧va= .string all∧vw= .bool wh∧vi= .int .i64 k∧all.size≤48 * k)
   case atStart=>exact ⟨rfl,0,_,true,by omega,by omega,rfl,rfl,rfl,by decide⟩
   case round=>
    obtain ⟨rfl,k,all,wh,hrk,hk,rfl,rfl,rfl,hall⟩:=hrel;by_cases hkl:k<nn
    ·have hkb:decide ((k:Int)<(nn:Int))=true:=jL (by omega);obtain ⟨s1,q1,q2⟩:=HCS.out k hkl;have hkn2:(k:Int)<(nn:Int):=by omega
     have HSZ:Hid ((all++s1).size≤48 * (k+1)):=by show (all++s1).size≤_;rw [jY];omega
     cases hw:wh
     ·go_wp2;go_roundg (nn - (k+1))
      case measure=>omega
      case rel=>exact ⟨rfl,k+1,_,_,rfl,by omega,rfl,rfl,by go_num,HSZ.out⟩
     ·go_wp2
      all_goals
       go_roundg (nn - (k+1))
       case measure=>omega
       case rel=>exact ⟨rfl,k+1,_,_,rfl,by omega,rfl,rfl,by go_num,HSZ.out⟩
    ·have hkb:decide ((k:Int)<(nn:Int))=false:=jK (by omega);cases wh
     ·go_wp2;(first|((try simp only [Exit.inBlock,Exit.then]);refine bodyPost_ret (results_none rfl _ _ _) rfl ?_)|go_end0);exact HI4.out.done
     ·have HO5:=jp HI4.out.over;have hal:all.size≤1099511627776:=by omega
      have hsz5:=HO5.out.1.size;have HSZ5:=jp hsz5;clear hsz5 HCS;go_wp2_with fail;refine (L7 all _ hal).mono ?_;rintro e w6 ⟨v,rf,ok,rfl,hb6,hok⟩;have HO6:=jp (HO5.out.later hb6);cases ok
      ·clear hok;go_wp2
       all_goals (first|((try simp only [Exit.inBlock,Exit.then]);refine bodyPost_ret (results_none rfl _ _ _) rfl ?_)|go_end0)
       all_goals exact HO6.out.done
      ·obtain ⟨q,c,rg,B,E,rfl,hq,hSN,hSO,hWW,hg1,hg2, -⟩:=hok rfl;have s6:w6.cell? ⟨q,6,none⟩=some (.int .i64 rg):=by obtain ⟨vB,vE,⟨_,h6,_⟩,_⟩:=hSN;exact h6
       have HF:=jp (HO6.out.holds hSN HSZ5.out hpw hSO hWW);have x1:=HO6.out.2.1.1.2.1;have y1:=HO6.out.2.1.2 1;clear hok hSN hSO hWW d0 d1 d2 d3 d4 d5 f1 f2 f4;go_wp2
       all_goals (first|((try simp only [Exit.inBlock,Exit.then]);refine bodyPost_ret (results_none rfl _ _ _) rfl ?_)|go_end0)
       all_goals first|exact HO6.out.done|exact HF.out
end Go.Proofs.YtpapdkhjdelfcabGreat
