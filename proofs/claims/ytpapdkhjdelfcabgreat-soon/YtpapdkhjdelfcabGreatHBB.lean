import Derived.Test.YtpapdkhjdelfcabGreatHBA
import Derived.Test.YtpapdkhjdelfcabGreatHAJ
set_option maxRecDepth 100000
set_option maxHeartbeats 4000000
namespace Go.Proofs.YtpapdkhjdelfcabGreat
open Go.RowKit
abbrev TP:=Nat×List UInt8
def tcells (T:List TP):List Value:=T.flatMap fun p=>[.int .i64 (p.1:Int),.string (txt p.2)]
theorem tcells_len (l:List TP):(tcells l).length=l.length * 2:=by
 induction l with
 |nil=>rfl
 |cons b l ih=>simp only [tcells,List.flatMap_cons,List.length_append,List.length_cons,List.length_nil] at ih ⊢;omega
theorem tcells_get (l:List TP) (j:Nat) (h:j<l.length):(tcells l)[j * 2]?=some (.int .i64 (l[j].1:Int))∧(tcells l)[j * 2+1]?=some (.string (txt l[j].2)):=by
 induction l generalizing j with
 |nil=>simp at h
 |cons b l ih=>
  cases j with
  |zero=>simp [tcells]
  |succ j=>
   have:=ih j (by simpa using h);have e:tcells (b::l)= .int .i64 (b.1:Int):: .string (txt b.2)::tcells l:=by simp [tcells]
   rw [e,show (j+1) * 2=j * 2+1+1 by omega];simpa using this
def ThAt (w:World) (v:Value) (T:List TP):Prop:=w.ownsRow 0 196 2 v T.length (tcells T)
theorem ThAt.open {w:World} {v:Value} {T:List TP} (h:ThAt w v T):∃ao cap,v= .slice ao T.length cap∧∀j (hj:j<T.length),∃g,ao=some ⟨g,0,none⟩∧w.cell? ⟨g,j * 2,none⟩=some (.int .i64 (T[j].1:Int))∧w.cell? ⟨g,j * 2+1,none⟩=some (.string (txt T[j].2)):=by
 rcases h.2 with ⟨h1,h2⟩|⟨g,cap,cur,h1,_⟩
 ·exact ⟨none,0,by rw [h1,h2],fun j hj=>by omega⟩
 ·refine ⟨_,_,h1,fun j hj=>⟨g,rfl,?_,?_⟩⟩
  ·have:=h.cells (g:=g) (by rw [h1];rfl) (j * 2) _ (tcells_get T j hj).1;have hadd:(⟨g,0,none⟩:Addr).add (j * 2)=⟨g,j * 2,none⟩:=by unfold Addr.add;split <;>simp_all
   rwa [hadd] at this
  ·have:=h.cells (g:=g) (by rw [h1];rfl) (j * 2+1) _ (tcells_get T j hj).2;have hadd:(⟨g,0,none⟩:Addr).add (j * 2+1)=⟨g,j * 2+1,none⟩:=by unfold Addr.add;split <;>simp_all
   rwa [hadd] at this
theorem ThAt.later {w w':World} {v:Value} {T:List TP} (h:ThAt w v T) (k:Bel w w'):ThAt w' v T:=own_laterW h k
def misK:List TP→Nat→Nat
 |[],k=>k
 |x::T,k=>if x.1=k then misK T (k+1) else k
def misF (T:List TP):Nat:=misK T 0
theorem misK_eq:∀(j:Nat) (T:List TP) (k:Nat) (_:j≤T.length),(∀i (h:i<T.length),i<j→T[i].1=k+i)→(∀(h:j<T.length),T[j].1≠k+j)→misK T k=k+j:=by
 intro j
 induction j with
 |zero=>
  intro T k _ _ hne
  match T with
  |[]=>rfl
  |x::T=>
   have h0:x.1≠k:=hne (by simp);rw [misK,if_neg h0];rfl
 |succ j ih=>
  intro T k hj hall hne
  match T with
  |[]=>simp at hj
  |x::T=>
   have h0:x.1=k:=hall 0 (by simp) (by omega)
   rw [misK, if_pos h0, ih T (k + 1) (by simpa using hj) (fun i h hi => by
     have := hall (i + 1) (by simpa using h) (by omega)
     have e : (x :: T)[i + 1] = T[i] := rfl
     rw [e] at this
     omega) (fun h e => hne (by simpa using h) (by
       have e2 : (x :: T)[j + 1]'(by simpa using h) = T[j] := rfl
       rw [e2]; omega))]
   omega
theorem misF_eq {k:Nat} {T:List TP} (hk:k≤T.length) (hall:∀i (h:i<T.length),i<k→T[i].1=i) (hne:∀(h:k<T.length),T[k].1≠k):misF T=k:=by
 have:=misK_eq k T 0 hk (fun i h hi=>by rw [hall i h hi];omega) (fun h=>by have:=hne h;omega);rw [misF,this];omega
theorem missing_is (q:Nat) (vT:Value) (T:List TP) (w:World) (c13:w.cell? ⟨q,13,none⟩=some vT) (hT:ThAt w vT T) (hl:T.length≤1048576):
  Calls Tryz.prog 111 #[.pointer (some ⟨q,10,none⟩)] w (RNat w (misF T)):=by
 obtain ⟨ao,cap,rfl,hc⟩:=hT.open;clear hT;go_enter Tryz.func111,Tryz.ntmps111;go_wp2;go_loopg [3] T.length (fun r n wr=>w=wr∧∃k:Nat,r=T.length - k∧n= .int .i64 k∧k≤T.length∧∀i (h:i<T.length),i<k→T[i].1=i)
 case atStart=>exact ⟨rfl,0,by omega,rfl,by omega,fun i h hi=>by omega⟩
 case round=>
  obtain ⟨rfl,k,hr,rfl,hk,hall⟩:=hrel;have HA:=Hid.mk hall;clear hall;by_cases hlt:k<T.length
  ·obtain ⟨g,rfl,e0,e1⟩:=hc k hlt
   have HY:Hid (T[k].1=k→∀i (h:i<T.length),i<k+1→T[i].1=i):=fun h0 i h hi=>by
    by_cases hik:i=k
    ·subst hik;exact h0
    ·exact HA.out i h (by omega)
   have HN:Hid (T[k].1≠k→misF T=k):=fun h0=>misF_eq hk HA.out (fun _=>h0)
   clear hc e1 HA;generalize T[k].1=x at *;by_cases hx:x=k
   ·subst hx;replace HY:=Hid.mk (HY.out rfl);go_wp2_with fail;go_roundg (T.length - (x+1))
    case measure=>omega
    case rel=>exact ⟨rfl,x+1,rfl,by go_num,by omega,HY.out⟩
   ·have hxb:((x:Int)==(k:Int))=false:=by rw [beq_eq_false_iff_ne];omega
    replace HN:=Hid.mk (HN.out hx);go_wp2;go_ret;exact ⟨ret_int (by rw [HN.out]),by (repeat (first|exact Bel.refl _|assumption|refine Bel.step_alloc ?_ _|refine Bel.step_drew ?_|refine Bel.step_drewN ?_ _|refine Bel.step_set ?_ (by simp <;>omega) _|refine Bel.trans ?_ (by assumption)))⟩
  ·have HN:Hid (misF T=k):=misF_eq hk HA.out (fun h=>absurd h hlt);clear hc HA;go_wp2;go_ret;exact ⟨ret_int (by rw [HN.out]),by (repeat (first|exact Bel.refl _|assumption|refine Bel.step_alloc ?_ _|refine Bel.step_drew ?_|refine Bel.step_drewN ?_ _|refine Bel.step_set ?_ (by simp <;>omega) _|refine Bel.trans ?_ (by assumption)))⟩
theorem whole_is (q cp:Nat) (vT:Value) (T:List TP) (w:World) (c12:w.cell? ⟨q,12,none⟩=some (.int .i64 (cp:Int))) (c13:w.cell? ⟨q,13,none⟩=some vT) (hT:ThAt w vT T):
  Calls Tryz.prog 176 #[.pointer (some ⟨q,10,none⟩)] w (RShort w ((T.length:Int)==(cp:Int))):=by
 obtain ⟨ao,cap,rfl,hc⟩:=hT.open;clear hT hc;go_enter Tryz.func176,Tryz.ntmps176;go_wp2_with fail;go_quiet (fail);go_wp2;go_ret;exact ⟨rfl,by (repeat (first|exact Bel.refl _|assumption|refine Bel.step_alloc ?_ _|refine Bel.step_drew ?_|refine Bel.step_drewN ?_ _|refine Bel.step_set ?_ (by simp <;>omega) _|refine Bel.trans ?_ (by assumption)))⟩
def thB (T:List TP):List UInt8:=T.flatMap fun p=>p.2
theorem thB_len {T:List TP} (h:∀p∈T,p.2.length≤65536):(thB T).length≤65536 * T.length:=by
 induction T with
 |nil=>simp [thB]
 |cons b T ih=>
  have h1:=h b (by simp);have h2:=ih (fun x hx=>h x (by simp [hx]));simp only [thB,List.flatMap_cons,List.length_append,List.length_cons] at h2 ⊢;omega
theorem timage_is (d:Nat) (vT:Value) (T:List TP) (w:World) (c3:w.cell? ⟨d,3,none⟩=some vT) (hT:ThAt w vT T) (hl:T.length≤65536) (hs:∀p∈T,p.2.length≤65536):
  Calls Tryz.prog 216 #[.pointer (some ⟨d,0,none⟩)] w (RTx w (thB T)):=by
 obtain ⟨ao,cap,rfl,hc⟩:=hT.open;have hdl:d<w.heap.size:=World.block_lt_of_cell? w _ c3;have hdn:d≠w.heap.size:=by omega
 have hI0:=WrI.new w 149;have HI0:=Hid.mk hI0
 have HLb:Hid (∀k,(thB (T.take k)).length≤4294967296):=fun k=>by
  have h1:=thB_len (T:=T.take k) (fun p hp=>hs p (List.mem_of_mem_take hp));have h2:=List.length_take_le' k T;have h3:65536 * (T.take k).length≤65536 * 65536:=Nat.mul_le_mul (Nat.le_refl _) (by omega);omega
 clear hT hI0;go_enter Tryz.func216,Tryz.ntmps216;go_wp2;go_loopg [11] T.length (fun r n wr=>∃k:Nat,r=T.length - k∧k≤T.length∧n= .int .i64 k∧WrI (fun _=>none) w w.heap.size (bytesBits (thB (T.take k))) wr)
 case atStart=>exact ⟨0,by omega,by omega,rfl,by simpa [thB,bytesBits] using HI0.out⟩
 case round=>
  obtain ⟨k,hr,hk,rfl,hI⟩:=hrel;have HI:=Hid.mk hI;clear hI HI0;by_cases hlt:k<T.length
  ·obtain ⟨g,rfl,c0,c1⟩:=hc k hlt;have hBel:=HI.out.1;have c0':=hBel.cell c0;have c1':=hBel.cell c1;have hsz:(txt T[k].2).size≤65536:=by have:=hs _ (List.getElem_mem hlt);simpa [txt,ByteArray.size] using this
   obtain ⟨LL,hLL⟩:∃LL,LL=bytesBits (thB (T.take k)):=⟨_,rfl⟩
   have HS:Hid (bytesBits (thB (T.take (k+1)))=LL++bytesBits (txt T[k].2).data.toList):=by
    show _=_;rw [hLL,txt_list,List.take_succ_eq_append_getElem hlt,thB,thB,List.flatMap_append,bytesBits_app];simp
   have hll:LL.length≤34359738368:=by
    have:=HLb.out k;rw [hLL,bytesBits_len];omega
   rw [←hLL] at HI;clear hLL;generalize T[k].1=nk at *;generalize txt T[k].2=tk at *;obtain ⟨K1,hk1,hk2,hI'⟩:=HI.out.box (.cells #[.int .i64 (nk:Int),.string tk] 196) (fun cur e=>by injection e with _ e;revert e;decide);have H1:=Hid.mk (wtext_is w w.heap.size LL tk _ hI' (by omega));have HK2:=Hid.mk hk2;clear hc c0 c1 hBel HLb hI' hk1 hk2 HI;go_wp2_with fail;refine H1.out.mono ?_;rintro e w2 ⟨rfl,hI2⟩;have HI4:=Hid.mk (hI2.drop (K':=fun _=>none) HK2.out);clear hI2 H1;go_wp2_with fail;go_roundg (T.length - (k+1))
   case measure=>omega
   case rel=>
    refine ⟨k+1,rfl,by omega,by go_num,?_⟩;rw [HS.out];exact HI4.out
  ·have HE:Hid (T.take k=T):=List.take_of_length_le (by omega);have hlb:=HLb.out k;have hd:=wdone_is w w.heap.size _ _ HI.out (by rw [bytesBits_len];omega)
   have e:packB (bytesBits (thB (T.take k)))=thB T:=by
    have:=packB_bytes (thB (T.take k)) [];rw [List.append_nil] at this;rw [this,HE.out];simp [packB]
   unfold RTxt at hd;rw [e] at hd;have HD:=Hid.mk hd;clear hc HLb hd e hlb;generalize thB T=TB at *;go_wp2_with fail;refine HD.out.mono ?_;rintro e w2 ⟨rfl,hI2⟩;have HB2:=Hid.mk hI2.1;clear hI2 HD;go_wp2;go_ret;exact ⟨rfl,HB2.out⟩
end Go.Proofs.YtpapdkhjdelfcabGreat
namespace Go.Proofs.YtpapdkhjdelfcabGreat
open Go.RowKit
theorem run_append_own2 {P:Program} (w:World) (base:Nat) (t ty e:TypeId) (i:TypeInfo) (z:Value) (size bytes:Nat) (ht:P.underlying t=some (.slice e)) (hi:P.info? e=some i) (hz:i.zero=some z)
  (hsize:i.size=size) (hby:i.bytes=bytes) (hzs:z.cells.size=size) (hsz:0<size)
  (v:Value) (n:Nat) (xs:List Value) (hown:w.ownsRow base e size v n xs)
  (a:Addr) (m c:Nat) (news:List Value) (hl:news.length=m * size) (hnews:∀j u,news[j]?=some u→w.cell? (a.add j)=some u) (h1:∀u∈news,u.oneCell'=true)
  (h63:n+m≤maxLen) (hbytes:(n+m) * bytes≤140737488355328) (hbase:base≤w.heap.size):
  ∃v' w',(Builtin.append_ #[t,t] ty #[v,.slice (some a) m c]).run P w= .ok v' w'∧w'.ownsRow base e size v' (n+m) (xs++news)∧w.grownBy w' v.ownBlock∧(v'.ownBlock=v.ownBlock∨v'.ownBlock=some w.heap.size):=by
 obtain ⟨v',w',hr,h2,h3,h4⟩:=run_append_own (P:=P) w base t ty e i z size bytes ht hi hz hsize hby hzs hsz v n xs hown a m c news hl hnews h1 h63 hbytes hbase;refine ⟨v',w',hr,h2,h3,?_⟩;subst hsize;subst hby;have hsmall:n+m≤9223372036854775807:=by simp only [maxLen] at h63;omega
 rcases hown.2 with ⟨rfl,rfl⟩|⟨g,cap,cur,rfl,hbg,hg,hnc,hcm,hcs,htake⟩
 ·by_cases hm:m=0
  ·have:=h4.2 ⟨rfl,hm⟩;subst this;exact Or.inl rfl
  ·have hr2:=run_append_nil (P:=P) w t ty e i z ht hi hz a m c news hl hnews (by omega) (by omega) (by have hb:=hbytes;simp only [Nat.zero_add] at hb;omega);rw [hr] at hr2;injection hr2 with hv hw
   rw [hv];exact Or.inr rfl
 ·by_cases hroom:n+m≤cap
  ·have hfit:n * i.size+news.length≤cur.size:=by rw [hl,hcs,←Nat.add_mul];exact Nat.mul_le_mul_right _ hroom
   have hr2:=run_append_room (P:=P) w t ty e i ht hi g n cap cur hg a m c news hl hnews h1 hroom hfit;rw [hr] at hr2;injection hr2 with hv hw
   rw [hv];exact Or.inl rfl
  ·have holds:∀j u,xs[j]?=some u→w.cell? ((⟨g,0,none⟩:Addr).add j)=some u:=hown.cells (g:=g) rfl;have hr2:=run_append_grow (P:=P) w t ty e i z ht hi hz ⟨g,0,none⟩ n cap xs hown.1 holds a m c news hl hnews (by omega) (by omega) (growslice_fits (by omega) hbytes);rw [hr] at hr2;injection hr2 with hv hw
   rw [hv];exact Or.inr rfl
theorem wpList_append_own2 {P:Program} (w:World) {ops:Array Oper} {rest:List Oper} {o:Oper} {a:Act} {Q:Exit→Act→World→Prop} (hgd:o.guard=none) (s x:Operand) (t:TypeId)
  (ho:o.op= .call {callee:= .builtin .append,args:=#[s,x],argTypes:=#[t,t]})
  (base:Nat) (e:TypeId) (i:TypeInfo) (z:Value) (size bytes:Nat) (ht:P.underlying t=some (.slice e)) (hi:P.info? e=some i) (hz:i.zero=some z)
  (hsize:i.size=size) (hby:i.bytes=bytes) (hzs:z.cells.size=size) (hsz:0<size)
  (v:Value) (n:Nat) (xs:List Value) (hs:a.eval s=v) (hown:w.ownsRow base e size v n xs)
  (ad:Addr) (m c:Nat) (news:List Value) (hx:a.eval x= .slice (some ad) m c) (hl:news.length=m * size) (hnews:∀j u,news[j]?=some u→w.cell? (ad.add j)=some u) (h1:∀u∈news,u.oneCell'=true)
  (h63:n+m≤maxLen) (hbytes:(n+m) * bytes≤140737488355328) (hbase:base≤w.heap.size)
  (h:∀v' w',w'.ownsRow base e size v' (n+m) (xs++news)→w.grownBy w' v.ownBlock→(v'.ownBlock=v.ownBlock∨v'.ownBlock=some w.heap.size)→wpList P ops Q rest (a.put o.dst v') w'):wpList P ops Q (o::rest) a w:=
 wpList_plain hgd fun _ hK=>by
  obtain ⟨v',w',hr,h2,h3,h4⟩:=run_append_own2 (P:=P) w base t o.type e i z size bytes ht hi hz hsize hby hzs hsz v n xs hown ad m c news hl hnews h1 h63 hbytes hbase;unfold Oper.wp execOp;simp only [ho,resolve,invoke,builtin,Sem.run_bind,Sem.run_pure,Result.andThen_ok,List.map_toArray,List.map_cons,List.map_nil,hs,hx,hr];exact hK _ _ (h v' w' h2 h3 h4)
end Go.Proofs.YtpapdkhjdelfcabGreat
namespace Go.Proofs.YtpapdkhjdelfcabGreat
open Go.RowKit
theorem Tryz.infoTP:(Tryz.prog.info? 196).map (fun i=>(i.zero,i.size,i.bytes))=some (some (.agg #[.int .i64 0,.string ByteArray.empty]),2,24):=by kernel_rfl
def gl (v:Value):List Nat:=v.ownBlock.toList
theorem tcells_snoc (L:List TP) (b:TP):tcells (L++[b])=tcells L++[.int .i64 (b.1:Int),.string (txt b.2)]:=by simp [tcells]
theorem tcells_set (L:List TP) (i:Nat) (p:TP):tcells (L.set i p)=((tcells L).set (i * 2) (.int .i64 (p.1:Int))).set (i * 2+1) (.string (txt p.2)):=by
 induction L generalizing i with
 |nil=>simp [tcells]
 |cons b L ih=>
  have e:∀(b:TP) (L:List TP),tcells (b::L)= .int .i64 (b.1:Int):: .string (txt b.2)::tcells L:=fun b L=>by simp [tcells]
  cases i with
  |zero=>simp [e]
  |succ i=>
   rw [List.set_cons_succ,e,e,ih,show (i+1) * 2=i * 2+1+1 by omega];simp
theorem ThAt.set {w:World} {g cap:Nat} {n:Nat} {L:List TP} (h:ThAt w (.slice (some ⟨g,0,none⟩) n cap) L) (i:Nat) (p:TP):ThAt ((w.setCell ⟨g,i * 2,none⟩ (.int .i64 (p.1:Int))).setCell ⟨g,i * 2+1,none⟩ (.string (txt p.2))) (.slice (some ⟨g,0,none⟩) n cap) (L.set i p):=by
 unfold ThAt at h ⊢
 have hn:n=L.length:=by
  rcases h.2 with ⟨h1,_⟩|⟨g',cap',cur,h1,_⟩
  ·cases h1
  ·simp only [Value.slice.injEq] at h1;exact h1.2.1
 subst hn;have h1:=(World.ownsRow.stored h (i * 2) (.int .i64 (p.1:Int))).1;have h2:=(World.ownsRow.stored h1 (i * 2+1) (.string (txt p.2))).1;rw [tcells_set,List.length_set];exact h2
theorem ThAt.free {w:World} {g n cap:Nat} {L:List TP} (h:ThAt w (.slice (some ⟨g,0,none⟩) n cap) L) (j:Nat):w.frozen? ⟨g,j,none⟩=false:=by
 rcases h.2 with ⟨h1,_⟩|⟨g',cap',cur,h1,_,h2,_⟩
 ·cases h1
 ·simp only [Value.slice.injEq,Option.some.injEq,Addr.mk.injEq] at h1;have hg:g=g':=h1.1.1;subst hg;simp [World.frozen?,h2]
theorem ThAt.nbox {w:World} {g n cap q:Nat} {L:List TP} {tq:TypeId} {cs:Array Value} (h:ThAt w (.slice (some ⟨g,0,none⟩) n cap) L) (hQ:BoxC q tq cs w) (htq:tq≠196):g≠q:=fun e=>by
 rcases h.2 with ⟨h1,_⟩|⟨g',cap',cur,h1,_,h2,_⟩
 ·cases h1
 ·simp only [Value.slice.injEq,Option.some.injEq,Addr.mk.injEq] at h1;have hg:g=g':=h1.1.1;subst hg;subst e;rw [BoxC,h2] at hQ;injection hQ with hQ
  injection hQ with _ hQ
  exact htq hQ.symm
theorem but_row {q:Nat} {v:Value} {w X w5:World} (hX:Bel w X) (hg:X.grownBy w5 v.ownBlock):But (q::gl v) w w5:=
 But.mk (hg.os.trans hX.below.os) (hg.tape.trans hX.below.tape) (hg.output.trans hX.below.output) (Nat.le_trans hX.size hg.size) (fun k hk hm=>(hg.block k (Nat.lt_of_lt_of_le hk hX.size) (fun e=>hm (List.mem_cons_of_mem _ (by unfold gl;rw [←e];simp)))).trans (hX.block k hk))
def RoomP (T:List TP) (place:Nat) (L:List TP):Prop:=L.length=T.length+1∧(∀j,j<place→L[j]?=T[j]?)∧(∀j,place≤j→j<T.length→L[j+1]?=T[j]?)
def RRoom (q:Nat) (tq:TypeId) (cs:Array Value) (T:List TP) (place:Nat) (vT:Value) (w:World) (e:Ending) (w':World):Prop:=
 ∃g cap L,e= .returned (.tuple #[])∧BoxC q tq (cs.setIfInBounds 13 (.slice (some ⟨g,0,none⟩) (T.length+1) cap)) w'∧ThAt w' (.slice (some ⟨g,0,none⟩) (T.length+1) cap) L∧RoomP T place L∧But (q::gl vT) w w'∧(some g=vT.ownBlock∨w.heap.size≤g)
theorem room_is (q:Nat) (tq:TypeId) (cs:Array Value) (T:List TP) (place:Nat) (vT:Value) (w:World) (hQ:BoxC q tq cs w) (h13:cs[13]?=some vT) (hT:ThAt w vT T) (hl:T.length≤65536) (hp:place≤T.length) (htq:tq≠196):
  Calls Tryz.prog 215 #[.pointer (some ⟨q,10,none⟩),.int .i64 (place:Int)] w (RRoom q tq cs T place vT w):=by
 obtain ⟨i0,hi,hz0,hz1,hz2⟩:=info_parts Tryz.infoTP;have c13:=hQ.cell 13 h13;have f13:=hQ.free 13;have hql:=hQ.lt;obtain ⟨ao,cap,rfl⟩:=own_sliceW hT;have HQ:=Hid.mk hQ;have HT:=Hid.mk hT
 have hqT:Hid (Value.ownBlock (.slice ao T.length cap)≠some q):=fun e=>by
  rcases hT.2 with ⟨g1,_⟩|⟨g,cap',cur,g1,_,g2,_⟩
  ·rw [g1] at e;cases e
  ·rw [g1] at e;have hg:g=q:=by simpa [Value.ownBlock] using e
   subst hg;rw [BoxC,g2] at hQ;injection hQ with hQ
   injection hQ with _ hQ
   exact htq hQ.symm
 clear hQ hT;go_enter Tryz.func215,Tryz.ntmps215;go_wp2_with (first|(at_builtin;refine wpList_append_own2 _ rfl _ _ 142 rfl 0 196 i0 (.agg #[.int .i64 0,.string ByteArray.empty]) 2 24 Tryz.underlying142 hi hz0 hz1 hz2 rfl (by decide) _ T.length (tcells T) rfl ?p1a ⟨w.heap.size,0,none⟩ 1 1 [.int .i64 0,.string ⟨#[]⟩] rfl rfl ?da1 ?da2 ?da3 ?da4 ?da5 ?_))
 case p1a=>exact World.ownsRow.alloc HT.out _
 try (case da1=>exact two_new _ _ _ _ _ (by simp))
 case da2=>first|exact ⟨rfl,rfl⟩|exact two_one rfl rfl|(intro u hu;simp at hu;rcases hu with rfl|rfl <;>rfl)
 case da3=>unfold maxLen;omega
 case da4=>omega
 case da5=>omega
 intro v5 w5 hown5 hgrow5 hwh5
 have hT5:ThAt w5 v5 (T++[(0,[])]):=by
  unfold ThAt;rw [tcells_snoc,List.length_append];exact hown5
 obtain ⟨g,cap5,rfl⟩:∃g cap5,v5= .slice (some ⟨g,0,none⟩) (T.length+1) cap5:=by
  rcases hown5.2 with ⟨g1,g2⟩|⟨g,cap',cur,g1,_⟩
  ·omega
  ·exact ⟨g,cap',g1⟩
 have hgw:some g=(Value.slice ao T.length cap).ownBlock∨w.heap.size≤g:=by
  rcases hwh5 with h|h
  ·exact Or.inl (by rw [←h];rfl)
  ·right;have:g=w.heap.size+1:=by simpa [Value.ownBlock] using h
   omega
 have hX:Bel w (w.alloc (.cells #[.int .i64 0,.string ⟨#[]⟩] 196)):=(Bel.refl w).step_alloc _;have hB5:But (q::gl (.slice ao T.length cap)) w w5:=but_row hX hgrow5;have hQ5:BoxC q tq cs w5:=HQ.out.kept ((hgrow5.block q (by simp;omega) (fun e=>hqT.out e.symm)).trans (hX.block q hql));have hgq:g≠q:=hT5.nbox hQ5 htq;obtain ⟨W1,hW1⟩:∃W1,W1=w5.setCell ⟨q,13,none⟩ (.slice (some ⟨g,0,none⟩) (T.length+1) cap5):=⟨_,rfl⟩;have HQ1:Hid (BoxC q tq (cs.setIfInBounds 13 (.slice (some ⟨g,0,none⟩) (T.length+1) cap5)) W1):=by show BoxC _ _ _ W1;rw [hW1];exact hQ5.set 13 _ rfl
 have HT1:Hid (ThAt W1 (.slice (some ⟨g,0,none⟩) (T.length+1) cap5) (T++[(0,[])])):=by
  show ThAt _ _ _;rw [hW1];exact ownsRow_setCell_other hT5 (fun e=>hgq (by simpa [Value.ownBlock] using e)) _
 have HB1:Hid (But (q::gl (.slice ao T.length cap)) w W1):=by show But _ _ _;rw [hW1];exact hB5.set (by simp) _
 have h13b:(cs.setIfInBounds 13 (.slice (some ⟨g,0,none⟩) (T.length+1) cap5))[13]?=some (.slice (some ⟨g,0,none⟩) (T.length+1) cap5):=by
  have hlt:13<cs.size:=by
   rcases Nat.lt_or_ge 13 cs.size with h|h
   ·exact h
   ·rw [Array.getElem?_eq_none h] at h13;cases h13
  simp [hlt]
 have x13:=hQ5.cell 13 h13;have y13:=hQ5.free 13;have z13:=HQ1.out.cell 13 h13b;have HGW:=Hid.mk hgw;have HH13:=Hid.mk h13b;clear hB5 hQ5 hT5 hX hown5 hgrow5 hwh5 hgw c13 f13 HQ HT hqT h13 h13b;obtain ⟨cs1,hcs1⟩:∃cs1,cs1=cs.setIfInBounds 13 (.slice (some ⟨g,0,none⟩) (T.length+1) cap5):=⟨_,rfl⟩;obtain ⟨GL,hGL⟩:∃GL,GL=gl (.slice ao T.length cap):=⟨_,rfl⟩;rw [←hcs1] at HQ1 HH13;rw [←hGL] at HB1;have HCS:=Hid.mk hcs1;have HGL:=Hid.mk hGL;clear hcs1 hGL;go_wp2_with fail;rw [←hW1];clear x13 y13;clear hW1;go_wp2_with fail;go_loopg [4] (T.length - place) (fun r n wr=>∃(k:Nat) (L:List TP),r=k - place∧place≤k∧k≤T.length∧n= .int .i64 (k:Int)∧BoxC q tq cs1 wr∧ThAt wr (.slice (some ⟨g,0,none⟩) (T.length+1) cap5) L∧But (q::GL) w wr∧L.length=T.length+1∧(∀j,j≤k→L[j]?=(T++[((0:Nat),([]:List UInt8))])[j]?)∧(∀j,k≤j→j<T.length→L[j+1]?=T[j]?))
 case atStart=>exact ⟨T.length,_,rfl,hp,Nat.le_refl _,rfl,HQ1.out,HT1.out,HB1.out,by simp,fun j _=>rfl,fun j h1 h2=>by omega⟩
 case round=>
  obtain ⟨k,L,hr,hpk,hkT,rfl,hQ,hT,hB,hLl,hL1,hL2⟩:=hrel;have u13:=hQ.cell 13 HH13.out;have HQ:=Hid.mk hQ;have HT:=Hid.mk hT;have HB:=Hid.mk hB;have HL:=Hid.mk hLl;have HL1:=Hid.mk hL1;have HL2:=Hid.mk hL2;clear z13 HQ1 HT1 HB1 hQ hT hB hLl hL1 hL2;by_cases hlt:place<k
  ·obtain ⟨k',rfl⟩:∃k',k=k'+1:=⟨k - 1,by omega⟩;obtain ⟨ao',cap',hv,hc⟩:=HT.out.open;simp only [Value.slice.injEq] at hv;obtain ⟨rfl, -,rfl⟩:=hv;have hk0L:k'<L.length:=by have:=HL.out;omega
   have hk1L:k'+1<L.length:=by have:=HL.out;omega
   obtain ⟨g',hg',e0,e1⟩:=hc k' hk0L;cases hg';obtain ⟨g',hg',d0,d1⟩:=hc (k'+1) hk1L;cases hg';have fr0:=HT.out.free ((k'+1) * 2);have fr1:=HT.out.free ((k'+1) * 2+1);have HN:Hid (ThAt _ _ _):=HT.out.set (k'+1) (L[k']'hk0L)
   have HL1':Hid (∀j,j≤k'→(L.set (k'+1) (L[k']'hk0L))[j]?=(T++[((0:Nat),([]:List UInt8))])[j]?):=fun j hj=>by
    rw [List.getElem?_set_ne (by omega)];exact HL1.out j (by omega)
   have HL2':Hid (∀j,k'≤j→j<T.length→(L.set (k'+1) (L[k']'hk0L))[j+1]?=T[j]?):=fun j h1 h2=>by
    by_cases hj:j=k'
    ·subst hj;rw [List.getElem?_set_self (by have:=HL.out;omega),←List.getElem?_eq_getElem (by have:=HL.out;omega),HL1.out j (by omega),List.getElem?_append_left h2]
    ·rw [List.getElem?_set_ne (by omega)];exact HL2.out j (by omega) h2
   have HLl':Hid ((L.set (k'+1) (L[k']'hk0L)).length=T.length+1):=by show _=_;rw [List.length_set];exact HL.out
   generalize L.set (k'+1) (L[k']'hk0L)=L' at *;generalize (L[k']'hk0L).1=nk at *;generalize (L[k']'hk0L).2=tk at *;have hgi:g≠q:=hgq;have hkk:k'+1<T.length+1:=by omega
   have hk0:k'<T.length+1:=by omega
   have hwk:IntKind.i64.wrap (k':Int)=(k':Int):=by rw [IntKind.wrap_i64];omega
   clear hc HL HL1 HL2;go_wp2_with fail;go_region
   all_goals
    go_wp2_with fail;go_roundg (k' - place)
    case measure=>omega
    case rel=>
     have hbs:∀(W:World) (o:Nat) (u:Value),But (q::GL) w W→But (q::GL) w (W.setCell ⟨g,o,none⟩ u):=fun W o u h=>by
      rcases HGW.out with e|e
      ·exact h.set (by rw [HGL.out];unfold gl;rw [←e];simp) u
      ·exact h.setN e u
     exact ⟨k',L',rfl,by omega,by omega,by go_num,(HQ.out.setO (a:=⟨g,(k'+1) * 2,none⟩) hgq _).setO (a:=⟨g,(k'+1) * 2+1,none⟩) hgq _,HN.out,(hbs _ _ _ (hbs _ _ _ HB.out)).drew,HLl'.out,HL1'.out,HL2'.out⟩
  ·obtain rfl:k=place:=by omega
   have hRP:Hid (RoomP T k L):=⟨HL.out,fun j hj=>by rw [HL1.out j (by omega),List.getElem?_append_left (by omega)],HL2.out⟩;go_wp2;go_end0;exact ⟨g,cap5,L,rfl,by rw [←HCS.out];exact HQ.out,HT.out,hRP.out,by rw [←HGL.out];exact HB.out,HGW.out⟩
end Go.Proofs.YtpapdkhjdelfcabGreat
