import Derived.Test.YtpapdkhjdelfcaaGreatLBI
import Derived.Deep.QuietTactic
import Derived.BigQuiet
namespace Go.Proofs.YtpapdkhjdelfcaaGreat
open Go.RowKit
set_option maxRecDepth 100000
set_option maxHeartbeats 4000000
def Ez (B:List BK) (id:ByteArray) (k:Nat) (a:Bool):Prop:=k<=B.length/\(∀j (h:j<B.length),j<k->AO B[j].1 id=true)/\(∀h:k<B.length,AO B[k].1 id=false)/\(a=true↔∃h:k<B.length,B[k].1=id)
def S9 (w:World) (B:List BK) (id:ByteArray) (e:Ending) (w':World):Prop:=∃(k:Nat) (a:Bool),e= .returned (.tuple #[.int .i64 k,.bool a])/\Aa w w'/\Ez B id k a
theorem XI (B:List BK) (p:Value) (id:ByteArray) (w:World) (z:Am w p B) (E:B.length<=8):
  Calls Tryz.prog 110 #[p,.string id] w (S9 w B id):=by
 obtain ⟨A,u,rfl,f⟩:∃v cap,p= .slice v B.length cap/\∀j (l:j<B.length),∃g,v=some ⟨g,0,none⟩/\w.cell? ⟨g,j * 2,none⟩=some (.string B[j].1):=by
  rcases z.form with ⟨rfl,rfl⟩|⟨g,cap,rfl,_,_,C⟩
  .exact ⟨_,_,rfl,fun j l=>by simp at l⟩
  .exact ⟨_,_,rfl,fun j l=>⟨g,rfl,(C j l).1⟩⟩
 go_enter Tryz.func110,Tryz.ntmps110;go_wp2;go_loopg [6] B.length (fun r n wr=>w=wr/\∃k:Nat,r=B.length - k/\k<=B.length/\n= .int .i64 k/\∀j (h:j<B.length),j<k->AO B[j].1 id=true)
 case atStart=>exact ⟨rfl,0,jo,jo,rfl,fun j _ h=>by omega⟩
 case round=>
  obtain ⟨rfl,k,F,x,rfl,d⟩:=hrel;have q:Hid (∀j (h:j<B.length),j<k->AO B[j].1 id=true):=d;clear d;by_cases c:k<B.length
  .obtain ⟨g,rfl,G⟩:=f k c;have m:decide ((k:Int)<(B.length:Int))=true:=jL jo;have H:Hid (B[k].1=B[k].1):=rfl;cases b:Op.bytesLess B[k].1.toList id.toList
   .have o:Hid (∀a:Bool,(a=true↔B[k].1=id)->Ez B id k a):=fun a y=>⟨x,q.out,fun h=>b,⟨fun h=>⟨c,y.1 h⟩,fun ⟨_,h⟩=>y.2 h⟩⟩
    have s:Hid (((B[k].1.toList==id.toList)=true)↔B[k].1=id):=FE;clear f;generalize B[k].1=t at *;go_wp2_with fail;go_quiet (fail);go_wp2;go_ret2;exact ⟨k,_,rfl,jq,o.out _ s.out⟩
   .have i:Hid (∀j (h:j<B.length),j<k+1->AO B[j].1 id=true):=fun j h l=>by
     by_cases D:j=k
     .subst D;exact b
     .exact q.out j h jo
    clear f
    generalize B[k].1=t at *
    go_wp2_with fail
    go_roundg (B.length - (k+1))
    case measure=>omega
    case rel=>exact ⟨rfl,k+1,rfl,jo,by go_num,i.out⟩
  .have m:decide ((k:Int)<(B.length:Int))=false:=jK jo;go_wp2_with fail;go_quiet (fail);go_wp2;go_ret2;exact ⟨k,_,rfl,jq,x,q.out,fun h=>absurd h c,⟨fun h=>(by cases h),fun ⟨h,_⟩=>absurd h c⟩⟩
theorem Oq (a:Option Addr):a.map (·.add 0)=a:=by cases a <;>rfl
theorem TV (a:World) (b:Option Addr) (L cap k:Nat) (d:k<=cap):
  (Instr.slice 45 (.slice b L cap) none (some (.int .i64 k)) none).run Tryz.prog a= .ok (.slice b k cap) a:=by
 rw [run_slice_h (P:=Tryz.prog) a 45 b L cap (by kernel_rfl) .i64 _ jo jo];have c:(sizeOf (Tryz.prog.elem 45)).run Tryz.prog a= .ok 2 a:=by kernel_rfl
 rw [c];simp only [Result.andThen,sliced,Int.toNat_natCast,Nat.zero_mul,Oq,ite_self,Nat.sub_zero]
def GI (a:Option Addr) (L cap k:Nat):Value:= .slice (if cap=k then a else a.map (·.add (k * 2))) (L - k) (cap - k)
theorem LW (a:World) (b:Option Addr) (L cap k:Nat) (c:k<=L):
  (Instr.slice 45 (.slice b L cap) (some (.int .i64 k)) none none).run Tryz.prog a= .ok (GI b L cap k) a:=by
 rw [run_slice_any (P:=Tryz.prog) a 45 b L cap (by kernel_rfl)];have d:(sizeOf (Tryz.prog.elem 45)).run Tryz.prog a= .ok 2 a:=by kernel_rfl
 have f:(Instr.sliceBounds true L cap (some (.int .i64 k)) none none).run Tryz.prog a= .ok (k,L,cap) a:=by
  simp [Instr.sliceBounds,run_sliceBound,go_sem,c]
 rw [f];simp only [Result.andThen,d,sliced,GI]
theorem Qs (B:List BK) (k:Nat):AC (B.take k)=(AC B).take (k * 2):=by
 induction B generalizing k with
 |nil=>simp [AC]
 |cons b B ih=>
  cases k with
  |zero=>simp [AC]
  |succ k=>
   have e:(k+1) * 2=k * 2+1+1:=jo
   have:=ih k;simp only [AC,List.take_succ_cons,List.flatMap_cons,List.cons_append,List.nil_append,e] at this |-;rw [this]
theorem Rk (B:List BK) (k:Nat):AC (B.drop k)=(AC B).drop (k * 2):=by
 induction B generalizing k with
 |nil=>simp [AC]
 |cons b B ih=>
  cases k with
  |zero=>simp
  |succ k=>
   have e:(k+1) * 2=k * 2+1+1:=jo
   have:=ih k;simp only [AC,List.drop_succ_cons,List.flatMap_cons,List.cons_append,List.nil_append,e] at this |-;rw [this]
theorem JR (B:List BK):∀u∈AC B,u.oneCell'=true:=by
 intro u a;simp only [AC,jd,ja,List.not_mem_nil,or_false] at a;obtain ⟨b,_,rfl|rfl⟩:=a <;>rfl
theorem RX {w:World} {c:Option Addr} {cap k:Nat} {B:List BK} (h:Am w (.slice c B.length cap) B) (m:k<=B.length):Fv w (.slice c k cap) k (AC (B.take k)):=by
 rcases h with ⟨d,n,o⟩|⟨g,f,i,p,q,l⟩
 .simp only [Value.slice.injEq] at d;obtain ⟨rfl,r,rfl⟩:=d;have:k=0:=jo
  subst this;exact Or.inl ⟨rfl,rfl,by simp [AC]⟩
 .simp only [Value.slice.injEq] at i;obtain ⟨rfl, -,rfl⟩:=i;refine Or.inr ⟨_,_,rfl,fun j u b=>?_⟩;have a:(⟨g,0,none⟩:Addr).add j=⟨g,j,none⟩:=by unfold Addr.add;split <;>simp_all
  rw [a];refine l j u ?_;rw [Qs,List.getElem?_take] at b;split at b
  .exact b
  .cases b
theorem Ld {w:World} {i:Option Addr} {cap k:Nat} {B:List BK} (h:Am w (.slice i B.length cap) B) (o:k<=B.length):Fv w (GI i B.length cap k) (B.length - k) (AC (B.drop k)):=by
 rcases h with ⟨l,p,r⟩|⟨g,m,n,s,t,q⟩
 .simp only [Value.slice.injEq] at l;obtain ⟨rfl,v,rfl⟩:=l;have d:B=[]:=jS p;subst d;have:k=0:=by simpa using o
  subst this;exact Or.inl ⟨by simp [GI],js,by simp [AC]⟩
 .simp only [Value.slice.injEq] at n;obtain ⟨rfl, -,rfl⟩:=n;by_cases a:cap=k
  .have f:k=B.length:=jo
   refine Or.inr ⟨⟨g,0,none⟩,cap - k,by rw [GI,if_pos a],fun j u b=>?_⟩;rw [f] at b;simp [AC] at b
  .refine Or.inr ⟨(⟨g,0,none⟩:Addr).add (k * 2),cap - k,by rw [GI,if_neg a];rfl,fun j u b=>?_⟩
   have c:((⟨g,0,none⟩:Addr).add (k * 2)).add j=⟨g,k * 2+j,none⟩:=by
    unfold Addr.add;split <;>split <;>simp_all
   rw [c];refine q _ u ?_;rw [Rk,List.getElem?_drop] at b;exact b
theorem PL (a:World) (b:Option Addr) (L cap k:Nat) (d:k<=cap):
  (Instr.slice 83 (.slice b L cap) none (some (.int .i64 k)) none).run Tryz.prog a= .ok (.slice b k cap) a:=by
 rw [run_slice_h (P:=Tryz.prog) a 83 b L cap (by kernel_rfl) .i64 _ jo jo];have c:(sizeOf (Tryz.prog.elem 83)).run Tryz.prog a= .ok 3 a:=by kernel_rfl
 rw [c];simp only [Result.andThen,sliced,Int.toNat_natCast,Nat.zero_mul,Oq,ite_self,Nat.sub_zero]
def GY (a:Option Addr) (L cap k:Nat):Value:= .slice (if cap=k then a else a.map (·.add (k * 3))) (L - k) (cap - k)
theorem PE (a:World) (b:Option Addr) (L cap k:Nat) (c:k<=L):
  (Instr.slice 83 (.slice b L cap) (some (.int .i64 k)) none none).run Tryz.prog a= .ok (GY b L cap k) a:=by
 rw [run_slice_any (P:=Tryz.prog) a 83 b L cap (by kernel_rfl)];have d:(sizeOf (Tryz.prog.elem 83)).run Tryz.prog a= .ok 3 a:=by kernel_rfl
 have f:(Instr.sliceBounds true L cap (some (.int .i64 k)) none none).run Tryz.prog a= .ok (k,L,cap) a:=by
  simp [Instr.sliceBounds,run_sliceBound,go_sem,c]
 rw [f];simp only [Result.andThen,d,sliced,GY]
theorem UI (B:List EN) (k:Nat):Av (B.take k)=(Av B).take (k * 3):=by
 induction B generalizing k with
 |nil=>simp [Av]
 |cons b B ih=>
  cases k with
  |zero=>simp [Av]
  |succ k=>
   have e:(k+1) * 3=k * 3+1+1+1:=jo
   have:=ih k;simp only [Av,List.take_succ_cons,List.flatMap_cons,List.cons_append,List.nil_append,e] at this |-;rw [this]
theorem Tm (B:List EN) (k:Nat):Av (B.drop k)=(Av B).drop (k * 3):=by
 induction B generalizing k with
 |nil=>simp [Av]
 |cons b B ih=>
  cases k with
  |zero=>simp
  |succ k=>
   have e:(k+1) * 3=k * 3+1+1+1:=jo
   have:=ih k;simp only [Av,List.drop_succ_cons,List.flatMap_cons,List.cons_append,List.nil_append,e] at this |-;rw [this]
theorem Ja (B:List EN):∀u∈Av B,u.oneCell'=true:=by
 intro u a;simp only [Av,jd,ja,List.not_mem_nil,or_false] at a;obtain ⟨b,_,rfl|rfl|rfl⟩:=a <;>rfl
theorem Kc (A B:List EN):Av (A++B)=Av A++Av B:=by simp [Av]
theorem MD {w:World} {c:Option Addr} {cap k:Nat} {B:List EN} (h:Cl w (.slice c B.length cap) B) (m:k<=B.length):Fv w (.slice c k cap) k (Av (B.take k)):=by
 rcases h with ⟨d,n,o⟩|⟨g,f,i,p,q,l⟩
 .simp only [Value.slice.injEq] at d;obtain ⟨rfl,r,rfl⟩:=d;have:k=0:=jo
  subst this;exact Or.inl ⟨rfl,rfl,by simp [Av]⟩
 .simp only [Value.slice.injEq] at i;obtain ⟨rfl, -,rfl⟩:=i;refine Or.inr ⟨_,_,rfl,fun j u b=>?_⟩;have a:(⟨g,0,none⟩:Addr).add j=⟨g,j,none⟩:=by unfold Addr.add;split <;>simp_all
  rw [a];refine l j u ?_;rw [UI,List.getElem?_take] at b;split at b
  .exact b
  .cases b
theorem Nh {w:World} {i:Option Addr} {cap k:Nat} {B:List EN} (h:Cl w (.slice i B.length cap) B) (o:k<=B.length):Fv w (GY i B.length cap k) (B.length - k) (Av (B.drop k)):=by
 rcases h with ⟨l,p,r⟩|⟨g,m,n,s,t,q⟩
 .simp only [Value.slice.injEq] at l;obtain ⟨rfl,v,rfl⟩:=l;have d:B=[]:=jS p;subst d;have:k=0:=by simpa using o
  subst this;exact Or.inl ⟨by simp [GY],js,by simp [Av]⟩
 .simp only [Value.slice.injEq] at n;obtain ⟨rfl, -,rfl⟩:=n;by_cases a:cap=k
  .have f:k=B.length:=jo
   refine Or.inr ⟨⟨g,0,none⟩,cap - k,by rw [GY,if_pos a],fun j u b=>?_⟩;rw [f] at b;simp [Av] at b
  .refine Or.inr ⟨(⟨g,0,none⟩:Addr).add (k * 3),cap - k,by rw [GY,if_neg a];rfl,fun j u b=>?_⟩
   have c:((⟨g,0,none⟩:Addr).add (k * 3)).add j=⟨g,k * 3+j,none⟩:=by
    unfold Addr.add;split <;>split <;>simp_all
   rw [c];refine q _ u ?_;rw [Tm,List.getElem?_drop] at b;exact b
theorem Tf {P:Program} {l:Array Oper} {o:Oper} {a:Act} {w:World} {K:Act->World->Prop} {Q:Exit->Act->World->Prop} {E:Prop}
  (B:o.guard=none) (s x:Operand) (t:TypeId) (p:o.op=Op.call {callee:=Callee.builtin Builtin.append,args:=#[s,x],argTypes:=#[t,t]})
  (base:Nat) (e:TypeId) (i:TypeInfo) (z:Value) (b f:Nat) (C:P.underlying t=some (.slice e)) (D:P.info? e=some i) (L:i.zero=some z) (M:i.size=b) (N:i.bytes=f) (O:z.cells.size=b) (R:0<b)
  (v:Value) (n:Nat) (y:List Value) (F:a.eval s=v) (g:w.ownsRow base e b v n y)
  (G:Value) (m:Nat) (d:List Value) (H:a.eval x=G) (q:Fv w G m d) (S:d.length=m * b) (A:∀u∈d,u.oneCell'=true)
  (T:n+m<=maxLen) (U:(n+m) * f<=140737488355328) (k:base<=w.heap.size)
  (I:∀J w',w'.ownsRow base e b J (n+m) (y++d)->w.grownBy w' v.ownBlock->K (a.put o.dst J) w'):
  if Region.wanted o (yielded l a.tmps)=true then Oper.wp P o a w K Q else E:=by
 rcases q with ⟨rfl,rfl,rfl⟩|⟨V,c,rfl,W⟩
 .have X:Region.wanted o (yielded l a.tmps)=true:=by simp [Region.wanted,B]
  rw [if_pos X];have r:=run_append_owned_none (P:=P) (w:=w) base t o.type e i b C D v n y g;unfold Oper.wp;simp [execOp,p,resolve,invoke,builtin,F,H,r,Result.andThen];exact I v w (by simpa using g) (World.grownBy.refl w _)
 .exact KB B s x t p base e i z b f C D L M N O R v n y F g V m c d H S W A T U k I
theorem Pj {w:World} {base:Nat} {v:Value} {L:List EN} (h:w.ownsRow base 146 3 v L.length (Av L)):∃b cap,v= .slice b L.length cap/\L.length<=cap/\Cl w (.slice b L.length cap) L:=by
 have a:Cl w v L:=Ap.of_owns h;rcases a.form with ⟨rfl,rfl⟩|⟨g,cap,rfl,c,_⟩
 .exact ⟨none,0,rfl,js,a⟩
 .exact ⟨_,cap,rfl,c,a⟩
def IL (W:World) (B:List BK) (n:Nat) (v:Value) (L:List EN) (wr:World):Prop:=Aa W wr/\wr.ownsRow W.heap.size 146 3 v L.length (Av L)/\(∀x∈L,DZ B x)/\L.length<=n
theorem IL.later {W:World} {B:List BK} {n:Nat} {v:Value} {L:List EN} {wr a:World} (h:IL W B n v L wr) (b:Aa wr a):IL W B n v L a:=⟨h.1.trans b,I6 h.2.1 b,h.2.2⟩
def D7 (key:ByteArray) (letter:UInt8) (a:Int) (B:List BK) (m:Nat) (L:List EN):Prop:=L.map Fj=(BN (AW key letter a B B.length) m).map (F7 B)
def KE (H:Int) (L:List EN) (t:Nat):Prop:=(∀j (h:j<L.length),j<t->wv L[j].2.1 L[j].2.2<=H)/\∀h:t<L.length,H<wv L[t].2.1 L[t].2.2
theorem D7.step {key:ByteArray} {letter:UInt8} {a:Int} {B:List BK} {i k:Nat} {L:List EN} {t:Nat} {X Y:Int} (h:D7 key letter a B ((AW key letter a B i).length+k) L) (g:i<B.length) (l:k<(a * B[i].2).toNat) (m:t<=L.length) (b:KE (Al key letter [k] B[i].1) L t) (c:wv X Y=Al key letter [k] B[i].1):
  D7 key letter a B ((AW key letter a B i).length+(k+1)) (L.take t++[(B[i].1,X,Y)]++L.drop t):=by
 unfold D7 at *;have n:=U0 (RY (key:=key) (letter:=letter) (each:=a) i k g l);rw [<-Nat.add_assoc,n,Qb (F7 B) (fun _=>rfl),<-h]
 have o:F7 B (Al key letter [k] B[i].1,(i:Int))=Fj (B[i].1,X,Y):=by
  unfold F7 Fj;simp only;rw [IY g,c]
 rw [o,<-Nw (Fj (B[i].1,X,Y)) (L.map Fj) t (by simpa using m) (fun j d f=>?_) (fun d=>?_)]
 .simp [List.map_take,List.map_drop]
 .have:=b.1 j (by simpa using d) f;rw [<-c] at this;simp only [Fj,List.getElem_map];omega
 .have:=b.2 (by simpa using d);rw [<-c] at this;simp only [Fj,List.getElem_map];exact this
theorem D7.next {key:ByteArray} {letter:UInt8} {a:Int} {B:List BK} {i k:Nat} {L:List EN} (h:D7 key letter a B ((AW key letter a B i).length+k) L) (b:i<B.length) (c:k=(a * B[i].2).toNat):D7 key letter a B (AW key letter a B (i+1)).length L:=by
 rw [SN b,<-c];exact h
def KC (w:World) (c:Ac) (B:List BK) (letter:UInt8) (a:Int) (e:Ending) (w':World):Prop:=∃(v:Value) (E:List EN),e= .returned v/\Aa w w'/\Dz w.heap.size w' v E/\E.length<=140000/\(∀x∈E,DZ B x)/\(¬EV c->E=[]\/(E.length:Int)=c.slots)/\E.map Fj=(Dk c.key letter a B).map (F7 B)
theorem TJ {key:ByteArray} {letter:UInt8} {a:Int} {B:List BK} (c:AL B) (h:As B<1):Dk key letter a B=[]:=by
 have d:∀n,n<=B.length->AW key letter a B n=[]:=by
  intro n
  induction n with
  |zero=>intro _;rfl
  |succ n ih=>
   intro k;rw [JV jo,ih jo]
   have f:B[n].2=0:=by
    have l:=(c.2 _ (jJ (show n<B.length by omega))).2.2.1;rcases Int.lt_or_le 0 B[n].2 with g|g
    .have:=Mu (jJ (show n<B.length by omega)) jo (fun b i=>(c.2 b i).2.2.1);omega
    .omega
   simp [DD,f]
 unfold Dk;rw [d _ (jH _)];rfl
theorem NH (c:Ac) (vB:Value) (B:List BK) (letter:UInt8) (per:Int) (w:World) (hc:c.OK) (hP:Am w vB B) (hB:AL B) (hp0:0<=per) (hp3:per<=3) (hpt:EV c):
  Calls Tryz.prog 164 #[.agg c.cells,vB,.string ⟨#[letter]⟩,.int .i64 per] w (KC w c B letter per):=by
 obtain ⟨what,hwhat⟩:∃x:ByteArray,x=⟨#[letter]⟩:=⟨_,rfl⟩;rw [<-hwhat];have HWH:=jp hwhat;have hwh:what.size<=10:=by rw [hwhat];show (1:Nat)<=10;decide
 clear hwhat;obtain ⟨PF,hPF⟩:∃X,X=(Dk c.key letter per B).map (F7 B):=⟨_,rfl⟩;have HPF:=jp hPF;unfold KC;rw [<-hPF];clear hPF;obtain ⟨i0,hi,hz0,hz1,hz2⟩:=info_parts Tryz.infoEN;have hk16:c.key.size=16:=hc.2.2.2.2.2.2.2.2.2.1;obtain ⟨aoB,capB,rfl,hcB⟩:=hP.open;obtain ⟨h8,hall⟩:=hB;have HALL:=jp hall;have HCB:=jp hcB;have HPT:=jp hpt;clear hP hall hcB hc hpt;obtain ⟨alg,slots,points,probes,key,formats⟩:=c;simp only at hk16 HPF;simp only [Ac.cells];go_enter Tryz.func164,Tryz.ntmps164;go_wp2;have hbox4:(w.alloc (.cells #[.int .i64 alg,.int .i64 slots,.int .i64 points,.int .i64 probes,.string key,.int .i64 formats] 30)).cell? ⟨w.heap.size,4,none⟩=some (.string key):=by simp
 have hbel0:Aa w (w.alloc (.cells #[.int .i64 alg,.int .i64 slots,.int .i64 points,.int .i64 probes,.string key,.int .i64 formats] 30)):=by (repeat (first|exact jD _|assumption|refine jA ?_|refine jB ?_|refine jC ?_|refine Aa.step_set ?_ (by simp <;>omega) _|refine jE ?_ (by assumption)))
 generalize w.alloc (.cells #[.int .i64 alg,.int .i64 slots,.int .i64 points,.int .i64 probes,.string key,.int .i64 formats] 30)=W at *;generalize hpx:w.heap.size=px at *;have HPX:Hid (w.heap.size=px):=hpx;clear hpx;go_loopg [9,10] B.length (fun r v i wr=>∃(k:Nat) (L:List EN),r=B.length - k/\k<=B.length/\i= .int .i64 k/\IL W B (18 * k) v L wr/\D7 key letter per B (AW key letter per B k).length L)
 case atStart=>exact ⟨0,[],by omega,by omega,rfl,⟨jD _,World.ownsRow_nil _ _ _ _,fun x hx=>(by cases hx),by simp⟩,rfl⟩
 case round=>
  obtain ⟨i,L0,hr,hi8,rfl,hI,hQ⟩:=hrel;have HQ0:=jp hQ;clear hQ;have HI0:=jp hI;by_cases hil:i<B.length
  .have hib:decide ((i:Int)<(B.length:Int))=true:=jL (by omega);obtain ⟨gB,rfl,b0,b1⟩:=HCB.out i hil;obtain ⟨a1,a2,a3,a4⟩:=HALL.out _ (jJ hil);have hmem:Hid (∃b∈B,b.1=B[i].1):=⟨B[i],jJ hil,rfl⟩;have b0W:=hbel0.cell b0;have b1W:=hbel0.cell b1;clear b0 b1 hI;have HQS:Hid (∀(k:Nat) (L:List EN) (t:Nat) (X Y:Int),D7 key letter per B ((AW key letter per B i).length+k) L->k<(per * B[i].2).toNat->t<=L.length->KE (Al key letter [k] B[i].1) L t->wv X Y=Al key letter [k] B[i].1->D7 key letter per B ((AW key letter per B i).length+(k+1)) (L.take t++[(B[i].1,X,Y)]++L.drop t)):=fun k L t X Y h1 h2 h3 h4 h5=>h1.step hil h2 h3 h4 h5
   have HQN:Hid (∀(k:Nat) (L:List EN),D7 key letter per B ((AW key letter per B i).length+k) L->k=(per * B[i].2).toNat->D7 key letter per B (AW key letter per B (i+1)).length L):=fun k L h1 h2=>h1.next hil h2
   generalize B[i].1=idj at *;generalize B[i].2=wt at *
   have hpw:∃pw:Nat,per * wt=(pw:Int)/\pw<=18:=by
    have h1:0<=per * wt:=Int.mul_nonneg hp0 a3;have h2:per * wt<=3 * 6:=Int.mul_le_mul hp3 a4 a3 (by omega);exact ⟨(per * wt).toNat,by omega,by omega⟩
   obtain ⟨pw,hpw,hpw18⟩:=hpw;have hwpw:wrap64 (per * wt)=(pw:Int):=by rw [hpw];unfold wrap64;omega
   have HPW:=jp hpw;clear hpw;go_wp2;go_loopg [9,11] pw (fun r v q wr=>∃(k:Nat) (L:List EN),r=pw - k/\k<=pw/\q= .int .i64 k/\IL W B (18 * i+k) v L wr/\D7 key letter per B ((AW key letter per B i).length+k) L)
   case atStart=>exact ⟨0,L0,by omega,by omega,rfl,HI0.out,HQ0.out⟩
   case round=>
    clear HI0 HQ0;obtain ⟨q,L,hrq,hq,rfl,hI,hQ⟩:=hrel;have HQ:=jp hQ;clear hQ;have b0x:=hI.1.cell b0W;have b1x:=hI.1.cell b1W;have x4:=hI.1.cell hbox4;by_cases hql:q<pw
    .have hqb:decide ((q:Int)<(pw:Int))=true:=jL (by omega);have HI:=jp hI;clear hI;go_wp2_with fail;refine (Ka _ 2 _ (by omega) (by omega) (by decide)).mono ?_;rintro e w1 ⟨a,rfl,hb1,ha⟩;have HA:Hid (a=DF q 2):=ha;have ha2:a.size=2:=by rw [HA.out,Hm];rfl
     obtain ⟨HV,hHV⟩:∃X,X=Al key letter [q] idj:=⟨_,rfl⟩;have HHV:=jp hHV
     have HTX:Hid (Cs key ((what++a)++idj)=HV):=by
      show Cs key _=HV;rw [HA.out,HWH.out,hHV];exact Og key letter q idj
     clear hHV;have HI1:=jp (HI.out.later hb1);have b0y:=hb1.cell b0x;have x4y:=hb1.cell x4;have hgl:gB<w1.heap.size:=jF b0y;have hpl:px<w1.heap.size:=jF x4y;clear ha b0x b1x x4 HI hb1;go_upto_region 9 with fail
     go_cut [13] (fun u13 wc=>AX w1.heap.size wc u13 HV/\Aa w1 wc)
     case first=>
      go_region_with (go_at_call 114;refine (F2 _ _ _ hk16 (by simp only [jY];omega)).mono ?_;rintro e w4 ⟨z0,z1,rfl,hb4,g0,g1,ez⟩;obtain ⟨hq2,hf2⟩:=hb4.cells)
      all_goals
       have EZ:Hid (wv z0 z1=HV):=by
        have ez':wv z0 z1=Cs key ((what++a)++idj):=ez;show wv z0 z1=HV;rw [ez',HTX.out]
       clear ez;go_wp2_with fail;go_meet
       case rel=>
        have hB4:Aa w1 w4:=by (repeat (first|exact jD _|assumption|refine jA ?_|refine jB ?_|refine jC ?_|refine Aa.step_set ?_ (by simp <;>omega) _|refine jE ?_ (by assumption)))
        first
         |exact ⟨AX.new hB4.size g0 g1 EZ.out _,hB4.step_alloc _⟩
         |exact ⟨AX.stored (jH _) ((hq2 _ _ (by simp)).trans (by simp;rfl)) ((hq2 _ _ (by simp)).trans (by simp;rfl)) ((hf2 _ _ (by simp)).trans (by simp)) ((hf2 _ _ (by simp)).trans (by simp)) g0 g1 EZ.out,(hB4.step_set (p:=⟨w1.heap.size,0,none⟩) (jH _) _).step_set (p:=⟨w1.heap.size,1,none⟩) (jH _) _⟩
     case rest=>
      obtain ⟨hbx,hbc⟩:=hcut;obtain ⟨p13,X,Y,rfl,hp13,c0,c1, -, -,hX,hY,hVXY⟩:=hbx;have HVXY:=jp hVXY;clear hVXY;have hI2:=HI1.out.later hbc;have b0z:=hbc.cell b0y;have HI2:=jp hI2;obtain ⟨ao,cap,rfl,hcap,hE⟩:=Pj hI2.2.1;have hL144:L.length<=200:=by have:=hI2.2.2.2;omega
      clear hI2 HI1 hbc b0y x4y hgl hpl;generalize wc=w2 at *;go_upto_region 11 with fail
      go_cut [15] (fun u wc=>w2=wc/\u= .int .i64 0)
      case first=>
       go_wp2_with fail;go_meet
       case rel=>exact ⟨rfl,rfl⟩
      case rest=>
      obtain ⟨rfl,rfl⟩:=hcut;go_step;go_step;go_cut [15] (fun u wc=>Aa w2 wc/\∃t:Nat,t<=L.length/\u= .int .i64 t/\KE HV L t)
      case first=>
       go_wp2;go_loopg [15] L.length (fun r va wx=>Aa w2 wx/\∃t:Nat,t<=L.length/\r=L.length - t/\va= .int .i64 t/\∀j (h:j<L.length),j<t->wv L[j].2.1 L[j].2.2<=HV)
       case atStart=>exact ⟨jD _,0,by omega,by omega,rfl,fun j h hj=>by omega⟩
       case round=>
        obtain ⟨hbx,t,ht,hrt,rfl,hbelow⟩:=hrel;have HBE:=jp hbelow;clear hbelow;by_cases htl:t<L.length
        .have htb:decide ((t:Int)<(L.length:Int))=true:=jL (by omega);rcases hE.form with ⟨-,hnil⟩|⟨g,cap',hv, -, -,hcs⟩
         .rw [hnil] at htl;simp at htl
         simp only [Value.slice.injEq,true_and] at hv;obtain ⟨rfl,rfl⟩:=hv;obtain ⟨-,e1,e2⟩:=hcs t htl;have d1:=hbx.cell e1;have d2:=hbx.cell e2;have d3:=hbx.cell c0;have d4:=hbx.cell c1;have hgl:g<wr.heap.size:=jF d1;have hpl:p13<wr.heap.size:=jF d3;clear hcs e1 e2 hE;have hg1:=HI2.out.2.2.1 _ (jJ htl);obtain ⟨-,hX1,hY1⟩:=hg1
         have HT1:Hid (wv L[t].2.1 L[t].2.2<=HV->∀j (h:j<L.length),j<t+1->wv L[j].2.1 L[j].2.2<=HV):=fun hn j h hj=>by
          by_cases hjt:j=t
          .subst hjt;exact hn
          .exact HBE.out j h (by omega)
         have HT2:Hid (HV<wv L[t].2.1 L[t].2.2->KE HV L t):=fun hn=>⟨HBE.out,fun _=>hn⟩
         generalize L[t].2.1=X1 at *;generalize L[t].2.2=Y1 at *;go_upto_region 13 with fail
         generalize wr=w3 at *;go_cut [16] (fun u wc=>(∃b,u= .bool b/\Co (HV<wv X1 Y1) b)/\Aa w3 wc)
         case first=>
          go_region_with (go_at_call 116;refine (J7 _ _ _ _ _ hX hY hX1 hY1).mono ?_;rintro e w4 ⟨AO,rfl,hb4,hless⟩)
          all_goals
           have HLS:Hid (Co (HV<wv X1 Y1) AO):=by
            show Co _ _;rw [<-HVXY.out];exact hless
           clear hless;go_wp2_with fail;go_meet
           case rel=>exact ⟨⟨_,rfl,HLS.out⟩,by (repeat (first|exact jD _|assumption|refine jA ?_|refine jB ?_|refine jC ?_|refine Aa.step_set ?_ (by simp <;>omega) _|refine jE ?_ (by assumption)))⟩
         case rest=>
          obtain ⟨⟨b,rfl,hlb⟩,hbc2⟩:=hcut;have hbx2:=hbx.trans hbc2;cases b
          .have HN := jp (HT1.out (by
             rcases Int.lt_or_le HV (wv X1 Y1) with h | h
             . have := hlb.2 h; cases this
             . exact h))
           clear hlb HT1 HT2
           go_wp2
           go_roundg (L.length - (t+1))
           case measure=>omega
           case rel=>exact ⟨hbx2,t+1,by omega,rfl,by go_num,HN.out⟩
          .have HN:=jp (HT2.out (hlb.1 rfl));clear hlb HT1 HT2;go_wp2;go_meet
           case rel=>exact ⟨hbx2,t,ht,rfl,HN.out⟩
        .have htb:decide ((t:Int)<(L.length:Int))=false:=jK (by omega);go_wp2;go_meet
         case rel=>exact ⟨hbx,t,ht,rfl,HBE.out,fun h=>absurd h htl⟩
      case rest=>
       obtain ⟨hbx,t,ht,rfl,hpat⟩:=hcut;have HPAT:=jp hpat;clear hpat;have hE3:=hE.later hbx;have d0:=hbx.cell c0;have d1:=hbx.cell c1;have b0t:=hbx.cell b0z;have HI3:=jp (HI2.out.later hbx);clear hE c0 c1 b0z HI2 hbx;generalize wc=w3 at *;have hsl:=fun wx=>PL wx ao L.length cap t (by omega)
       have hsf:=fun wx=>PE wx ao L.length cap t ht
       go_wp2_with (first|(at_builtin;refine Fn _ rfl _ _ 83 rfl w3.heap.size 146 i0 (.agg #[.string ByteArray.empty,.int .i64 0,.int .i64 0]) 3 32 Tryz.underlying83 hi hz0 hz1 hz2 rfl (by decide) _ 0 [] rfl ?o1 _ t (Av (L.take t)) rfl ?o2 ?c1 ?c2 ?c3 ?c4 ?c5 ?_))
       case o1=>exact World.ownsRow_nil _ _ _ _
       case o2=>exact MD hE3 ht
       case c1=>rw [Iv];simp;omega
       case c2=>exact Ja _
       case c3=>unfold maxLen;omega
       case c4=>omega
       case c5=>exact jH _
       intro v4 w4 hown4 hgrow4;have hb4:Aa w3 w4:=(jD _).grown hgrow4 (fun g hg=>by cases hg);have hown4p:w4.ownsRow w3.heap.size 146 3 v4 t (Av (L.take t)):=by simpa using hown4
       have hown4':=jp hown4p;have f0:=hb4.cell d0;have f1:=hb4.cell d1;have b0u:=hb4.cell b0t;have hE4:=jp (hE3.later hb4);have hsz4:=hb4.size;have hgl:gB<w4.heap.size:=jF b0u;have hpl:p13<w4.heap.size:=jF f0;clear hown4 hown4p hgrow4 hsl hE3;go_upto_region 17 with fail
       go_region_held_law (fun w'=>Aa w3 w'/\w'.cell? ⟨gB,i * 2,none⟩=some (.string idj)/\w'.cell? ⟨p13,0,none⟩=some (.int .i64 X)/\w'.cell? ⟨p13,1,none⟩=some (.int .i64 Y)) ((exact ⟨by (repeat (first|exact jD _|assumption|refine jA ?_|refine jB ?_|refine jC ?_|refine Aa.step_set ?_ (by simp <;>omega) _|refine jE ?_ (by assumption))),Aa.cell (a:=w3) (by (repeat (first|exact jD _|assumption|refine jA ?_|refine jB ?_|refine jC ?_|refine Aa.step_set ?_ (by simp <;>omega) _|refine jE ?_ (by assumption)))) b0t,Aa.cell (a:=w3) (by (repeat (first|exact jD _|assumption|refine jA ?_|refine jB ?_|refine jC ?_|refine Aa.step_set ?_ (by simp <;>omega) _|refine jE ?_ (by assumption)))) d0,Aa.cell (a:=w3) (by (repeat (first|exact jD _|assumption|refine jA ?_|refine jB ?_|refine jC ?_|refine Aa.step_set ?_ (by simp <;>omega) _|refine jE ?_ (by assumption)))) d1⟩))
        ((refine KB rfl (.tmp 67) (.tmp 75) 83 rfl w3.heap.size 146 i0 (.agg #[.string ByteArray.empty, .int .i64 0, .int .i64 0]) 3 32 Tryz.underlying83 hi hz0 hz1 hz2 rfl (by decide) v4 t (Av (L.take t)) (by simp [Act.eval]) (World.ownsRow.alloc hown4'.out _) ⟨w4.heap.size, 0, none⟩ 1 1 [.string idj, .int .i64 X, .int .i64 Y] (by simp [Act.eval]) rfl (FX _ _ _ _ _ _ rfl) (by intro u hu; simp at hu; rcases hu with rfl | rfl | rfl <;> rfl) (by unfold maxLen; omega) (by omega) (by simp; omega) ?_
          intro v5 w5 hown5 hgrow5
          have hb5 : Aa w3 w5 := by
            first
            | exact ((hb4.step_drew).step_alloc _).grown hgrow5 (fun g hg => (World.ownsRow.lt hown4'.out g hg).1)
            | exact ((hb4.step_alloc _).step_drew).grown hgrow5 (fun g hg => (World.ownsRow.lt hown4'.out g hg).1)
          have H5 := jp hown5
          clear hown5 hgrow5))
       all_goals
        have hE5:=jp ((HI3.out.later hb5));have hEs:Cl w5 (.slice ao L.length cap) L:=Ap.of_owns hE5.out.2.1;have hsz5:=hb5.size;clear hE4 d0 d1 b0t f0 f1 b0u;go_wp2_with (first|(at_builtin;refine Fn _ rfl _ _ 83 rfl w3.heap.size 146 i0 (.agg #[.string ByteArray.empty,.int .i64 0,.int .i64 0]) 3 32 Tryz.underlying83 hi hz0 hz1 hz2 rfl (by decide) v5 (t+1) (Av (L.take t)++[.string idj,.int .i64 X,.int .i64 Y]) ?p0 H5.out _ (L.length - t) (Av (L.drop t)) rfl ?p1 ?p2 ?p3 ?p4 ?p5 ?p6 ?_))
        case p0=>rfl
        case p1=>exact Nh hEs ht
        case p2=>rw [Iv,jh]
        case p3=>exact Ja _
        case p4=>unfold maxLen;omega
        case p5=>omega
        case p6=>exact hsz5
        intro v6 w6 hown6 hgrow6;have hb6:Aa w3 w6:=hb5.grown hgrow6 (fun g hg=>(World.ownsRow.lt H5.out g hg).1)
        have H6:Hid (IL W B (18 * i+(q+1)) v6 (L.take t++[(idj,X,Y)]++L.drop t) w6):=by
         have hl:(L.take t++[(idj,X,Y)]++L.drop t).length=t+1+(L.length - t):=by simp;omega
         refine ⟨HI3.out.1.trans hb6,?_,?_,?_⟩
         .rw [hl,Kc,Kc];rw [show Av (L.take t)++Av [(idj,X,Y)]++Av (L.drop t)=Av (L.take t)++Value.string idj::Value.int .i64 X::Value.int .i64 Y::Av (L.drop t) by simp [Av]];exact World.ownsRow.mono hown6 HI3.out.1.size
         .intro x hx;rcases jT.1 hx with h|h
          .rcases jT.1 h with h|h
           .exact HI3.out.2.2.1 x (List.mem_of_mem_take h)
           .have:x=(idj,X,Y):=by simpa using h
            rw [this];exact ⟨hmem.out,hX,hY⟩
          .exact HI3.out.2.2.1 x (List.mem_of_mem_drop h)
         .rw [hl];have:=HI3.out.2.2.2;omega
        have H7:Hid (D7 key letter per B ((AW key letter per B i).length+(q+1)) (L.take t++[(idj,X,Y)]++L.drop t)):=HQS.out q L t X Y HQ.out (by have:=HPW.out;omega) ht (by rw [<-HHV.out];exact HPAT.out) (by rw [HVXY.out,HHV.out]);clear hown6 hgrow6;go_wp2;go_roundg (pw - (q+1))
        case measure=>omega
        case rel=>exact ⟨q+1,_,rfl,by omega,by go_num,H6.out,H7.out⟩
    .have hqb:decide ((q:Int)<(pw:Int))=false:=jK (by omega);obtain rfl:q=pw:=by omega
     have HI:=jp hI;clear hI;go_wp2;go_roundg (B.length - (i+1))
     case measure=>omega
     case rel=>exact ⟨i+1,L,rfl,by omega,by go_num,⟨HI.out.1,HI.out.2.1,HI.out.2.2.1,by have:=HI.out.2.2.2;omega⟩,HQN.out q L HQ.out (by have:=HPW.out;omega)⟩
  .have hib:decide ((i:Int)<(B.length:Int))=false:=jK (by omega);clear hI;go_wp2;go_ret;obtain ⟨s1,s2,s3,s4⟩:=HI0.out;obtain rfl:i=B.length:=by omega
   exact ⟨_,L0,rfl,hbel0.trans s1,⟨Ap.of_owns s2,fun g hg=>jX hbel0.size (World.ownsRow.lt s2 g hg).1⟩,by omega,s3,fun h=>absurd HPT.out h,by rw [HPF.out];exact HQ0.out⟩
end Go.Proofs.YtpapdkhjdelfcaaGreat
