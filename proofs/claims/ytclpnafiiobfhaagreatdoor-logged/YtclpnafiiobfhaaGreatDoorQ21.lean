import Derived.Test.YtclpnafiiobfhaaGreatDoorQ20
set_option linter.unusedVariables false
set_option linter.unusedSimpArgs false
set_option maxHeartbeats 1600000
namespace Go.Proofs.YtclpnafiiobfhaaGreatDoor
open Go.RowKit
theorem zSX (r t f k:Int) (m:Nat) (sp:Option Addr) (sn dc:Nat) (q:Int×Int) (a:St) (w:World) (br:0<=r/\r<4) (bk:0<=k/\k<=4294967295) (ha:a.Ok) (hM:Mc w m (.slice sp sn dc) q a):
 Calls Tryz.prog 179 #[.pointer (some ⟨m,0,none⟩),.agg #[.int .u8 6,.int .u8 r,.int .u8 t,.int .u8 f,.int .u32 k]] w fun e w'=>e= .returned (.int .u32 0)/\Mc w' m (.slice sp sn dc) q (a.turn ⟨6,r,t,f,k⟩ ((((a.at ⟨6,r,t,f,k⟩)).toNat&&& k.toNat:Nat):Int))/\Tch m w w':=by
 have ml:=hM.lt
 have mn:m≠w.heap.size:=by omega
 have HM:Hid (Mc w m (.slice sp sn dc) q a):=hM
 have HAO:Hid a.Ok:=ha
 have cr:=hM.reg r.toNat (by omega)
 have fr:=hM.froz (3+r.toNat)
 have bv:0<=a.reg.getD r.toNat 0/\a.reg.getD r.toNat 0<=4294967295:=ha.at ⟨6,r,t,f,k⟩
 obtain⟨v,hv⟩:∃v,a.reg.getD r.toNat 0=v:=⟨_,rfl⟩
 have HV:Hid (a.reg.getD r.toNat 0=v):=hv
 rw[hv] at cr bv
 have br0:=br.1
 have br4:=br.2
 have HAT:Hid (a.at ⟨6,r,t,f,k⟩=v):=hv
 have hand:=u32_and v k (by omega) (by omega) (by omega) (by omega)
 clear hM ha hv
 go_enter Tryz.func179,Tryz.ntmps179
 go_upto_region 11 with fail
 go_region
 all_goals
  go_wp2_with fail
  go_ret
  refine⟨rfl,?_,?_⟩
  ·rw[HAT.out]
   refine Mc.below (w:=w.setCell ⟨m,3+r.toNat,none⟩ (.int .u32 ((v.toNat&&& k.toNat:Nat):Int))) ?_ (Below.drew (bal _ _))
   exact HM.out.turn HAO.out ⟨6,r,t,f,k⟩ ⟨br0,br4⟩ _
  ·exact Tch.drew' (Tch.alloc ((Tch.refl _ _).set _ _) _)
theorem zSY (r t f k:Int) (m:Nat) (sp:Option Addr) (sn dc:Nat) (q:Int×Int) (a:St) (w:World) (br:0<=r/\r<4) (bk:0<=k/\k<=4294967295) (ha:a.Ok) (hM:Mc w m (.slice sp sn dc) q a) (hk:k<32):
 Calls Tryz.prog 179 #[.pointer (some ⟨m,0,none⟩),.agg #[.int .u8 7,.int .u8 r,.int .u8 t,.int .u8 f,.int .u32 k]] w fun e w'=>e= .returned (.int .u32 0)/\Mc w' m (.slice sp sn dc) q (a.turn ⟨7,r,t,f,k⟩ ((a.at ⟨7,r,t,f,k⟩) / 2 ^ k.toNat))/\Tch m w w':=by
 have ml:=hM.lt
 have mn:m≠w.heap.size:=by omega
 have HM:Hid (Mc w m (.slice sp sn dc) q a):=hM
 have HAO:Hid a.Ok:=ha
 have cr:=hM.reg r.toNat (by omega)
 have fr:=hM.froz (3+r.toNat)
 have bv:0<=a.reg.getD r.toNat 0/\a.reg.getD r.toNat 0<=4294967295:=ha.at ⟨7,r,t,f,k⟩
 obtain⟨v,hv⟩:∃v,a.reg.getD r.toNat 0=v:=⟨_,rfl⟩
 have HV:Hid (a.reg.getD r.toNat 0=v):=hv
 rw[hv] at cr bv
 have br0:=br.1
 have br4:=br.2
 have HAT:Hid (a.at ⟨7,r,t,f,k⟩=v):=hv
 clear hM ha hv
 go_enter Tryz.func179,Tryz.ntmps179
 go_upto_region 13 with fail
 go_region
 all_goals
  go_wp2_with fail
  go_ret
  refine⟨rfl,?_,?_⟩
  ·rw[HAT.out]
   refine Mc.below (w:=w.setCell ⟨m,3+r.toNat,none⟩ (.int .u32 (v / 2 ^ k.toNat))) ?_ (Below.drew (bal _ _))
   exact HM.out.turn HAO.out ⟨7,r,t,f,k⟩ ⟨br0,br4⟩ _
  ·exact Tch.drew' (Tch.alloc ((Tch.refl _ _).set _ _) _)
theorem zSZ (r t f k:Int) (m:Nat) (sp:Option Addr) (sn dc:Nat) (q:Int×Int) (a:St) (w:World) (br:0<=r/\r<4) (bt:0<=t/\t<=255) (bf:0<=f/\f<=255) (bk:0<=k/\k<=4294967295) (ha:a.Ok) (hM:Mc w m (.slice sp sn dc) q a):
 Calls Tryz.prog 179 #[.pointer (some ⟨m,0,none⟩),.agg #[.int .u8 8,.int .u8 r,.int .u8 t,.int .u8 f,.int .u32 k]] w fun e w'=>e= .returned (.int .u32 (a.over ⟨8,r,t,f,k⟩))/\Mc w' m (.slice sp sn dc) q a/\Tch m w w':=by
 have ml:=hM.lt;have mn:m≠w.heap.size:=by omega
 have HM:=hid hM;have HAO:Hid a.Ok:=ha;have cr:=hM.reg r.toNat (by omega);have fr:=hM.froz (3+r.toNat);have bv:0<=a.reg.getD r.toNat 0/\a.reg.getD r.toNat 0<=4294967295:=ha.at ⟨8,r,t,f,k⟩;obtain⟨v,hv⟩:∃v,a.reg.getD r.toNat 0=v:=⟨_,rfl⟩;have HV:=hid hv;rw[hv] at cr bv;have br0:=br.1;have br4:=br.2;obtain⟨ov,hov⟩:∃ov,a.over ⟨8,r,t,f,k⟩=ov:=⟨_,rfl⟩;rw[hov];have HOV:Hid ((if v == k then t else f)=ov):=by
  show(if v == k then t else f)=ov
  rw[<-hov];have e:a.goes ⟨8,r,t,f,k⟩=(v == k):=by
   unfold St.goes St.at;dsimp only;rw[hv];simp
  unfold St.over;rw[e];simp[Ins.branch]
 have hBr:=fun w=>zEF ⟨8,r,t,f,k⟩ (v == k) ⟨by simp,by dsimp only;omega,bt,bf,bk⟩ w
 unfold zCL zEE at hBr;dsimp only at hBr;rw[HOV.out] at hBr;have HKP:Hid (∀u,Below (w.heap.size+1) (w.alloc (.cells #[.int .u8 8,.int .u8 r,.int .u8 t,.int .u8 f,.int .u32 k] 250)) u->(fun w'=>w'.cell? ⟨w.heap.size,0,none⟩=some (.int .u8 8)/\w'.cell? ⟨w.heap.size,1,none⟩=some (.int .u8 r)/\w'.cell? ⟨w.heap.size,2,none⟩=some (.int .u8 t)/\w'.cell? ⟨w.heap.size,3,none⟩=some (.int .u8 f)/\w'.cell? ⟨w.heap.size,4,none⟩=some (.int .u32 k)/\w'.cell? ⟨m,3+r.toNat,none⟩=some (.int .u32 v)) u):=fun u hw=>by
  have hc:∀c,u.cell? ⟨w.heap.size,c,none⟩=(w.alloc (.cells #[.int .u8 8,.int .u8 r,.int .u8 t,.int .u8 f,.int .u32 k] 250)).cell? ⟨w.heap.size,c,none⟩:=fun c=>hw.cell (p:=⟨w.heap.size,c,none⟩) (by simp)
  have hd:∀c,u.cell? ⟨m,c,none⟩=w.cell? ⟨m,c,none⟩:=fun c=>(hw.cell (p:=⟨m,c,none⟩) (by show m<_;omega)).trans (World.cell?_alloc_lt _ _ _ ml)
  refine⟨?_,?_,?_,?_,?_,(hd _).trans cr⟩<;>(rw[hc,World.cell?_alloc_at _ _ _ _ rfl];rfl)
 clear hM ha hv hov HOV;go_enter Tryz.func179,Tryz.ntmps179;go_upto_region 15 with fail
 go_region_held3 (fun w'=>w'.cell? ⟨w.heap.size,0,none⟩=some (.int .u8 8)/\w'.cell? ⟨w.heap.size,1,none⟩=some (.int .u8 r)/\w'.cell? ⟨w.heap.size,2,none⟩=some (.int .u8 t)/\w'.cell? ⟨w.heap.size,3,none⟩=some (.int .u8 f)/\w'.cell? ⟨w.heap.size,4,none⟩=some (.int .u32 k)/\w'.cell? ⟨m,3+r.toNat,none⟩=some (.int .u32 v)) (first|(refine HKP.out _ ?_;(repeat (with_reducible first|exact Below.refl _ _|refine Below.drew ?_|refine below_drewN ?_ _|refine Below.alloc ?_ (by first|omega|(simp;done)|(simp;omega)|(simp[World.setCell];done)|(simp[World.setCell];omega)) _));done)) (first|(go_at_call 207;refine(hBr _).mono ?_;rintro e w' ⟨rfl,rfl⟩))
 all_goals
  go_wp2_with fail;go_ret;refine⟨rfl,?_,?_⟩
  ·exact HM.out.below (by repeat (with_reducible first|exact Below.refl _ _|refine Below.drew ?_|refine below_drewN ?_ _|refine Below.alloc ?_ (by first|omega|(simp;done)|(simp;omega)|(simp[World.setCell];done)|(simp[World.setCell];omega)) _))
  ·exact Tch.of (by repeat (with_reducible first|exact Below.refl _ _|refine Below.drew ?_|refine below_drewN ?_ _|refine Below.alloc ?_ (by first|omega|(simp;done)|(simp;omega)|(simp[World.setCell];done)|(simp[World.setCell];omega)) _))
theorem zSa (r t f k:Int) (m:Nat) (sp:Option Addr) (sn dc:Nat) (q:Int×Int) (a:St) (w:World) (br:0<=r/\r<4) (bt:0<=t/\t<=255) (bf:0<=f/\f<=255) (bk:0<=k/\k<=4294967295) (ha:a.Ok) (hM:Mc w m (.slice sp sn dc) q a):
 Calls Tryz.prog 179 #[.pointer (some ⟨m,0,none⟩),.agg #[.int .u8 9,.int .u8 r,.int .u8 t,.int .u8 f,.int .u32 k]] w fun e w'=>e= .returned (.int .u32 (a.over ⟨9,r,t,f,k⟩))/\Mc w' m (.slice sp sn dc) q a/\Tch m w w':=by
 have ml:=hM.lt;have mn:m≠w.heap.size:=by omega
 have HM:=hid hM;have HAO:Hid a.Ok:=ha;have cr:=hM.reg r.toNat (by omega);have fr:=hM.froz (3+r.toNat);have bv:0<=a.reg.getD r.toNat 0/\a.reg.getD r.toNat 0<=4294967295:=ha.at ⟨9,r,t,f,k⟩;obtain⟨v,hv⟩:∃v,a.reg.getD r.toNat 0=v:=⟨_,rfl⟩;have HV:=hid hv;rw[hv] at cr bv;have br0:=br.1;have br4:=br.2;obtain⟨ov,hov⟩:∃ov,a.over ⟨9,r,t,f,k⟩=ov:=⟨_,rfl⟩;rw[hov];have HOV:Hid ((if decide (k<=v) then t else f)=ov):=by
  show(if decide (k<=v) then t else f)=ov
  rw[<-hov];have e:a.goes ⟨9,r,t,f,k⟩=(decide (k<=v)):=by
   unfold St.goes St.at;dsimp only;rw[hv];simp
  unfold St.over;rw[e];simp[Ins.branch]
 have hBr:=fun w=>zEF ⟨9,r,t,f,k⟩ (decide (k<=v)) ⟨by simp,by dsimp only;omega,bt,bf,bk⟩ w
 unfold zCL zEE at hBr;dsimp only at hBr;rw[HOV.out] at hBr;have HKP:Hid (∀u,Below (w.heap.size+1) (w.alloc (.cells #[.int .u8 9,.int .u8 r,.int .u8 t,.int .u8 f,.int .u32 k] 250)) u->(fun w'=>w'.cell? ⟨w.heap.size,0,none⟩=some (.int .u8 9)/\w'.cell? ⟨w.heap.size,1,none⟩=some (.int .u8 r)/\w'.cell? ⟨w.heap.size,2,none⟩=some (.int .u8 t)/\w'.cell? ⟨w.heap.size,3,none⟩=some (.int .u8 f)/\w'.cell? ⟨w.heap.size,4,none⟩=some (.int .u32 k)/\w'.cell? ⟨m,3+r.toNat,none⟩=some (.int .u32 v)) u):=fun u hw=>by
  have hc:∀c,u.cell? ⟨w.heap.size,c,none⟩=(w.alloc (.cells #[.int .u8 9,.int .u8 r,.int .u8 t,.int .u8 f,.int .u32 k] 250)).cell? ⟨w.heap.size,c,none⟩:=fun c=>hw.cell (p:=⟨w.heap.size,c,none⟩) (by simp)
  have hd:∀c,u.cell? ⟨m,c,none⟩=w.cell? ⟨m,c,none⟩:=fun c=>(hw.cell (p:=⟨m,c,none⟩) (by show m<_;omega)).trans (World.cell?_alloc_lt _ _ _ ml)
  refine⟨?_,?_,?_,?_,?_,(hd _).trans cr⟩<;>(rw[hc,World.cell?_alloc_at _ _ _ _ rfl];rfl)
 clear hM ha hv hov HOV;go_enter Tryz.func179,Tryz.ntmps179;go_upto_region 17 with fail
 go_region_held3 (fun w'=>w'.cell? ⟨w.heap.size,0,none⟩=some (.int .u8 9)/\w'.cell? ⟨w.heap.size,1,none⟩=some (.int .u8 r)/\w'.cell? ⟨w.heap.size,2,none⟩=some (.int .u8 t)/\w'.cell? ⟨w.heap.size,3,none⟩=some (.int .u8 f)/\w'.cell? ⟨w.heap.size,4,none⟩=some (.int .u32 k)/\w'.cell? ⟨m,3+r.toNat,none⟩=some (.int .u32 v)) (first|(refine HKP.out _ ?_;(repeat (with_reducible first|exact Below.refl _ _|refine Below.drew ?_|refine below_drewN ?_ _|refine Below.alloc ?_ (by first|omega|(simp;done)|(simp;omega)|(simp[World.setCell];done)|(simp[World.setCell];omega)) _));done)) (first|(go_at_call 207;refine(hBr _).mono ?_;rintro e w' ⟨rfl,rfl⟩))
 all_goals
  go_wp2_with fail;go_ret;refine⟨rfl,?_,?_⟩
  ·exact HM.out.below (by repeat (with_reducible first|exact Below.refl _ _|refine Below.drew ?_|refine below_drewN ?_ _|refine Below.alloc ?_ (by first|omega|(simp;done)|(simp;omega)|(simp[World.setCell];done)|(simp[World.setCell];omega)) _))
  ·exact Tch.of (by repeat (with_reducible first|exact Below.refl _ _|refine Below.drew ?_|refine below_drewN ?_ _|refine Below.alloc ?_ (by first|omega|(simp;done)|(simp;omega)|(simp[World.setCell];done)|(simp[World.setCell];omega)) _))
theorem zSA (r t f k:Int) (m:Nat) (sp:Option Addr) (sn dc:Nat) (q:Int×Int) (a:St) (w:World) (br:0<=r/\r<4) (bt:0<=t/\t<=255) (bf:0<=f/\f<=255) (bk:0<=k/\k<=4294967295) (ha:a.Ok) (hM:Mc w m (.slice sp sn dc) q a):
 Calls Tryz.prog 179 #[.pointer (some ⟨m,0,none⟩),.agg #[.int .u8 10,.int .u8 r,.int .u8 t,.int .u8 f,.int .u32 k]] w fun e w'=>e= .returned (.int .u32 (a.over ⟨10,r,t,f,k⟩))/\Mc w' m (.slice sp sn dc) q a/\Tch m w w':=by
 have ml:=hM.lt;have mn:m≠w.heap.size:=by omega
 have HM:=hid hM;have HAO:Hid a.Ok:=ha;have cr:=hM.reg r.toNat (by omega);have fr:=hM.froz (3+r.toNat);have bv:0<=a.reg.getD r.toNat 0/\a.reg.getD r.toNat 0<=4294967295:=ha.at ⟨10,r,t,f,k⟩;obtain⟨v,hv⟩:∃v,a.reg.getD r.toNat 0=v:=⟨_,rfl⟩;have HV:=hid hv;rw[hv] at cr bv;have br0:=br.1;have br4:=br.2;obtain⟨ov,hov⟩:∃ov,a.over ⟨10,r,t,f,k⟩=ov:=⟨_,rfl⟩;rw[hov];have HOV:Hid ((if((v.toNat&&& k.toNat:Nat):Int) !=0 then t else f)=ov):=by
  show(if((v.toNat&&& k.toNat:Nat):Int) !=0 then t else f)=ov
  rw[<-hov];have e:a.goes ⟨10,r,t,f,k⟩=(((v.toNat&&& k.toNat:Nat):Int) !=0):=by
   unfold St.goes St.at;dsimp only;rw[hv];simp;generalize v.toNat&&& k.toNat=z
   by_cases hz:z=0
   ·subst hz;rfl
   ·have h1:(z == 0)=false:=by simpa using hz
    have h2:((z:Int) !=0)=true:=by simp;omega
    rw[h1,h2];rfl
  unfold St.over;rw[e];simp[Ins.branch]
 have hBr:=fun w=>zEF ⟨10,r,t,f,k⟩ (((v.toNat&&& k.toNat:Nat):Int) !=0) ⟨by simp,by dsimp only;omega,bt,bf,bk⟩ w
 unfold zCL zEE at hBr;dsimp only at hBr;rw[HOV.out] at hBr;have HKP:Hid (∀u,Below (w.heap.size+1) (w.alloc (.cells #[.int .u8 10,.int .u8 r,.int .u8 t,.int .u8 f,.int .u32 k] 250)) u->(fun w'=>w'.cell? ⟨w.heap.size,0,none⟩=some (.int .u8 10)/\w'.cell? ⟨w.heap.size,1,none⟩=some (.int .u8 r)/\w'.cell? ⟨w.heap.size,2,none⟩=some (.int .u8 t)/\w'.cell? ⟨w.heap.size,3,none⟩=some (.int .u8 f)/\w'.cell? ⟨w.heap.size,4,none⟩=some (.int .u32 k)/\w'.cell? ⟨m,3+r.toNat,none⟩=some (.int .u32 v)) u):=fun u hw=>by
  have hc:∀c,u.cell? ⟨w.heap.size,c,none⟩=(w.alloc (.cells #[.int .u8 10,.int .u8 r,.int .u8 t,.int .u8 f,.int .u32 k] 250)).cell? ⟨w.heap.size,c,none⟩:=fun c=>hw.cell (p:=⟨w.heap.size,c,none⟩) (by simp)
  have hd:∀c,u.cell? ⟨m,c,none⟩=w.cell? ⟨m,c,none⟩:=fun c=>(hw.cell (p:=⟨m,c,none⟩) (by show m<_;omega)).trans (World.cell?_alloc_lt _ _ _ ml)
  refine⟨?_,?_,?_,?_,?_,(hd _).trans cr⟩<;>(rw[hc,World.cell?_alloc_at _ _ _ _ rfl];rfl)
 have hand:=u32_and v k (by omega) (by omega) (by omega) (by omega);clear hM ha hv hov HOV;go_enter Tryz.func179,Tryz.ntmps179;go_upto_region 19 with fail
 go_region_held3 (fun w'=>w'.cell? ⟨w.heap.size,0,none⟩=some (.int .u8 10)/\w'.cell? ⟨w.heap.size,1,none⟩=some (.int .u8 r)/\w'.cell? ⟨w.heap.size,2,none⟩=some (.int .u8 t)/\w'.cell? ⟨w.heap.size,3,none⟩=some (.int .u8 f)/\w'.cell? ⟨w.heap.size,4,none⟩=some (.int .u32 k)/\w'.cell? ⟨m,3+r.toNat,none⟩=some (.int .u32 v)) (first|(refine HKP.out _ ?_;(repeat (with_reducible first|exact Below.refl _ _|refine Below.drew ?_|refine below_drewN ?_ _|refine Below.alloc ?_ (by first|omega|(simp;done)|(simp;omega)|(simp[World.setCell];done)|(simp[World.setCell];omega)) _));done)) (first|(go_at_call 207;refine(hBr _).mono ?_;rintro e w' ⟨rfl,rfl⟩))
 all_goals
  go_wp2_with fail;go_ret;refine⟨rfl,?_,?_⟩
  ·exact HM.out.below (by repeat (with_reducible first|exact Below.refl _ _|refine Below.drew ?_|refine below_drewN ?_ _|refine Below.alloc ?_ (by first|omega|(simp;done)|(simp;omega)|(simp[World.setCell];done)|(simp[World.setCell];omega)) _))
  ·exact Tch.of (by repeat (with_reducible first|exact Below.refl _ _|refine Below.drew ?_|refine below_drewN ?_ _|refine Below.alloc ?_ (by first|omega|(simp;done)|(simp;omega)|(simp[World.setCell];done)|(simp[World.setCell];omega)) _))
theorem zSB (r t f k:Int) (m:Nat) (sp:Option Addr) (sn dc:Nat) (q:Int×Int) (a:St) (w:World) (br:0<=r/\r<4) (bk:0<=k/\k<=4294967295) (ha:a.Ok) (hM:Mc w m (.slice sp sn dc) q a):
 Calls Tryz.prog 179 #[.pointer (some ⟨m,0,none⟩),.agg #[.int .u8 11,.int .u8 r,.int .u8 t,.int .u8 f,.int .u32 k]] w fun e w'=>e= .returned (.int .u32 k)/\Mc w' m (.slice sp sn dc) q a/\Tch m w w':=by
 have HM:=hid hM;clear hM;go_enter Tryz.func179,Tryz.ntmps179;go_wp2_with fail;go_ret;refine⟨rfl,HM.out.below (bal _ _),Tch.of (bal _ _)⟩
end Go.Proofs.YtclpnafiiobfhaaGreatDoor
